import PyProof.Rows.All
import KE.OsGo
import KE.OsArgs
import PySem.Challenge.RW_widetexts_s01_class_of
open PySem PySem.W
set_option Elab.async false
namespace Wt
/-! A loop over a table of the file's top (a tuple of pairs, of triples, of whole numbers): by what is left of its rows. -/
section
variable {prog : Program} {w : World} {A : Around} {E : Value → Shared → Prop} {s : Shared} {env : Env} {h₀ : Heap} {target : PySem.Expr} {body : List Stmt} {Q : Flow → Shared → Prop} {K : Frag}
/-- the rows' relation, item by item -/
def RowsAre {ρ : Type} (Rel : Value → ρ → Prop) : List Value → List ρ → Prop
  | [], [] => True
  | v :: vs, r :: rs => Rel v r ∧ RowsAre Rel vs rs
  | _, _ => False
/-- what a turn must show: the rest of the rows, the same ledger, a frame of the loop's own form -/
def Next {ρ σ : Type} (M : σ → Str → Option Value) (news : List (Addr × Obj)) (inv : List ρ → Prop) (rs : List ρ) (m' : Str → Option Value) (n' : List (Addr × Obj)) : Prop :=
  ∃ st, m' = M st ∧ n' = news ∧ inv rs
theorem post_mono {L : Addr} {s₁ s₂ : Shared} {its : List (Addr × Obj)} {r1 r2 : (Str → Option Value) → List (Addr × Obj) → Prop} {f : Flow}
    (h : UnrPostW h₀ L s₁ its r1 Q f s₂) (k : ∀ m n, r1 m n → r2 m n) : UnrPostW h₀ L s₁ its r2 Q f s₂ := by
  cases f with
  | ret v => exact h
  | brk => exact h
  | next =>
    obtain ⟨h', tk, m', n', e, F, N, o, r⟩ := h
    exact ⟨h', tk, m', n', e, F, N, o, k _ _ r⟩
  | cont =>
    obtain ⟨h', tk, m', n', e, F, N, o, r⟩ := h
    exact ⟨h', tk, m', n', e, F, N, o, k _ _ r⟩
theorem items_of {ρ σ : Type} {Rel : Value → ρ → Prop} {M : σ → Str → Option Value} {news : List (Addr × Obj)} {inv : List ρ → Prop} {I : Addr}
    (step : ∀ v r rs st h tk o, Rel v r → inv (r :: rs) → PyProof.Rows.Fr h₀ env.locals h (M st) → o.cls = .type "tuple_iterator" → PyProof.Rows.News h₀ env.locals h ((I, o) :: news) →
      wpAny (model prog w) A (assign target env v) (fun _ s₂ => wpAny (model prog w) A (execs body env) (UnrPostW h₀ env.locals { s with heap := h, toks := tk } [(I, o)] (Next M news inv rs) Q) E s₂) E { s with heap := h, toks := tk })
    (fin : ∀ st h tk, inv [] → PyProof.Rows.Fr h₀ env.locals h (M st) → PyProof.Rows.News h₀ env.locals h news → Q .next { s with heap := h, toks := tk }) :
    ∀ (vs : List Value) (rs : List ρ) (st : σ), RowsAre Rel vs rs → inv rs → ItemsRest prog w A E h₀ env target body Q s [(I, "tuple_iterator")] [] (vs.map .val) (M st) news
  | [], [], st, _, hi => fun h tk F N => fin st h tk hi F N
  | [], _ :: _, _, hr, _ => (show False from hr).elim
  | _ :: _, [], _, hr, _ => (show False from hr).elim
  | v :: vs, r :: rs, st, hr, hi => by
    intro u h tk e F
    have e' : u = v := e
    subst e'
    intro o ho
    intro N
    refine wpAny_mono (step u r rs st h tk o hr.1 hi F ho N) (fun _ s₂ h₂ => wpAny_mono h₂ (fun f s₃ p => post_mono p fun m n q => ?_) fun _ _ e => e) fun _ _ e => e
    obtain ⟨st', e1, e2, q'⟩ := q
    subst e1 e2
    exact ⟨trivial, items_of step fin vs rs st' hr.2 q'⟩
/-- a turn's end, the ledger a letter -/
theorem next_open {ρ σ : Type} {L i : Addr} {o : Obj} {n : List (Addr × Obj)} {M : σ → Str → Option Value} {inv : List ρ → Prop} {rs : List ρ} {s₁ : Shared} {h' : Heap} {tk : Nat} {m' : Str → Option Value} (st : σ)
    (F : PyProof.Rows.Fr h₀ L h' m') (N : PyProof.Rows.News h₀ L h' ((i, o) :: n)) (l1 : ∀ p ∈ n, p.1 < i) (e : m' = M st) (q : inv rs) :
    UnrEndW h₀ L s₁ [(i, o)] (Next M n inv rs) { s₁ with heap := h', toks := tk } :=
  ⟨h', tk, m', n, rfl, F, N, fun p hp q hq e => by
    have e1 := List.mem_singleton.mp hq
    subst e1
    exact absurd (l1 p hp) (e ▸ Nat.lt_irrefl _), st, e, rfl, q⟩
def Goes {ρ : Type} (rows : List ρ) (inv : List ρ → Prop) : Prop := inv rows
abbrev map1 (X : Str) (m₀ : Str → Option Value) : Option (Value) → Str → Option Value
  | none => m₀
  | some p => fun z => if z = X then some p else m₀ z
abbrev Row1 (v : Value) (r : Int) : Prop := ∃ t, v = .int r t
theorem iter_table1 {X : Str} {ax : Addr} {lo : Obj} {vs : List Value} {n : Nat} {m₀ : Str → Option Value} {news : List (Addr × Obj)} {rows : List (Int)} {inv : List (Int) → Prop}
    (hh : A.handled = none) (F : PyProof.Rows.Fr h₀ env.locals s.heap m₀) (N : PyProof.Rows.News h₀ env.locals s.heap news) (X₀ : K.In h₀) (hk : K.lookup ax = some lo) (hc : lo.cls = .type "tuple") (hd : lo.data = .seq vs.toArray n)
    (hz : vs.length ≤ 24) (hr : RowsAre Row1 vs rows) (hg : Goes rows inv)
    (step0 : ∀ (I : Addr) (a : Int) (ta : Tok) rs h tk o, (∀ p ∈ news, p.1 < I) → inv ((a) :: rs) → PyProof.Rows.Fr h₀ env.locals h m₀ → o.cls = .type "tuple_iterator" → PyProof.Rows.News h₀ env.locals h ((I, o) :: news) →
      wpAny (model prog w) A (assign target env (.int a ta)) (fun _ s₂ => wpAny (model prog w) A (execs body env) (UnrPostW h₀ env.locals { s with heap := h, toks := tk } [(I, o)] (Next (map1 X m₀) news inv rs) Q) E s₂) E { s with heap := h, toks := tk })
    (step1 : ∀ (I : Addr) (a : Int) (ta : Tok) (a' : Value) rs h tk o, (∀ p ∈ news, p.1 < I) → inv ((a) :: rs) → PyProof.Rows.Fr h₀ env.locals h (fun z => if z = X then some a' else m₀ z) → o.cls = .type "tuple_iterator" → PyProof.Rows.News h₀ env.locals h ((I, o) :: news) →
      wpAny (model prog w) A (assign target env (.int a ta)) (fun _ s₂ => wpAny (model prog w) A (execs body env) (UnrPostW h₀ env.locals { s with heap := h, toks := tk } [(I, o)] (Next (map1 X m₀) news inv rs) Q) E s₂) E { s with heap := h, toks := tk })
    (fin0 : ∀ h tk, inv [] → PyProof.Rows.Fr h₀ env.locals h m₀ → PyProof.Rows.News h₀ env.locals h news → Q .next { s with heap := h, toks := tk })
    (fin1 : ∀ (a' : Value) h tk, inv [] → PyProof.Rows.Fr h₀ env.locals h (fun z => if z = X then some a' else m₀ z) → PyProof.Rows.News h₀ env.locals h news → Q .next { s with heap := h, toks := tk }) :
    wpAny (model prog w) A (pyIter (.ref ax)) (fun it s₂ => TurnsAt prog w A h₀ env target body Q E it s₂) E s := by
  refine iter_tupK hh F N X₀ hk hc hd hz fun I hI => ?_
  refine items_of (M := map1 X m₀) (Rel := Row1) (inv := inv) (fun v r rs st h tk o hv hi F' ho N' => ?_) (fun st h tk hi F' N' => ?_) vs rows none hr hg
  · obtain ⟨t, rfl⟩ := hv
    cases st with
    | none => exact step0 I _ _ rs h tk o hI hi F' ho N'
    | some p => exact step1 I _ _ p rs h tk o hI hi F' ho N'
  · cases st with
    | none => exact fin0 h tk hi F' N'
    | some p => exact fin1 p h tk hi F' N'
abbrev map2 (X Y : Str) (m₀ : Str → Option Value) : Option (Value × Value) → Str → Option Value
  | none => m₀
  | some p => fun z => if z = Y then some p.2 else if z = X then some p.1 else m₀ z
abbrev Row2 (K : Frag) (v : Value) (r : Int × Int) : Prop := ∃ x lo ta tb e, v = .ref x ∧ K.lookup x = some lo ∧ lo.cls = .type "tuple" ∧ lo.data = .seq #[.int r.1 ta, .int r.2 tb] e
theorem iter_table2 {X Y : Str} {ax : Addr} {lo : Obj} {vs : List Value} {n : Nat} {m₀ : Str → Option Value} {news : List (Addr × Obj)} {rows : List (Int × Int)} {inv : List (Int × Int) → Prop}
    (hh : A.handled = none) (F : PyProof.Rows.Fr h₀ env.locals s.heap m₀) (N : PyProof.Rows.News h₀ env.locals s.heap news) (X₀ : K.In h₀) (hk : K.lookup ax = some lo) (hc : lo.cls = .type "tuple") (hd : lo.data = .seq vs.toArray n)
    (hz : vs.length ≤ 24) (hr : RowsAre (Row2 K) vs rows) (hg : Goes rows inv)
    (step0 : ∀ (I : Addr) (x : Addr) (a b : Int) (ta tb : Tok) rs h tk o, (∀ p ∈ news, p.1 < I) → PyProof.Rows.IsTup h x #[.int a ta, .int b tb] → inv ((a, b) :: rs) → PyProof.Rows.Fr h₀ env.locals h m₀ → o.cls = .type "tuple_iterator" → PyProof.Rows.News h₀ env.locals h ((I, o) :: news) →
      wpAny (model prog w) A (assign target env (.ref x)) (fun _ s₂ => wpAny (model prog w) A (execs body env) (UnrPostW h₀ env.locals { s with heap := h, toks := tk } [(I, o)] (Next (map2 X Y m₀) news inv rs) Q) E s₂) E { s with heap := h, toks := tk })
    (step1 : ∀ (I : Addr) (x : Addr) (a b : Int) (ta tb : Tok) (a' b' : Value) rs h tk o, (∀ p ∈ news, p.1 < I) → PyProof.Rows.IsTup h x #[.int a ta, .int b tb] → inv ((a, b) :: rs) → PyProof.Rows.Fr h₀ env.locals h (fun z => if z = Y then some b' else if z = X then some a' else m₀ z) → o.cls = .type "tuple_iterator" → PyProof.Rows.News h₀ env.locals h ((I, o) :: news) →
      wpAny (model prog w) A (assign target env (.ref x)) (fun _ s₂ => wpAny (model prog w) A (execs body env) (UnrPostW h₀ env.locals { s with heap := h, toks := tk } [(I, o)] (Next (map2 X Y m₀) news inv rs) Q) E s₂) E { s with heap := h, toks := tk })
    (fin0 : ∀ h tk, inv [] → PyProof.Rows.Fr h₀ env.locals h m₀ → PyProof.Rows.News h₀ env.locals h news → Q .next { s with heap := h, toks := tk })
    (fin1 : ∀ (a' b' : Value) h tk, inv [] → PyProof.Rows.Fr h₀ env.locals h (fun z => if z = Y then some b' else if z = X then some a' else m₀ z) → PyProof.Rows.News h₀ env.locals h news → Q .next { s with heap := h, toks := tk }) :
    wpAny (model prog w) A (pyIter (.ref ax)) (fun it s₂ => TurnsAt prog w A h₀ env target body Q E it s₂) E s := by
  refine iter_tupK hh F N X₀ hk hc hd hz fun I hI => ?_
  refine items_of (M := map2 X Y m₀) (Rel := (Row2 K)) (inv := inv) (fun v r rs st h tk o hv hi F' ho N' => ?_) (fun st h tk hi F' N' => ?_) vs rows none hr hg
  · obtain ⟨x, lo', ta, tb, e, rfl, hk', hc', hd'⟩ := hv
    have T : PyProof.Rows.IsTup h x #[.int r.1 ta, .int r.2 tb] := ⟨lo', F'.keep _ _ (X₀ _ _ hk'), hc', e, hd'⟩
    cases st with
    | none => exact step0 I x _ _ _ _ rs h tk o hI T hi F' ho N'
    | some p => exact step1 I x _ _ _ _ p.1 p.2 rs h tk o hI T hi F' ho N'
  · cases st with
    | none => exact fin0 h tk hi F' N'
    | some p => exact fin1 p.1 p.2 h tk hi F' N'
abbrev map3 (X Y Z : Str) (m₀ : Str → Option Value) : Option (Value × Value × Value) → Str → Option Value
  | none => m₀
  | some p => fun z => if z = Z then some p.2.2 else if z = Y then some p.2.1 else if z = X then some p.1 else m₀ z
abbrev Row3 (K : Frag) (v : Value) (r : Int × Int × Int) : Prop := ∃ x lo ta tb td e, v = .ref x ∧ K.lookup x = some lo ∧ lo.cls = .type "tuple" ∧ lo.data = .seq #[.int r.1 ta, .int r.2.1 tb, .int r.2.2 td] e
theorem iter_table3 {X Y Z : Str} {ax : Addr} {lo : Obj} {vs : List Value} {n : Nat} {m₀ : Str → Option Value} {news : List (Addr × Obj)} {rows : List (Int × Int × Int)} {inv : List (Int × Int × Int) → Prop}
    (hh : A.handled = none) (F : PyProof.Rows.Fr h₀ env.locals s.heap m₀) (N : PyProof.Rows.News h₀ env.locals s.heap news) (X₀ : K.In h₀) (hk : K.lookup ax = some lo) (hc : lo.cls = .type "tuple") (hd : lo.data = .seq vs.toArray n)
    (hz : vs.length ≤ 24) (hr : RowsAre (Row3 K) vs rows) (hg : Goes rows inv)
    (step0 : ∀ (I : Addr) (x : Addr) (a b d : Int) (ta tb td : Tok) rs h tk o, (∀ p ∈ news, p.1 < I) → PyProof.Rows.IsTup h x #[.int a ta, .int b tb, .int d td] → inv ((a, b, d) :: rs) → PyProof.Rows.Fr h₀ env.locals h m₀ → o.cls = .type "tuple_iterator" → PyProof.Rows.News h₀ env.locals h ((I, o) :: news) →
      wpAny (model prog w) A (assign target env (.ref x)) (fun _ s₂ => wpAny (model prog w) A (execs body env) (UnrPostW h₀ env.locals { s with heap := h, toks := tk } [(I, o)] (Next (map3 X Y Z m₀) news inv rs) Q) E s₂) E { s with heap := h, toks := tk })
    (step1 : ∀ (I : Addr) (x : Addr) (a b d : Int) (ta tb td : Tok) (a' b' d' : Value) rs h tk o, (∀ p ∈ news, p.1 < I) → PyProof.Rows.IsTup h x #[.int a ta, .int b tb, .int d td] → inv ((a, b, d) :: rs) → PyProof.Rows.Fr h₀ env.locals h (fun z => if z = Z then some d' else if z = Y then some b' else if z = X then some a' else m₀ z) → o.cls = .type "tuple_iterator" → PyProof.Rows.News h₀ env.locals h ((I, o) :: news) →
      wpAny (model prog w) A (assign target env (.ref x)) (fun _ s₂ => wpAny (model prog w) A (execs body env) (UnrPostW h₀ env.locals { s with heap := h, toks := tk } [(I, o)] (Next (map3 X Y Z m₀) news inv rs) Q) E s₂) E { s with heap := h, toks := tk })
    (fin0 : ∀ h tk, inv [] → PyProof.Rows.Fr h₀ env.locals h m₀ → PyProof.Rows.News h₀ env.locals h news → Q .next { s with heap := h, toks := tk })
    (fin1 : ∀ (a' b' d' : Value) h tk, inv [] → PyProof.Rows.Fr h₀ env.locals h (fun z => if z = Z then some d' else if z = Y then some b' else if z = X then some a' else m₀ z) → PyProof.Rows.News h₀ env.locals h news → Q .next { s with heap := h, toks := tk }) :
    wpAny (model prog w) A (pyIter (.ref ax)) (fun it s₂ => TurnsAt prog w A h₀ env target body Q E it s₂) E s := by
  refine iter_tupK hh F N X₀ hk hc hd hz fun I hI => ?_
  refine items_of (M := map3 X Y Z m₀) (Rel := (Row3 K)) (inv := inv) (fun v r rs st h tk o hv hi F' ho N' => ?_) (fun st h tk hi F' N' => ?_) vs rows none hr hg
  · obtain ⟨x, lo', ta, tb, td, e, rfl, hk', hc', hd'⟩ := hv
    have T : PyProof.Rows.IsTup h x #[.int r.1 ta, .int r.2.1 tb, .int r.2.2 td] := ⟨lo', F'.keep _ _ (X₀ _ _ hk'), hc', e, hd'⟩
    cases st with
    | none => exact step0 I x _ _ _ _ _ _ rs h tk o hI T hi F' ho N'
    | some p => exact step1 I x _ _ _ _ _ _ p.1 p.2.1 p.2.2 rs h tk o hI T hi F' ho N'
  · cases st with
    | none => exact fin0 h tk hi F' N'
    | some p => exact fin1 p.1 p.2.1 p.2.2 h tk hi F' N'
end
abbrev tNO : List (Int × Int) := [(55296, 57343), (1114112, 4294967295)]
abbrev tBL : List (Int × Int) := [(9, 13), (32, 32), (133, 133), (160, 160), (8192, 8202), (8232, 8233), (8239, 8239), (12288, 12288)]
abbrev tCT : List (Int × Int) := [(0, 31), (127, 159)]
abbrev tLE : List (Int × Int) := [(65, 90), (97, 122), (192, 214), (216, 246), (248, 255), (376, 376), (383, 383), (913, 929), (931, 937), (945, 969), (1024, 1119), (1488, 1514), (8490, 8490), (19968, 40959), (44032, 55203), (65313, 65338), (65345, 65370)]
abbrev tMA : List (Int × Int) := [(768, 879)]
abbrev tSI : List (Int × Int) := [(33, 47), (58, 64), (91, 96), (123, 126)]
def digB (c : Int) : Bool := decide ((48 ≤ c ∧ c ≤ 57) ∨ (1632 ≤ c ∧ c ≤ 1641) ∨ (1776 ≤ c ∧ c ≤ 1785) ∨ (2406 ≤ c ∧ c ≤ 2415) ∨ (65296 ≤ c ∧ c ≤ 65305))
theorem dig_t {c : Int} (h : (48 ≤ c ∧ c ≤ 57) ∨ (1632 ≤ c ∧ c ≤ 1641) ∨ (1776 ≤ c ∧ c ≤ 1785) ∨ (2406 ≤ c ∧ c ≤ 2415) ∨ (65296 ≤ c ∧ c ≤ 65305)) : true = digB c := (decide_eq_true h).symm
theorem dig_f {c : Int} (h : ¬ ((48 ≤ c ∧ c ≤ 57) ∨ (1632 ≤ c ∧ c ≤ 1641) ∨ (1776 ≤ c ∧ c ≤ 1785) ∨ (2406 ≤ c ∧ c ≤ 2415) ∨ (65296 ≤ c ∧ c ≤ 65305))) : false = digB c := (decide_eq_false h).symm
def Con (_tb : Nat) (P : Prop) : Prop := P
theorem Con.out {tb : Nat} {P : Prop} (h : Con tb P) : P := h
def inAny (rs : List (Int × Int)) (c : Int) : Bool := rs.any fun r => decide (r.1 ≤ c) && decide (c ≤ r.2)
theorem inAny_cons (a b : Int) (rs : List (Int × Int)) (c : Int) : inAny ((a, b) :: rs) c = ((decide (a ≤ c) && decide (c ≤ b)) || inAny rs c) := rfl
theorem hit2 {a b c : Int} {rs : List (Int × Int)} {g : Bool} (h : inAny ((a, b) :: rs) c = g) (h1 : a ≤ c) (h2 : c ≤ b) : true = g := by
  rw [← h, inAny_cons, decide_eq_true h1, decide_eq_true h2]
  rfl
theorem miss2 {a b c : Int} {rs : List (Int × Int)} {g : Bool} (h : inAny ((a, b) :: rs) c = g) (q : ¬ (a ≤ c ∧ c ≤ b)) : inAny rs c = g := by
  rw [← h, inAny_cons]
  have e : (decide (a ≤ c) && decide (c ≤ b)) = false := by
    cases e1 : decide (a ≤ c) with
    | false => rfl
    | true =>
      cases e2 : decide (c ≤ b) with
      | false => rfl
      | true => exact absurd ⟨of_decide_eq_true e1, of_decide_eq_true e2⟩ q
  rw [e]
  rfl
theorem sweep2 {X Y : Str} {m₀ : Str → Option Value} {a b a' b' : Value} : (fun y => if y = Y then some b else if y = X then some a else if y = Y then some b' else if y = X then some a' else m₀ y) = map2 X Y m₀ (some (a, b)) := by
  funext z
  by_cases h1 : z = Y
  · simp only [if_pos h1]
  · by_cases h2 : z = X
    · simp only [if_neg h1, if_pos h2]
    · simp only [if_neg h1, if_neg h2]
theorem rows_nil {ρ : Type} {Rel : Value → ρ → Prop} : RowsAre Rel [] [] := trivial
theorem rows2_cons {K : Frag} {x : Addr} {lo : Obj} {a b : Int} {ta tb : Tok} {e : Nat} {vs : List Value} {rs : List (Int × Int)} (hk : K.lookup x = some lo) (hc : lo.cls = .type "tuple") (hd : lo.data = .seq #[.int a ta, .int b tb] e)
    (hr : RowsAre (Row2 K) vs rs) : RowsAre (Row2 K) (.ref x :: vs) ((a, b) :: rs) := ⟨⟨x, lo, ta, tb, e, rfl, hk, hc, hd⟩, hr⟩
def clsI (c : Int) : Int := if inAny tNO c = true then 7 else if inAny tBL c = true then 3 else if inAny tCT c = true then 4 else if digB c = true then 2 else if inAny tLE c = true then 1 else if inAny tMA c = true then 5 else if inAny tSI c = true then 6 else 0
theorem ne_t {b : Bool} (h : b = false) : ¬ b = true := by rw [h]; exact Bool.false_ne_true
theorem cls7 {c : Int} (h1 : inAny tNO c = true) : clsI c = 7 := by rw [clsI, if_pos h1]
theorem cls3 {c : Int} (h1 : inAny tNO c = false) (h2 : inAny tBL c = true) : clsI c = 3 := by rw [clsI, if_neg (ne_t h1), if_pos h2]
theorem cls4 {c : Int} (h1 : inAny tNO c = false) (h2 : inAny tBL c = false) (h3 : inAny tCT c = true) : clsI c = 4 := by rw [clsI, if_neg (ne_t h1), if_neg (ne_t h2), if_pos h3]
theorem cls2 {c : Int} (h1 : inAny tNO c = false) (h2 : inAny tBL c = false) (h3 : inAny tCT c = false) (h4 : digB c = true) : clsI c = 2 := by rw [clsI, if_neg (ne_t h1), if_neg (ne_t h2), if_neg (ne_t h3), if_pos h4]
theorem cls1 {c : Int} (h1 : inAny tNO c = false) (h2 : inAny tBL c = false) (h3 : inAny tCT c = false) (h4 : digB c = false) (h5 : inAny tLE c = true) : clsI c = 1 := by rw [clsI, if_neg (ne_t h1), if_neg (ne_t h2), if_neg (ne_t h3), if_neg (ne_t h4), if_pos h5]
theorem cls5 {c : Int} (h1 : inAny tNO c = false) (h2 : inAny tBL c = false) (h3 : inAny tCT c = false) (h4 : digB c = false) (h5 : inAny tLE c = false) (h6 : inAny tMA c = true) : clsI c = 5 := by rw [clsI, if_neg (ne_t h1), if_neg (ne_t h2), if_neg (ne_t h3), if_neg (ne_t h4), if_neg (ne_t h5), if_pos h6]
theorem cls6 {c : Int} (h1 : inAny tNO c = false) (h2 : inAny tBL c = false) (h3 : inAny tCT c = false) (h4 : digB c = false) (h5 : inAny tLE c = false) (h6 : inAny tMA c = false) (h7 : inAny tSI c = true) : clsI c = 6 := by rw [clsI, if_neg (ne_t h1), if_neg (ne_t h2), if_neg (ne_t h3), if_neg (ne_t h4), if_neg (ne_t h5), if_neg (ne_t h6), if_pos h7]
theorem cls0 {c : Int} (h1 : inAny tNO c = false) (h2 : inAny tBL c = false) (h3 : inAny tCT c = false) (h4 : digB c = false) (h5 : inAny tLE c = false) (h6 : inAny tMA c = false) (h7 : inAny tSI c = false) : clsI c = 0 := by rw [clsI, if_neg (ne_t h1), if_neg (ne_t h2), if_neg (ne_t h3), if_neg (ne_t h4), if_neg (ne_t h5), if_neg (ne_t h6), if_neg (ne_t h7)]
theorem iff_b {b d : Bool} (h : b = true ↔ d = true) : b = d := by
  cases b <;> cases d <;> simp_all
theorem no_eq {n : Nat} (h : (n : Int) ≤ 4294967295) : Sc05.noChar n = inAny tNO n := by
  refine iff_b ?_
  simp only [Sc05.noChar, Sc05.among, inAny, tNO, List.any_cons, List.any_nil, Bool.or_false, Bool.or_eq_true, Bool.and_eq_true, decide_eq_true_eq]
  omega
theorem BL_eq (n : Nat) : Sc05.blank n = inAny tBL n := by
  refine iff_b ?_
  simp only [Sc05.blank, Sc05.among, inAny, tBL, List.any_cons, List.any_nil, Bool.or_false, Bool.or_eq_true, Bool.and_eq_true, decide_eq_true_eq]
  omega
theorem CT_eq (n : Nat) : Sc05.control n = inAny tCT n := by
  refine iff_b ?_
  simp only [Sc05.control, Sc05.among, inAny, tCT, List.any_cons, List.any_nil, Bool.or_false, Bool.or_eq_true, Bool.and_eq_true, decide_eq_true_eq]
  omega
theorem LE_eq (n : Nat) : Sc05.letter n = inAny tLE n := by
  refine iff_b ?_
  simp only [Sc05.letter, Sc05.among, inAny, tLE, List.any_cons, List.any_nil, Bool.or_false, Bool.or_eq_true, Bool.and_eq_true, decide_eq_true_eq]
  omega
theorem MA_eq (n : Nat) : Sc05.among [(0x300, 0x36F)] n = inAny tMA n := by
  refine iff_b ?_
  simp only [Sc05.among, inAny, tMA, List.any_cons, List.any_nil, Bool.or_false, Bool.or_eq_true, Bool.and_eq_true, decide_eq_true_eq]
  omega
theorem SI_eq (n : Nat) : Sc05.among [(0x21, 0x2F), (0x3A, 0x40), (0x5B, 0x60), (0x7B, 0x7E)] n = inAny tSI n := by
  refine iff_b ?_
  simp only [Sc05.among, inAny, tSI, List.any_cons, List.any_nil, Bool.or_false, Bool.or_eq_true, Bool.and_eq_true, decide_eq_true_eq]
  omega
theorem dig_eq (n : Nat) : Sc05.isDigit n = digB n := by
  refine iff_b ?_
  simp only [Sc05.isDigit, Sc05.digitOf, Sc05.ZEROS, Option.isSome_map, List.find?_isSome, digB, List.mem_cons, List.not_mem_nil, or_false, exists_eq_or_imp, exists_eq_left, Bool.and_eq_true, decide_eq_true_eq]
  omega
theorem cls_eq {c : Int} (h0 : 0 ≤ c) (h1 : c ≤ 4294967295) : PySc05.class_of c = [clsI c] := by
  obtain ⟨n, rfl⟩ := Int.eq_ofNat_of_zero_le h0
  show [((Sc05.classOf (Int.toNat (n : Int)) : Nat) : Int)] = [clsI n]
  refine congrArg (fun x => [x]) ?_
  rw [Int.toNat_natCast, Sc05.classOf, no_eq h1, BL_eq, CT_eq, dig_eq, LE_eq, MA_eq, SI_eq, clsI]
  repeat (split; · rfl)
  rfl
theorem said : PySem.Challenge.rw_widetexts_s01_class_of.wellSaid = true := by decide +kernel
theorem shut {c v : Int} (hp : PySem.Challenge.rw_widetexts_s01_class_of.pre [WData.int c] = true) (h : 0 ≤ c → c ≤ 4294967295 → PySc05.class_of c = [v]) :
    PySem.Challenge.rw_widetexts_s01_class_of.post [WData.int c] (ofPy (PyData.list [PyData.int v])) = true := by
  obtain ⟨a, w, q, e⟩ := os_pre said hp
  obtain ⟨k, u⟩ := a
  have e1 : c = k := os_j_int (List.cons.inj e).1
  subst e1
  have b : ((decide ((0 : Int) ≤ c) && decide (c ≤ 4294967295)) && true) = true := w
  simp only [Bool.and_true, Bool.and_eq_true, decide_eq_true_eq] at b
  rw [e]
  refine os_shut said w ?_
  show ofPy (PyData.list [PyData.int v]) = WData.list ((PySc05.class_of c).map WData.int)
  rw [h b.1 b.2]
  exact os_list (ys := [v]) rfl
theorem fin {c v : Int} (hp : PySem.Challenge.rw_widetexts_s01_class_of.pre [WData.int c] = true) (h : clsI c = v) :
    PySem.Challenge.rw_widetexts_s01_class_of.post [WData.int c] (ofPy (PyData.list [PyData.int v])) = true :=
  shut hp fun h0 h1 => by rw [cls_eq h0 h1, h]
theorem end2 {c : Int} {g : Bool} (h : inAny [] c = g) : false = g := h
end Wt
local macro_rules | `(tactic| walk_at "exec For Tuple Name cons nil") => `(tactic| (k_here; (rename PyProof.Rows.Fr _ _ _ _ => frNow); with_unfolding_all refine' For_turns frNow ?_; k_whole))
local macro_rules | `(tactic| walk_at "exec For Name Name cons nil") => `(tactic| (k_here; (rename PyProof.Rows.Fr _ _ _ _ => frNow); with_unfolding_all refine' For_turns frNow ?_; k_whole))
local macro_rules | `(tactic| walk_at "call ref") => `(tactic| (k_here; (with_reducible show wpAny _ _ (PySem.call (Value.ref 62) [Value.int _ _, Value.ref _]) _ _ _); (with_reducible rename Wt.Con 62 _ => cUse); k_dflt ((refine' (Wt.Con.out cUse) _ _ _ _ _ _ _ _ ?q1 ?q2 ?q3 ?q4 ?q5 _ _ _ _ _ _ _ _ _ _ _ _ _ _ _ _ _ ?u1 ?u2 ?u3 ?u4 ?u5 ?u6 trivial ?u7 ?u8 ?_); (case q1 => k_is); (case q2 => exact rfl); (case q3 => exact rfl); (case q4 => decide); (case q5 => repeat (first | exact Wt.rows_nil | (apply Wt.rows2_cons; (focus k_is); (focus exact rfl); (focus exact rfl)))); (case u1 => k_asm); (case u2 => k_asm); (case u3 => k_asm); (case u4 => k_asm); (case u5 => k_asm); (case u6 => first | exact rfl | assumption); (case u7 => ktr_room); (case u8 => ktr_units); (intro t9 h9 tk9 F9 N9; (try dsimp only); (try k_fold)))))
local macro_rules | `(tactic| walk_at "pyIter ref") => `(tactic| (k_here; (with_reducible show wpAny _ _ (pyIter (Value.ref _)) (fun it s₂ => TurnsAt _ _ _ _ _ _ _ _ _ it s₂) _ _); refine' Wt.iter_table2 (X := Str.ofString "first") (Y := Str.ofString "last") ?h ?F ?N ?X ?k ?c ?d ?z ?r ?g ?_ ?_ ?_ ?_; (case h => with_unfolding_all rfl); (case F => k_asm); (case N => k_asm); (case X => k_asm); (case k => assumption); (case c => assumption); (case d => assumption); (case z => assumption); (case r => assumption); (case g => assumption); (intro I x a b ta tb rs h' tk o l1 hT hi F' ho N'; (try dsimp only at hi); (try dsimp only at F')); rotate_left; (intro I x a b ta tb a' b' rs h' tk o l1 hT hi F' ho N'; (try dsimp only at hi); (try dsimp only at F')); rotate_left; (intro h' tk hi F' N'; (try dsimp only at hi)); rotate_left; (intro a' b' h' tk hi F' N'; (try dsimp only at hi)); rotate_left))
local macro_rules | `(tactic| walk_at "UnrEndW") => `(tactic| (k_here; refine' Wt.next_open (some (_, _)) ?u1 ?u2 ?u3 ?u4 ?u5; (case u1 => k_asm); (case u2 => k_asm); (case u3 => assumption); (case u4 => first | exact Wt.sweep2 | with_unfolding_all rfl); (case u5 => exact Wt.miss2 (by assumption) (by law_clear; omega))))
set_option maxRecDepth 100000 in
set_option maxHeartbeats 8000000 in
theorem PySem.Challenge.cw_widetexts_s01_class_of_holds : PySem.Challenge.rw_widetexts_s01_class_of.Holds := by
  k_with "tree" => first | exact Wt.hit2 (by assumption) (by law_clear; omega) (by law_clear; omega) | exact Wt.end2 (by assumption) | exact Wt.dig_t (by law_clear; omega) | exact Wt.dig_f (by law_clear; omega)
  w_on; k_headS; (case hw => exact ⟨[.int 0], by decide +kernel, by decide +kernel⟩)
  have conW : Wt.Con 62 (∀ (w : World) (mean : ExcName → Option Value) (mg mb : Str → Option Value) (n : CbLed) (c : Int) (t : CbTok) (tb : Addr) {lo : Obj} {vs : List Value} {e : Nat} {rows : List (Int × Int)}, (PySem.Challenge.cw_widetexts_s01_class_of_holds.heap_1 w.params).lookup tb = some lo → lo.cls = .type "tuple" → lo.data = .seq vs.toArray e → vs.length ≤ 24 → Wt.RowsAre (Wt.Row2 (PySem.Challenge.cw_widetexts_s01_class_of_holds.heap_1 w.params)) vs rows → CbClaim PySem.Challenge.rw_widetexts_s01_class_of.prog w (PySem.Challenge.cw_widetexts_s01_class_of_holds.heap_1 w.params) PySem.Challenge.cw_widetexts_s01_class_of_holds.view_1 (looseW PySem.Challenge.cw_widetexts_s01_class_of_holds.view_1 []) mean mg mb 62 n [] True [Value.int c t, Value.ref tb] (fun _ => Value.bool (Wt.inAny rows c))) := by
    unfold Wt.Con
    intro w mean mg mb n c t tb lo vs e rows hk hc hd hz hr
    have hg : Wt.Goes rows (fun rs => Wt.inAny rs c = Wt.inAny rows c) := rfl
    dsimp only [CbClaim, CbLists, CbRet]
    intros
    rename_i hret
    w_strict (refine wpAny_call ?_; k_dflt cell_enter; k_steps; all_goals cb_end hret)
  k_with "call ref" => k_call_by "is_digit" Wt.digB
  w_strict k_goS
  all_goals (refine Wt.fin hpre ?_; first | exact Wt.cls7 (by assumption) | exact Wt.cls3 (by assumption) (by assumption) | exact Wt.cls4 (by assumption) (by assumption) (by assumption) | exact Wt.cls2 (by assumption) (by assumption) (by assumption) (by assumption) | exact Wt.cls1 (by assumption) (by assumption) (by assumption) (by assumption) (by assumption) | exact Wt.cls5 (by assumption) (by assumption) (by assumption) (by assumption) (by assumption) (by assumption) | exact Wt.cls6 (by assumption) (by assumption) (by assumption) (by assumption) (by assumption) (by assumption) (by assumption) | exact Wt.cls0 (by assumption) (by assumption) (by assumption) (by assumption) (by assumption) (by assumption) (by assumption))
#print axioms PySem.Challenge.cw_widetexts_s01_class_of_holds
