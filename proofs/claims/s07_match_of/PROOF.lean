import PyProof.Rows.All
import Wide.All
import OpenK.AllK
import Wide.FinOn
import PyProof.EqAt
import PyProof.EqKinds
import PyProof.TupleCall
import KE.BitLaws
import Open.SpecLaws
import KE.OsHead
import KE.OsGo
import KE.KSortTupG
import KE.IntBitsLaws
import PySc05
import PySem.Challenge.RW_widetexts_s07_match_of
-- CHANGE: your row's module here, as the last of these rows
set_option Elab.async false
set_option linter.all false
set_option maxRecDepth 100000
/-! THE HAND LAYER, for ints, bools, texts, own classes, lists, tuples, dicts, comprehensions, walks over dicts, enumerate, zip, reversed, texts, calls, loops. Paste it whole ahead of your own text; what your proof does not reach may be deleted. -/
namespace L2
open PySem PySem.Spec PyProof.Rows

/-- a key: an int or a str -/
abbrev Key := Sum Int Str
def keyIs : Key → Value → Bool
  | .inl k, v => Value.isInt k v
  | .inr x, v => Value.isStrOf x v
def keyH (w : World) : Key → Int
  | .inl k => hashInt k
  | .inr x => hashStr w x
theorem keyIs_shape : ∀ {k : Key} {v : Value}, keyIs k v = true → (∃ i t, k = Sum.inl i ∧ v = Value.int i t) ∨ (∃ x t, k = Sum.inr x ∧ v = Value.str x t)
  | .inl i, v, h => by
    obtain ⟨t, e⟩ := Value.isInt_shape (k := i) (v := v) h
    exact .inl ⟨i, t, rfl, e⟩
  | .inr x, v, h => by
    obtain ⟨t, e⟩ := Value.isStrOf_shape (x := x) (v := v) h
    exact .inr ⟨x, t, rfl, e⟩
theorem keyIs_int (i : Int) (t : Tok) : keyIs (.inl i) (.int i t) = true := by simp [keyIs, Value.isInt]
theorem keyIs_str (x : Str) (t : Tok) : keyIs (.inr x) (.str x t) = true := by simp [keyIs, Value.isStrOf]
theorem key_ll (a b : Int) : decide ((Sum.inl a : Key) = Sum.inl b) = (a == b) := by
  by_cases e : a = b
  · subst e; simp
  · have h : ¬ (Sum.inl a : Key) = Sum.inl b := fun q => e (Sum.inl.inj q)
    rw [decide_eq_false h]
    exact (beq_eq_false_iff_ne.mpr e).symm
theorem key_rr (a b : Str) : decide ((Sum.inr a : Key) = Sum.inr b) = decide (a = b) := by
  by_cases e : a = b
  · subst e; simp
  · have h : ¬ (Sum.inr a : Key) = Sum.inr b := fun q => e (Sum.inr.inj q)
    rw [decide_eq_false h, decide_eq_false e]
theorem key_lr (a : Int) (b : Str) : decide ((Sum.inl a : Key) = Sum.inr b) = false := decide_eq_false (fun q => nomatch q)
theorem key_rl (a : Str) (b : Int) : decide ((Sum.inr a : Key) = Sum.inl b) = false := decide_eq_false (fun q => nomatch q)

def mixKind (prog : Program) (w : World) : PySem.KeyKind prog w Key where
  is := keyIs
  hash := keyH w
  inj := fun v a b ha hb => by
    rcases keyIs_shape ha with ⟨i, t, rfl, rfl⟩ | ⟨x, t, rfl, rfl⟩
    · rcases keyIs_shape hb with ⟨j, u, rfl, e⟩ | ⟨y, u, rfl, e⟩
      · injection e with e1 _; rw [e1]
      · exact nomatch e
    · rcases keyIs_shape hb with ⟨j, u, rfl, e⟩ | ⟨y, u, rfl, e⟩
      · exact nomatch e
      · injection e with e1 _; rw [e1]
  byValue := fun k v h => by
    rcases keyIs_shape h with ⟨i, t, rfl, rfl⟩ | ⟨x, t, rfl, rfl⟩ <;> rfl
  pyHash := fun hv h => by
    rcases keyIs_shape hv with ⟨i, t, rfl, rfl⟩ | ⟨x, t, rfl, rfl⟩
    · exact wpAny_pyHash_int h
    · exact wpAny_pyHash_str h
  eqBool := fun hu hv h => by
    rcases keyIs_shape hu with ⟨i, t, rfl, rfl⟩ | ⟨x, t, rfl, rfl⟩
    · rcases keyIs_shape hv with ⟨j, u, rfl, rfl⟩ | ⟨y, u, rfl, rfl⟩
      · rw [key_ll] at h; exact wpAny_eqBool_int h
      · rw [key_lr] at h; exact SeqAt.EqAt.int_str i t y u _ _ _ _ h
    · rcases keyIs_shape hv with ⟨j, u, rfl, rfl⟩ | ⟨y, u, rfl, rfl⟩
      · rw [key_rl] at h; exact SeqAt.EqAt.str_int x t j u _ _ _ _ h
      · rw [key_rr] at h; exact wpAny_eqBool_str h
  «strs» := fun k x t v h => by
    rcases keyIs_shape h with ⟨i, u, rfl, e⟩ | ⟨y, u, rfl, e⟩
    · exact nomatch e
    · injection e with e1 _
      subst e1
      cases v <;> rfl

theorem mixKind_int (prog : Program) (w : World) (i : Int) (t : Tok) : (mixKind prog w).is (.inl i) (.int i t) = true := keyIs_int i t
theorem mixKind_str (prog : Program) (w : World) (x : Str) (t : Tok) : (mixKind prog w).is (.inr x) (.str x t) = true := keyIs_str x t
end L2

namespace L2
open PySem PySem.Spec PyProof.Rows

/-- a value, without the heap -/
inductive V where
  | non | bl (b : Bool) | int (i : Int) | str (x : Str) | byt (b : Array UInt8) | flt (b : UInt64) | ref (a : Addr) | ty (n : String)
  deriving DecidableEq

def RelV : V → Value → Prop
  | .non, u => u = Value.none
  | .bl b, u => u = Value.bool b
  | .int i, u => ∃ t, u = Value.int i t
  | .str x, u => ∃ t, u = Value.str x t
  | .byt b, u => ∃ t, u = Value.bytes b t
  | .flt b, u => ∃ t, u = Value.float b t
  | .ref a, u => u = Value.ref a
  | .ty n, u => u = Value.type n

abbrev Vals : List V → List Value → Prop := Paired RelV
theorem Vals.length {xs : List V} {us : List Value} (r : Vals xs us) : xs.length = us.length := Paired.length r
theorem Vals.get : ∀ {xs : List V} {us : List Value} {i : Nat} {x : V}, Vals xs us → xs[i]? = some x → ∃ u, us[i]? = some u ∧ RelV x u
  | _, _, _, _, .nil, e => by simp at e
  | _, _, 0, _, .cons r _, e => by simp at e; subst e; exact ⟨_, rfl, r⟩
  | _, _, i + 1, x, .cons _ t, e => by
    obtain ⟨u, h1, h2⟩ := Vals.get (i := i) (x := x) t (by simpa using e)
    exact ⟨u, by simpa using h1, h2⟩
theorem Vals.append : ∀ {xs ys : List V} {us ws : List Value}, Vals xs us → Vals ys ws → Vals (xs ++ ys) (us ++ ws)
  | _, _, _, _, .nil, s => s
  | _, _, _, _, .cons r t, s => .cons r (Vals.append t s)
def RelO : Option V → Option Value → Prop
  | some v, some u => RelV v u
  | none, none => True
  | _, _ => False
def KV {κ : Type} : List (κ × V) → List (κ × Value) → Prop := Paired fun (p : κ × V) (q : κ × Value) => p.1 = q.1 ∧ RelV p.2 q.2

/-- a key of a dict (00_mix): an int or a text -/
def kV : Key → V
  | .inl i => .int i
  | .inr x => .str x

/-- what stands at a tracked address -/
inductive HO where
  /-- a list -/
  | lst (xs : List V)
  /-- a tuple (never changes) -/
  | tup (xs : List V)
  /-- a dict whose keys are ints and texts; one whose keys are tuples of ints and texts (the empty one is both) -/
  | dK (kvs : List (Key × V)) | dT (kvs : List (List Key × V))
  /-- a set of ints: its members, its size -/
  | set (S : Int → Bool) (n : Nat)
  /-- an instance of the class at C, its dict at dx, its attributes -/
  | ins (C dx : Addr) (fs : List (Str × V))
  /-- the dict of the instance at x -/
  | own (x : Addr)
  /-- the dict of an exception -/
  | xd (fs : List (Str × V))
  /-- a bound method, f of x -/
  | met (f x : Addr)
  /-- a range object lo, lo + 1, .. below hi -/
  | rng (lo hi : Int)
  /-- a thing that is known to the object (the script; a dict while a loop walks it): read, never written while it is so -/
  | frz (o : Obj) (u : HO)
  /-- a code object's table -/
  | tbl (ps : Array Value)
  /-- any other thing, by what is true of its one object (a def of one's own: SetO a S n := HO.ext fun h => ..) -/
  | ext (φ : Heap → Prop)

abbrev Hp := Addr → Option HO
def upd (H : Hp) (a : Addr) (o : HO) : Hp := fun b => if b = a then some o else H b
theorem upd_same {H : Hp} {a : Addr} {o : HO} : upd H a o a = some o := by unfold upd; rw [if_pos rfl]
theorem upd_ne {H : Hp} {a b : Addr} {o : HO} (h : b ≠ a) : upd H a o b = H b := by unfold upd; rw [if_neg h]
theorem upd_upd {H : Hp} {a : Addr} {o u : HO} : upd (upd H a o) a u = upd H a u := by
  funext b; unfold upd; split <;> rfl
/-- two objects of different content stand apart -/
theorem ne_of {H : Hp} {a b : Addr} {o u : HO} (h : H a = some o) (h' : H b = some u) (d : o ≠ u) : a ≠ b := by
  intro e; subst e; rw [h] at h'; exact d (Option.some.inj h')
theorem ne_of_none {H : Hp} {a b : Addr} {o : HO} (h : H a = some o) (h' : H b = none) : a ≠ b := by
  intro e; subst e; rw [h] at h'; cases h'

section
variable (P : Program) (w : World)
def ObjOk (H : Hp) (h : Heap) (a : Addr) : HO → Prop
  | .lst xs => xs.length ≤ sizeLine ∧ ∃ (its : List Value) (n : Nat), Vals xs its ∧ h.get? a = some { cls := .type "list", data := .seq its.toArray n }
  | .tup xs => xs.length ≤ sizeLine ∧ ∃ its : List Value, Vals xs its ∧ IsTup h a its.toArray
  | .dK kvs => kvs.length ≤ sizeLine ∧ (a == sysModules) = false ∧ ∃ vs, KV kvs vs ∧ h.DictOf (mixKind P w) a vs
  | .dT kvs => kvs.length ≤ sizeLine ∧ (a == sysModules) = false ∧ ∃ xs : List (List Key × Addr × Value),
      Paired (fun (p : List Key × V) (q : List Key × Addr × Value) => p.1 = q.1 ∧ H q.2.1 = some (.tup (p.1.map kV)) ∧ RelV p.2 q.2.2) kvs xs ∧
      ∃ o es ep, h.get? a = some o ∧ o.ExactDict ∧ o.data = .dict es ep ∧ es.toList = xs.map (entryOfKey (tupleKind (mixKind P w))) ∧ (xs.map (·.1)).Nodup
  | .set S n => h.SetOf (intKind P w) a S n
  | .ins C dx fs => H dx = some (.own a) ∧ fs.length ≤ 1000 ∧ dx ≠ a ∧ h.get? a = some (PySem.W.instObj C dx) ∧
      ∃ mA, h.Ns1 dx mA ∧ (∀ f, RelO (fs.lookup f) (mA f)) ∧ PySem.Within mA (fs.map (·.1))
  | .own _ => ∃ o, h.get? a = some o
  | .xd fs => ∃ mA, h.Ns1 a mA ∧ ∀ f, RelO (fs.lookup f) (mA f)
  | .rng lo hi => ∃ t u v, h.get? a = some { cls := .type "range", data := .fields #[.int lo t, .int hi u, .int 1 v] }
  | .frz o u => h.get? a = some o ∧ ObjOk H h a u
  | .tbl ps => h.get? a = some { cls := .none, data := .fields ps }
  | .met f x => h.get? a = some (PySem.W.methodObj (.ref f) (.ref x))
  | .ext φ => φ h ∧ (∃ o, h.get? a = some o) ∧ ∀ h1 h2 : Heap, φ h1 → (∀ o, h1.get? a = some o → h2.get? a = some o) → φ h2
/-- the abstract heap is held -/
def HOk (H : Hp) (h : Heap) : Prop := ∀ a o, H a = some o → ObjOk P w H h a o
end

section
variable {P : Program} {w : World} {H H' : Hp} {h h' : Heap} {a : Addr} {o : HO}
theorem ObjOk.lt (x : ObjOk P w H h a o) : a < h.objs.size := by
  cases o with
  | lst xs => obtain ⟨_, _, _, _, e⟩ := x; exact Heap.lt_size e
  | tup xs => obtain ⟨_, _, _, p⟩ := x; exact p.lt
  | dK kvs => obtain ⟨_, _, _, _, o, _, _, e, _⟩ := x; exact Heap.lt_size e
  | dT kvs => obtain ⟨_, _, _, _, o, _, _, e, _⟩ := x; exact Heap.lt_size e
  | set S n => obtain ⟨o, _, _, _, e, _⟩ := x; exact Heap.lt_size e
  | ins C dx fs => obtain ⟨_, _, _, e, _⟩ := x; exact Heap.lt_size e
  | own y => obtain ⟨_, e⟩ := x; exact Heap.lt_size e
  | xd fs => obtain ⟨_, ⟨_, _, _, e, _⟩, _⟩ := x; exact Heap.lt_size e
  | rng lo hi => obtain ⟨_, _, _, e⟩ := x; exact Heap.lt_size e
  | frz ob u => obtain ⟨e, _⟩ := x; exact Heap.lt_size e
  | tbl ps => exact Heap.lt_size (show h.get? a = some _ from x)
  | met f y => exact Heap.lt_size (show h.get? a = some _ from x)
  | ext φ => obtain ⟨_, ⟨_, e⟩, _⟩ := x; exact Heap.lt_size e
theorem Paired.mapP {α β : Type} {F G : α → β → Prop} : ∀ {l₁ : List α} {l₂ : List β}, Paired F l₁ l₂ → (∀ a b, F a b → G a b) → Paired G l₁ l₂
  | _, _, .nil, _ => .nil
  | _, _, .cons r t, f => .cons (f _ _ r) (Paired.mapP t f)
/-- what an object's description leans on: its own object, its own dict, the tuples -/
theorem ObjOk.stay (x : ObjOk P w H h a o) (k : ∀ b u, (b = a ∨ H b = some (.own a)) → h.get? b = some u → h'.get? b = some u)
    (ho : ∀ b, H b = some (.own a) → H' b = some (.own a)) (ht : ∀ b xs, H b = some (.tup xs) → H' b = some (.tup xs)) : ObjOk P w H' h' a o := by
  induction o with
  | lst xs => obtain ⟨z, its, n, r, e⟩ := x; exact ⟨z, its, n, r, k _ _ (.inl rfl) e⟩
  | tup xs => obtain ⟨z, its, r, ob, e, c⟩ := x; exact ⟨z, its, r, ob, k _ _ (.inl rfl) e, c⟩
  | dK kvs => obtain ⟨z, y, vs, r, ob, es, ep, e, c⟩ := x; exact ⟨z, y, vs, r, ob, es, ep, k _ _ (.inl rfl) e, c⟩
  | dT kvs =>
    obtain ⟨z, y, xs, r, ob, es, ep, e, c⟩ := x
    exact ⟨z, y, xs, Paired.mapP r fun p q z => ⟨z.1, ht _ _ z.2.1, z.2.2⟩, ob, es, ep, k _ _ (.inl rfl) e, c⟩
  | set S n => obtain ⟨ob, es, ep, t, e, c⟩ := x; exact ⟨ob, es, ep, t, k _ _ (.inl rfl) e, c⟩
  | ins C dx fs =>
    obtain ⟨d, z, ne, e, mA, ⟨od, es, ep, e2, c⟩, r⟩ := x
    exact ⟨ho _ d, z, ne, k _ _ (.inl rfl) e, mA, ⟨od, es, ep, k _ _ (.inr d) e2, c⟩, r⟩
  | own y => obtain ⟨ob, e⟩ := x; exact ⟨ob, k _ _ (.inl rfl) e⟩
  | xd fs => obtain ⟨mA, ⟨od, es, ep, e, c⟩, r⟩ := x; exact ⟨mA, ⟨od, es, ep, k _ _ (.inl rfl) e, c⟩, r⟩
  | rng lo hi => obtain ⟨t, u, v, e⟩ := x; exact ⟨t, u, v, k _ _ (.inl rfl) e⟩
  | frz ob u ih => obtain ⟨e, q⟩ := x; exact ⟨k _ _ (.inl rfl) e, ih q⟩
  | tbl ps =>
    have e : h.get? a = some { cls := .none, data := .fields ps } := x
    show h'.get? a = some { cls := .none, data := .fields ps }
    exact k a _ (.inl rfl) e
  | met f y =>
    have e : h.get? a = some (PySem.W.methodObj (.ref f) (.ref y)) := x
    show h'.get? a = some (PySem.W.methodObj (.ref f) (.ref y))
    exact k a _ (.inl rfl) e
  | ext φ => obtain ⟨p, ⟨o, e⟩, st⟩ := x; exact ⟨st _ _ p fun o q => k _ _ (.inl rfl) q, ⟨o, k _ _ (.inl rfl) e⟩, st⟩
theorem HOk.lt (x : HOk P w H h) (e : H a = some o) : a < h.objs.size := (x a o e).lt
theorem HOk.fresh (x : HOk P w H h) (e : h.objs.size ≤ a) : H a = none := by
  cases q : H a with
  | none => rfl
  | some u => exact absurd (Nat.lt_of_lt_of_le (x.lt q) e) (Nat.lt_irrefl _)
/-- every object of the heap is kept -/
theorem HOk.kept (x : HOk P w H h) (k : ∀ b u, h.get? b = some u → h'.get? b = some u) : HOk P w H h' := fun a o e =>
  (x a o e).stay (fun b u _ q => k b u q) (fun _ q => q) fun _ _ q => q
/-- a new object is laid and tracked -/
theorem HOk.laid (x : HOk P w H h) (k : ∀ b u, h.get? b = some u → h'.get? b = some u) (hp : h.objs.size ≤ a) (new : ObjOk P w (upd H a o) h' a o) : HOk P w (upd H a o) h' := fun b u e => by
  have hn := x.fresh hp
  by_cases hb : b = a
  · subst hb; rw [upd_same] at e; cases e; exact new
  · rw [upd_ne hb] at e
    exact (x b u e).stay (fun c v _ q => k c v q) (fun c q => by rw [upd_ne (ne_of_none q hn)]; exact q) fun c xs q => by rw [upd_ne (ne_of_none q hn)]; exact q
end

/-- what may be read as u: it is u, or a known u -/
def Rd (H : Hp) (a : Addr) (u : HO) : Prop := H a = some u ∨ ∃ o, H a = some (.frz o u)
theorem Rd.ok {P : Program} {w : World} {H : Hp} {h : Heap} {a : Addr} {u : HO} (r : Rd H a u) (x : HOk P w H h) : ObjOk P w H h a u := by
  rcases r with r | ⟨o, r⟩
  · exact x a u r
  · obtain ⟨_, q⟩ := x a _ r
    exact q
/-- what may be written -/
def Mut : Option HO → Prop
  | some (.lst _) => True
  | some (.dK _) => True
  | some (.dT _) => True
  | some (.set _ _) => True
  | some (.ins _ _ _) => True
  | some (.ext _) => True
  | _ => False
section
variable {P : Program} {w : World} {H : Hp} {h h' : Heap} {x e : Addr} {o' : HO}
/-- the object at e is changed: x itself, or the dict of the instance x -/
theorem HOk.write (ok : HOk P w H h) (mu : Mut (H x)) (he : e = x ∨ H e = some (.own x)) (k : ∀ b u, b ≠ e → h.get? b = some u → h'.get? b = some u) (heo : ∃ u, h'.get? e = some u)
    (new : ObjOk P w (upd H x o') h' x o') : HOk P w (upd H x o') h' := fun b u q => by
  have nown : ∀ c y, H c = some (.own y) → c ≠ x := fun c y r z => by subst z; rw [r] at mu; exact mu
  have ntup : ∀ c xs, H c = some (.tup xs) → c ≠ x := fun c xs r z => by subst z; rw [r] at mu; exact mu
  by_cases hb : b = x
  · subst hb; rw [upd_same] at q; cases q; exact new
  · rw [upd_ne hb] at q
    by_cases hbe : b = e
    · have q' : H b = some (.own x) := by
        rcases he with z | z
        · exact absurd (hbe.trans z) hb
        · rw [hbe]; exact z
      rw [q] at q'; cases q'
      obtain ⟨v, hv⟩ := heo
      exact ⟨v, by rw [hbe]; exact hv⟩
    · refine (ok b u q).stay (fun c v hc r => k c v ?_ r) (fun c r => by rw [upd_ne (nown c b r)]; exact r) fun c xs r => by rw [upd_ne (ntup c xs r)]; exact r
      rcases hc with rfl | hc
      · exact hbe
      · rintro rfl
        rcases he with z | z
        · exact nown c b hc z
        · rw [hc] at z; cases z; exact hb rfl
end

/-! ### kept unless tracked; of the frames at fs (the callers') the slots may change (an exception that passes writes there); of the records at ex (iterators) nothing is said -/
structure Un (fs ex : List Addr) (H H' : Hp) (h h' : Heap) : Prop where
  keep : ∀ b o, h.get? b = some o → H b = none → b ∉ fs → b ∉ ex → h'.get? b = some o
  slot : ∀ b o, h.get? b = some o → H b = none → b ∈ fs → b ∉ ex → ∃ sl, h'.get? b = some { o with slots := sl }
  free : ∀ b o, h.get? b = some o → H b = none → b ∉ ex → H' b = none
  there : ∀ b o, h.get? b = some o → b ∉ ex → ∃ o', h'.get? b = some o'
  tups : ∀ b xs, H b = some (.tup xs) → H' b = some (.tup xs)
  frzs : ∀ b o u, H b = some (.frz o u) → H' b = some (.frz o u)
  tbls : ∀ b ps, H b = some (.tbl ps) → ∃ more, H' b = some (.tbl (ps ++ more))
section
variable {fs fs' ex ex' : List Addr} {H H1 H2 : Hp} {h h1 h2 h' : Heap} {a x e : Addr} {o : HO}
theorem Un.any (u : Un fs ex H H1 h h1) {b : Addr} {ob : Obj} (q : h.get? b = some ob) (n : H b = none) (hx : b ∉ ex) : ∃ sl, h1.get? b = some { ob with slots := sl } := by
  by_cases hb : b ∈ fs
  · exact u.slot b ob q n hb hx
  · exact ⟨ob.slots, u.keep b ob q n hb hx⟩
theorem Un.kept (k : ∀ b u, h.get? b = some u → h'.get? b = some u) : Un fs ex H H h h' :=
  ⟨fun b ob q _ _ _ => k b ob q, fun b ob q _ _ _ => ⟨ob.slots, k b ob q⟩, fun _ _ _ n _ => n, fun b ob q _ => ⟨ob, k b ob q⟩, fun _ _ q => q, fun _ _ _ q => q, fun _ ps q => ⟨#[], by rw [q]; simp⟩⟩
theorem Un.refl : Un fs ex H H h h := Un.kept fun _ _ q => q
theorem Un.laid (k : ∀ b u, h.get? b = some u → h'.get? b = some u) (hp : h.objs.size ≤ a) (hn : H a = none) : Un fs ex H (upd H a o) h h' where
  keep := fun b u q _ _ _ => k b u q
  slot := fun b u q _ _ _ => ⟨u.slots, k b u q⟩
  free := fun b u q n _ => by rw [upd_ne (Nat.ne_of_lt (Nat.lt_of_lt_of_le (Heap.lt_size q) hp))]; exact n
  there := fun b u q _ => ⟨u, k b u q⟩
  tups := fun b xs q => by rw [upd_ne (ne_of_none q hn)]; exact q
  frzs := fun b u xs q => by rw [upd_ne (ne_of_none q hn)]; exact q
  tbls := fun b ps q => ⟨#[], by rw [upd_ne (ne_of_none q hn), q]; simp⟩
theorem Un.write (mu : Mut (H x)) (he : e = x ∨ H e = some (.own x)) (k : ∀ b u, b ≠ e → h.get? b = some u → h'.get? b = some u) (heo : ∃ u, h'.get? e = some u) : Un fs ex H (upd H x o) h h' := by
  have hx : ∀ b, H b = none → b ≠ x := fun b n z => by subst z; rw [n] at mu; exact mu
  have hb : ∀ b, H b = none → b ≠ e := fun b n z => by
    subst z
    rcases he with r | r
    · exact hx b n r
    · rw [n] at r; cases r
  have hm : ∀ b u, H b = some u → ¬ Mut (some u) → b ≠ x := fun b u q nm z => by subst z; rw [q] at mu; exact nm mu
  refine ⟨fun b u q n _ _ => k b u (hb b n) q, fun b u q n _ _ => ⟨u.slots, k b u (hb b n) q⟩, fun b u q n _ => by rw [upd_ne (hx b n)]; exact n, fun b u q _ => ?_,
    fun b xs q => by rw [upd_ne (hm b _ q fun z => z)]; exact q, fun b u xs q => by rw [upd_ne (hm b _ q fun z => z)]; exact q, fun b ps q => ⟨#[], by rw [upd_ne (hm b _ q fun z => z), q]; simp⟩⟩
  by_cases hbe : b = e
  · subst hbe; exact heo
  · exact ⟨u, k b u hbe q⟩
end

/-! ### the heap without what is tracked -/
def trk (h : Heap) (H : Hp) : List Addr := (List.range h.objs.size).filter fun a => (H a).isSome
def hidT (h : Heap) (H : Hp) : Heap := PySem.W.hideAll h (trk h H)
theorem hidT_size (h : Heap) (H : Hp) : (hidT h H).objs.size = h.objs.size := PySem.W.hideAll_size _ _
theorem hidT_get {h : Heap} {H : Hp} {b : Addr} {o : Obj} (e : h.get? b = some o) (n : H b = none) : (hidT h H).get? b = some o :=
  PySem.W.hideAll_get _ e fun hm => by
    have q : (H b).isSome = true := (List.mem_filter.mp hm).2
    rw [n] at q; simp at q
theorem of_hidT {h : Heap} {H : Hp} {b : Addr} {o : Obj} (e : (hidT h H).get? b = some o) : h.get? b = some o ∧ H b = none := by
  have e' : h.get? b = some o := PySem.W.of_hideAll (trk h H) e
  refine ⟨e', ?_⟩
  cases q : H b with
  | none => rfl
  | some x =>
    have hm : b ∈ trk h H := List.mem_filter.mpr ⟨List.mem_range.mpr (Heap.lt_size e'), by simp [q]⟩
    have z : (hidT h H).get? b = none := PySem.W.hideAll_none (trk h H) hm
    rw [z] at e; cases e

/-! ### OpenK's ledger, filled with every new object but one -/
def allNews (g h : Heap) (L : Addr) : List (Addr × Obj) := (List.range h.objs.size).filterMap fun a => if a = L ∨ (g.get? a).isSome = true then none else (h.get? a).map fun o => (a, o)
def rest (g h : Heap) (L d : Addr) : List (Addr × Obj) := (allNews g h L).filter fun p => decide (p.1 ≠ d)
end L2

namespace L2
open PySem PySem.Spec PyProof.Rows

/-- the module's facts, over the base: the heap at the law's entry without what is tracked there -/
structure Mod (K : PySem.W.Frag) (mg : Str → Option Value) (base : Heap) : Prop where
  kin : K.In base
  glob : base.Ns mainGlobals mg
  blt : ∃ mb, base.Ns builtinsNs mb ∧ ∀ x : Str, x ≠ "__name__" → mb x = bootBuiltins x
  nolimit : base.NoLimit

/-- the context: a def's body (or a comprehension's block) running. base: fixed through the whole law; s₀, H₀: the entry; outer: the frames whose slots others may change (a def's callers); stack: all frames that run;
   ex: iterators that were made ahead of the entry and are walked here (a comprehension's); fn: the names whose cells were made at the entry (a def: all; a comprehension's block: its own); calm: not within an except suite; pn: pins that every state bears; xe: what is wanted of an exception that leaves the code -/
structure Cx where
  prog : Program
  w : World
  K : PySem.W.Frag
  mg : Str → Option Value
  base : Heap
  A : Around
  N : List Str
  s_0 : Shared
  H_0 : Hp
  env : Env
  outer : List Env
  stack : List Env
  ex : List Addr
  fn : Str → Bool
  calm : Bool
  pn : List (Addr × Obj)
  xe : Value → Shared → Prop
/-- the callers' frames -/
def frs (l : List Env) : List Addr := l.filterMap (·.frame)
abbrev Cx.fs (X : Cx) : List Addr := frs X.outer

def Vis (sc : Scope) (x : Str) : Prop := sc.names.lookup x = some .local ∨ sc.names.lookup x = some .cell ∨ sc.names.lookup x = some .free
def Loc (sc : Scope) (x : Str) : Prop := sc.names.lookup x = some .local ∨ sc.names.lookup x = some .cell
def Look (env : Env) (h : Heap) (m : Str → Option Value) (x : Str) (u : Value) : Prop :=
  (env.kindOf x = some .local ∧ m x = some u) ∨ ((env.kindOf x = some .cell ∨ env.kindOf x = some .free) ∧ ∃ c, env.cells.lookup x = some c ∧ h.IsCell c (some u))

structure Cx.Ok (X : Cx) : Prop where
  mod : Mod X.K X.mg X.base
  kind : X.env.scope.kind = .function
  glob : X.env.globals = mainGlobals
  blt : X.env.builtins = builtinsNs
  above : X.s_0.heap.objs.size ≤ X.env.locals
  inj : ∀ x y c, X.env.cells.lookup x = some c → X.env.cells.lookup y = some c → x = y
  has : ∀ x, (X.env.kindOf x = some .cell ∨ X.env.kindOf x = some .free) → ∃ c, X.env.cells.lookup x = some c
  cab : ∀ x c, X.fn x = true → X.env.cells.lookup x = some c → X.s_0.heap.objs.size ≤ c
  hd : X.calm = true → X.A.handled = none
  frames : X.A.frames = some X.stack
  stk : X.stack = X.outer ∨ (X.stack = X.env :: X.outer ∧ X.env.frame = some X.env.locals)
  exf : ∀ b ∈ X.ex, b ≠ X.env.locals ∧ ∀ x c, X.env.cells.lookup x = some c → c ≠ b
  bs : ∀ b o, X.base.get? b = some o → X.s_0.heap.get? b = some o ∧ X.H_0 b = none
  bsz : X.base.objs.size ≤ X.s_0.heap.objs.size
  noex : ∀ b o, X.base.get? b = some o → b ∉ X.ex
  exfs : ∀ b ∈ X.ex, b ∉ X.fs
  funs : X.s_0.heap.FunFrames X.base X.outer
  frf : ∀ b ∈ X.fs, X.H_0 b = none

structure Inv (X : Cx) (pins : List (Addr × Obj)) (σ : List (Option V)) (H : Hp) (s : Shared) : Prop where
  ok : X.Ok
  os : s.os = X.s_0.os
  bare : AllBare s.gens
  base : Un X.fs X.ex X.H_0 H X.s_0.heap s.heap
  loc : ∃ m, s.heap.Ns X.env.locals m ∧ ∀ (i : Nat) (x : Str) (v : V), X.N[i]? = some x → σ[i]? = some (some v) → Vis X.env.scope x → ∃ u, RelV v u ∧ Look X.env s.heap m x u
  cell : ∀ x c, X.env.cells.lookup x = some c → ∃ v, s.heap.IsCell c v
  free : H X.env.locals = none
  freeC : ∀ x c, X.env.cells.lookup x = some c → H c = none
  pin : ∀ p ∈ X.pn ++ pins, s.heap.get? p.1 = some p.2 ∧ H p.1 = none ∧ p.1 ≠ X.env.locals ∧ p.1 ∉ X.fs ∧ ∀ v, p.2.data ≠ .cell v
  hok : HOk X.prog X.w H s.heap
  len : σ.length = X.N.length

section
variable {X : Cx} {pins : List (Addr × Obj)} {σ : List (Option V)} {H H' : Hp} {s : Shared} {h' : Heap}

theorem Cx.Ok.nofr (ok : X.Ok) {b : Addr} {o : Obj} (e : X.base.get? b = some o) : b ∉ X.fs := fun hb => by
  have := (ok.funs.mem hb).1
  rw [e] at this; cases this
theorem Inv.bs (I : Inv X pins σ H s) : ∀ b o, X.base.get? b = some o → s.heap.get? b = some o ∧ H b = none := fun b o e =>
  ⟨I.base.keep b o (I.ok.bs b o e).1 (I.ok.bs b o e).2 (I.ok.nofr e) (I.ok.noex b o e), I.base.free b o (I.ok.bs b o e).1 (I.ok.bs b o e).2 (I.ok.noex b o e)⟩
theorem Inv.bk (I : Inv X pins σ H s) : ∀ b o, X.base.get? b = some o → s.heap.get? b = some o := fun b o e => (I.bs b o e).1
theorem Inv.mod (I : Inv X pins σ H s) : Mod X.K X.mg X.base := I.ok.mod
theorem Inv.kIn (I : Inv X pins σ H s) : X.K.In s.heap := I.ok.mod.kin.keeps I.bk
theorem Inv.lt (I : Inv X pins σ H s) : X.env.locals < s.heap.objs.size := let ⟨_, hn, _⟩ := I.loc; hn.lt
theorem Inv.sz (I : Inv X pins σ H s) : X.s_0.heap.objs.size ≤ s.heap.objs.size := Nat.le_trans I.ok.above (Nat.le_of_lt I.lt)
theorem Inv.nofs (I : Inv X pins σ H s) {a : Addr} (h : s.heap.objs.size ≤ a) : a ∉ X.fs := fun hb => by
  obtain ⟨_, o, ho, _⟩ := I.ok.funs.mem hb
  exact absurd (Nat.lt_of_lt_of_le (Heap.lt_size ho) (Nat.le_trans I.sz h)) (Nat.lt_irrefl _)
theorem Inv.cne (I : Inv X pins σ H s) : ∀ x c, X.env.cells.lookup x = some c → c ≠ X.env.locals := fun x c e z => by
  obtain ⟨v, o, ho, hd⟩ := I.cell x c e
  obtain ⟨m, ⟨o', es, ep, ho', hd', _⟩, _⟩ := I.loc
  rw [z, ho'] at ho; cases ho; rw [hd'] at hd; cases hd
theorem Inv.funs (I : Inv X pins σ H s) : s.heap.FunFrames X.base X.outer := by
  have all : ∀ (l : List Env), (∀ b ∈ frs l, b ∈ X.fs) → X.s_0.heap.FunFrames X.base l → s.heap.FunFrames X.base l := by
    intro l
    induction l with
    | nil => intro _ _; trivial
    | cons env r ih =>
      intro hs hl
      obtain ⟨hk, ⟨L, o, hf, hn, ho, hd⟩, hr⟩ := hl
      have hL : L ∈ X.fs := hs L (by unfold frs; rw [List.filterMap_cons, hf]; exact List.mem_cons_self)
      obtain ⟨sl, e⟩ := I.base.slot L o ho (I.ok.frf L hL) hL fun z => I.ok.exfs L z hL
      exact ⟨hk, ⟨L, _, hf, hn, e, hd⟩, ih (fun b hb => hs b (by unfold frs; rw [List.filterMap_cons, hf]; exact List.mem_cons_of_mem _ hb)) hr⟩
  exact all X.outer (fun _ hb => hb) I.ok.funs

/-- the frames that run, for a call -/
theorem Inv.stack (I : Inv X pins σ H s) : s.heap.FunFrames X.base X.stack := by
  rcases I.ok.stk with e | ⟨e, hf⟩
  · rw [e]; exact I.funs
  · rw [e]
    obtain ⟨m, hn, _⟩ := I.loc
    refine .cons (by rw [I.ok.kind]; decide) hf hn ?_ I.funs
    exact Heap.get?_none_of_le (Nat.le_trans I.ok.bsz I.ok.above)
theorem Inv.stkSub (I : Inv X pins σ H s) : ∀ b ∈ frs X.stack, b ∈ X.env.locals :: X.fs := fun b hb => by
  rcases I.ok.stk with e | ⟨e, hf⟩
  · rw [e] at hb; exact List.mem_cons_of_mem _ hb
  · rw [e] at hb
    unfold frs at hb
    rw [List.filterMap_cons, hf] at hb
    exact hb
theorem Inv.stkFree (I : Inv X pins σ H s) : ∀ b ∈ frs X.stack, H b = none := fun b hb => by
  rcases List.mem_cons.mp (I.stkSub b hb) with e | hb
  · rw [e]; exact I.free
  · obtain ⟨_, o, ho, _⟩ := I.ok.funs.mem hb
    exact I.base.free b o ho (I.ok.frf b hb) fun z => I.ok.exfs b z hb

/-- THE STEP: the untracked objects but the frame and the records at ch are kept (the callers' frames up to slots), the frame's map is kept, the new abstract heap is held -/
theorem Inv.step {g' : Array GenState} {t' : Nat} {d' : Drawn} {ch : List Addr} (I : Inv X pins σ H s)
    (hch : ∀ b ∈ ch, (b ∈ X.ex ∨ X.s_0.heap.objs.size ≤ b) ∧ b ≠ X.env.locals ∧ (∀ x c, X.env.cells.lookup x = some c → c ≠ b) ∧ ∀ p ∈ X.pn ++ pins, p.1 ≠ b)
    (keep : ∀ b o, b ≠ X.env.locals → b ∉ X.fs → b ∉ ch → s.heap.get? b = some o → H b = none → h'.get? b = some o)
    (slot : ∀ b o, b ≠ X.env.locals → b ∈ X.fs → b ∉ ch → s.heap.get? b = some o → H b = none → ∃ sl, h'.get? b = some { o with slots := sl }) (free : ∀ b o, b ∉ ch → s.heap.get? b = some o → H b = none → H' b = none)
    (there : ∀ b o, b ∉ ch → s.heap.get? b = some o → ∃ o', h'.get? b = some o')
    (tups : ∀ b xs, H b = some (.tup xs) → H' b = some (.tup xs)) (frzs : ∀ b o u, H b = some (.frz o u) → H' b = some (.frz o u)) (tbls : ∀ b ps, H b = some (.tbl ps) → ∃ more, H' b = some (.tbl (ps ++ more)))
    (ns : ∀ m, s.heap.Ns X.env.locals m → h'.Ns X.env.locals m) (hok : HOk X.prog X.w H' h') (hg : AllBare g') :
    Inv X pins σ H' { s with heap := h', gens := g', drawn := d', toks := t' } := by
  have neL : ∀ b o, X.s_0.heap.get? b = some o → b ≠ X.env.locals := fun b o e => Nat.ne_of_lt (Nat.lt_of_lt_of_le (Heap.lt_size e) I.ok.above)
  have neC : ∀ b o, X.s_0.heap.get? b = some o → b ∉ X.ex → b ∉ ch := fun b o e hx hb => by
    rcases (hch b hb).1 with z | z
    · exact hx z
    · exact absurd (Nat.lt_of_lt_of_le (Heap.lt_size e) z) (Nat.lt_irrefl _)
  have cellK : ∀ x c, X.env.cells.lookup x = some c → ∀ v, s.heap.IsCell c v → h'.IsCell c v := fun x c e v ⟨o, ho, hd⟩ => by
    have nch : c ∉ ch := fun z => (hch c z).2.2.1 x c e rfl
    by_cases hc : c ∈ X.fs
    · obtain ⟨sl, q⟩ := slot c o (I.cne x c e) hc nch ho (I.freeC x c e)
      exact ⟨_, q, hd⟩
    · exact ⟨o, keep c o (I.cne x c e) hc nch ho (I.freeC x c e), hd⟩
  refine ⟨I.ok, I.os, hg, ⟨fun b o e n hb hx => ?_, fun b o e n hb hx => ?_, fun b o e n hx => ?_, fun b o e hx => ?_, fun b xs e => tups b xs (I.base.tups b xs e), fun b o xs e => frzs b o xs (I.base.frzs b o xs e), fun b ps e => ?_⟩, ?_, fun x c e => ?_, ?_, fun x c e => ?_, fun p hp => ?_, hok, I.len⟩
  · exact keep b o (neL b o e) hb (neC b o e hx) (I.base.keep b o e n hb hx) (I.base.free b o e n hx)
  · obtain ⟨sl, e1⟩ := I.base.slot b o e n hb hx
    obtain ⟨sl', e2⟩ := slot b _ (neL b o e) hb (neC b o e hx) e1 (I.base.free b o e n hx)
    exact ⟨sl', e2⟩
  · obtain ⟨o', e1⟩ := I.base.there b o e hx
    exact free b o' (neC b o e hx) e1 (I.base.free b o e n hx)
  · obtain ⟨o', e1⟩ := I.base.there b o e hx
    exact there b o' (neC b o e hx) e1
  · obtain ⟨m1, e1⟩ := I.base.tbls b ps e
    obtain ⟨m2, e2⟩ := tbls b _ e1
    exact ⟨m1 ++ m2, by rw [e2, Array.append_assoc]⟩
  · obtain ⟨m, hn, hl⟩ := I.loc
    refine ⟨m, ns m hn, fun i x v e1 e2 e3 => ?_⟩
    obtain ⟨u, r, l⟩ := hl i x v e1 e2 e3
    refine ⟨u, r, ?_⟩
    rcases l with l | ⟨k, c, e, z⟩
    · exact .inl l
    · exact .inr ⟨k, c, e, cellK x c e _ z⟩
  · obtain ⟨v, z⟩ := I.cell x c e
    exact ⟨v, cellK x c e v z⟩
  · obtain ⟨m, ⟨o, _, _, ho, _⟩, _⟩ := I.loc
    exact free _ o (fun z => (hch _ z).2.1 rfl) ho I.free
  · obtain ⟨v, o, ho, hd⟩ := I.cell x c e
    exact free c o (fun z => (hch c z).2.2.1 x c e rfl) ho (I.freeC x c e)
  · obtain ⟨e, n, ne, nf, d⟩ := I.pin p hp
    have nch : p.1 ∉ ch := fun z => (hch p.1 z).2.2.2 p hp rfl
    exact ⟨keep p.1 p.2 ne nf nch e n, free p.1 p.2 nch e n, ne, nf, d⟩
/-- .. where the frame's own object is kept too -/
theorem Inv.un {t' : Nat} (I : Inv X pins σ H s) (u : Un X.fs [] H H' s.heap h') (hok : HOk X.prog X.w H' h') : Inv X pins σ H' { s with heap := h', toks := t' } := by
  obtain ⟨m, ⟨o, es, ep, ho, r⟩, _⟩ := id I.loc
  obtain ⟨sl, hL⟩ := u.any ho I.free (by simp)
  exact I.step (g' := s.gens) (d' := s.drawn) (ch := []) (fun _ z => nomatch z) (fun b o _ hb _ e n => u.keep b o e n hb (by simp)) (fun b o _ hb _ e n => u.slot b o e n hb (by simp)) (fun b o _ e n => u.free b o e n (by simp)) (fun b o _ e => u.there b o e (by simp)) u.tups u.frzs u.tbls (fun m' hm => by
    obtain ⟨o', es', ep', ho', r'⟩ := hm
    rw [ho] at ho'; cases ho'
    exact ⟨_, es', ep', hL, r'⟩) hok I.bare
/-- behind a call (or a comprehension's block): the slots of this frame may have changed too, the records at ch may have turned -/
theorem Inv.call {g' : Array GenState} {t' : Nat} {d' : Drawn} {ch : List Addr} (I : Inv X pins σ H s) (u : Un (frs X.stack) ch H H' s.heap h') (hok : HOk X.prog X.w H' h') (hg : AllBare g')
    (hch : ∀ b ∈ ch, (b ∈ X.ex ∨ X.s_0.heap.objs.size ≤ b) ∧ b ≠ X.env.locals ∧ (∀ x c, X.env.cells.lookup x = some c → c ≠ b) ∧ ∀ p ∈ X.pn ++ pins, p.1 ≠ b) :
    Inv X pins σ H' { s with heap := h', gens := g', drawn := d', toks := t' } := by
  obtain ⟨m, ⟨o, es, ep, ho, r⟩, _⟩ := id I.loc
  obtain ⟨sl, hL⟩ := u.any ho I.free fun z => (hch _ z).2.1 rfl
  exact I.step (ch := ch) hch (fun b o hL hb hc e n => u.keep b o e n (fun z => (List.mem_cons.mp (I.stkSub b z)).elim hL hb) hc) (fun b o _ _ hc e n => u.any e n hc) (fun b o hc e n => u.free b o e n hc) (fun b o hc e => u.there b o e hc) u.tups u.frzs u.tbls (fun m' hm => by
    obtain ⟨o', es', ep', ho', r'⟩ := hm
    rw [ho] at ho'; cases ho'
    exact ⟨_, es', ep', hL, r'⟩) hok hg
/-- an untracked record of ours (an iterator) has turned -/
theorem Inv.turned {t' : Nat} {it : Addr} (I : Inv X pins σ H s) (k : ∀ b o, b ≠ it → s.heap.get? b = some o → h'.get? b = some o) (hn : H it = none) (hL : it ≠ X.env.locals)
    (h1 : it ∈ X.ex ∨ X.s_0.heap.objs.size ≤ it) (h2 : ∀ x c, X.env.cells.lookup x = some c → c ≠ it) (h3 : ∀ p ∈ X.pn ++ pins, p.1 ≠ it) : Inv X pins σ H { s with heap := h', toks := t' } := by
  have nit : ∀ b u, H b = some u → b ≠ it := fun b u e z => by rw [z, hn] at e; cases e
  refine I.step (g' := s.gens) (d' := s.drawn) (ch := [it]) (fun b hb => ?_) (fun b o _ _ hc e _ => k b o (fun z => hc (by simp [z])) e) (fun b o _ _ hc e _ => ⟨o.slots, k b o (fun z => hc (by simp [z])) e⟩) (fun _ _ _ _ n => n)
    (fun b o hc e => ⟨o, k b o (fun z => hc (by simp [z])) e⟩) (fun _ _ e => e) (fun _ _ _ e => e) (fun b ps e => ⟨#[], by rw [e]; simp⟩) (fun m hm => ?_) (fun b u e => ?_) I.bare
  · have e : b = it := by simpa using hb
    subst e
    exact ⟨h1, hL, h2, h3⟩
  · obtain ⟨o, es, ep, ho, r⟩ := hm
    exact ⟨o, es, ep, k _ o (Ne.symm hL) ho, r⟩
  · refine (I.hok b u e).stay (fun c v hc q => k c v ?_ q) (fun _ q => q) fun _ _ q => q
    rcases hc with z | z
    · rw [z]; exact nit b u e
    · exact nit c _ z
theorem Inv.tok (I : Inv X pins σ H s) (t : Nat) : Inv X pins σ H { s with toks := t } := I.un (h' := s.heap) (t' := t) Un.refl I.hok
/-- all objects kept -/
theorem Inv.kept {t' : Nat} (I : Inv X pins σ H s) (k : ∀ b u, s.heap.get? b = some u → h'.get? b = some u) : Inv X pins σ H { s with heap := h', toks := t' } := I.un (Un.kept k) (I.hok.kept k)
/-- a new object laid and tracked -/
theorem Inv.laid {a : Addr} {o : HO} {t' : Nat} (I : Inv X pins σ H s) (k : ∀ b u, s.heap.get? b = some u → h'.get? b = some u) (hp : s.heap.objs.size ≤ a) (new : ObjOk X.prog X.w (upd H a o) h' a o) :
    Inv X pins σ (upd H a o) { s with heap := h', toks := t' } := I.un (Un.laid k hp (I.hok.fresh hp)) (I.hok.laid k hp new)
/-- an object written -/
theorem Inv.write {x e : Addr} {o : HO} {t' : Nat} (I : Inv X pins σ H s) (mu : Mut (H x)) (he : e = x ∨ H e = some (.own x)) (k : ∀ b u, b ≠ e → s.heap.get? b = some u → h'.get? b = some u) (heo : ∃ u, h'.get? e = some u)
    (new : ObjOk X.prog X.w (upd H x o) h' x o) : Inv X pins σ (upd H x o) { s with heap := h', toks := t' } := I.un (Un.write mu he k heo) (I.hok.write mu he k heo new)
theorem Inv.pins_of {pins' : List (Addr × Obj)} (I : Inv X pins σ H s) (h : ∀ p ∈ pins', s.heap.get? p.1 = some p.2 ∧ H p.1 = none ∧ p.1 ≠ X.env.locals ∧ p.1 ∉ X.fs ∧ ∀ v, p.2.data ≠ .cell v) : Inv X pins' σ H s :=
  ⟨I.ok, I.os, I.bare, I.base, I.loc, I.cell, I.free, I.freeC, fun p hp => (List.mem_append.mp hp).elim (fun z => I.pin p (List.mem_append_left _ z)) (h p), I.hok, I.len⟩

theorem nodup_ix {N : List Str} (hN : N.Nodup) {i j : Nat} {x : Str} (a : N[i]? = some x) (b : N[j]? = some x) : i = j := by
  obtain ⟨h1, e1⟩ := List.getElem?_eq_some_iff.mp a
  obtain ⟨h2, e2⟩ := List.getElem?_eq_some_iff.mp b
  exact (List.getElem_inj hN).mp (e1.trans e2.symm)

/-- a name is stored; what changed -/
theorem store_ok2 {M : Model} {A : Around} {E : Value → Shared → Prop} {i : Nat} {x : Str} {v : V} {u : Value} {Q : Unit → Shared → Prop} (I : Inv X pins σ H s) (hN : X.N.Nodup) (hi : X.N[i]? = some x) (hx : Loc X.env.scope x) (r : RelV v u)
    (h : ∀ s', Inv X pins (σ.set i (some v)) H s' → (∃ a, Heap.SameBut a s.heap s'.heap ∧ (a = X.env.locals ∨ X.env.cells.lookup x = some a)) → Q () s') (hf : X.fn x = true ∨ X.env.scope.names.lookup x = some .local := by first | exact .inl rfl | exact .inr rfl | assumption) : wpAny M A (storeName X.env x u) Q E s := by
  obtain ⟨m, hn, hl⟩ := id I.loc
  have hcls : (X.env.scope.kind == .class || (X.env.scope.kind == .module && X.env.locals != X.env.globals)) = false := by rw [I.ok.kind]; rfl
  have hiσ : i < σ.length := by rw [I.len]; exact (List.getElem?_eq_some_iff.mp hi).1
  have cne := I.cne
  have tracked : ∀ {a : Addr} {h' : Heap}, (∃ o, s.heap.get? a = some o ∧ H a = none) → Heap.SameBut a s.heap h' → HOk X.prog X.w H h' := fun {a h'} ha hs b ob e => by
    obtain ⟨_, _, hfree⟩ := ha
    refine (I.hok b ob e).stay (fun c w' hc q => (hs.2 c ?_).trans q) (fun _ q => q) fun _ _ q => q
    rintro rfl
    rcases hc with rfl | hc
    · rw [hfree] at e; cases e
    · rw [hfree] at hc; cases hc
  rcases hx with hk | hk
  · refine wpAny_storeName_local hk hn (fun h' hn' hs => ?_) hcls
    obtain ⟨oL, _, _, hoL, _⟩ := id hn
    refine h _ ⟨I.ok, I.os, I.bare, ⟨fun b o e n hb hx => ?_, fun b o e n hb hx => ?_, I.base.free, fun b o e hx => ?_, I.base.tups, I.base.frzs, I.base.tbls⟩, ⟨_, hn', fun j y v' e1 e2 e3 => ?_⟩, fun y c e => ?_, I.free, I.freeC, fun p hp => ?_, tracked ⟨oL, hoL, I.free⟩ hs, by simpa using I.len⟩ ⟨_, hs, .inl rfl⟩
    · exact (hs.2 b (Nat.ne_of_lt (Nat.lt_of_lt_of_le (Heap.lt_size e) I.ok.above))).trans (I.base.keep b o e n hb hx)
    · obtain ⟨sl, e1⟩ := I.base.slot b o e n hb hx
      exact ⟨sl, (hs.2 b (Nat.ne_of_lt (Nat.lt_of_lt_of_le (Heap.lt_size e) I.ok.above))).trans e1⟩
    · obtain ⟨o', e1⟩ := I.base.there b o e hx
      exact ⟨o', (hs.2 b (Nat.ne_of_lt (Nat.lt_of_lt_of_le (Heap.lt_size e) I.ok.above))).trans e1⟩
    · by_cases hj : j = i
      · subst hj
        rw [hi] at e1; cases e1
        rw [List.getElem?_set_self hiσ] at e2
        cases e2
        exact ⟨u, r, .inl ⟨hk, by simp⟩⟩
      · rw [List.getElem?_set_ne (Ne.symm hj)] at e2
        obtain ⟨u', r', q⟩ := hl j y v' e1 e2 e3
        refine ⟨u', r', ?_⟩
        rcases q with ⟨k, e⟩ | ⟨k, c, e, z⟩
        · refine .inl ⟨k, ?_⟩
          have : y ≠ x := fun e => hj (nodup_ix hN e1 (e ▸ hi))
          simp [this, e]
        · exact .inr ⟨k, c, e, z.sameBut hs (cne y c e)⟩
    · obtain ⟨w', z⟩ := I.cell y c e
      exact ⟨w', z.sameBut hs (cne y c e)⟩
    · obtain ⟨e, n, ne, nf, d⟩ := I.pin p hp
      exact ⟨(hs.2 p.1 ne).trans e, n, ne, nf, d⟩
  · have hfn : X.fn x = true := by
      rcases hf with z | z
      · exact z
      · rw [z] at hk; cases hk
    obtain ⟨c, hc⟩ := I.ok.has x (.inl hk)
    obtain ⟨w', z⟩ := I.cell x c hc
    refine wpAny_storeName_cell I.ok.kind hk hc z (fun h' hc' hs => ?_)
    obtain ⟨oc, hoc, hocd⟩ := id z
    refine h { s with heap := h' } ⟨I.ok, I.os, I.bare, ⟨fun b o e n hb hx => ?_, fun b o e n hb hx => ?_, I.base.free, fun b o e hx => ?_, I.base.tups, I.base.frzs, I.base.tbls⟩, ⟨m, hn.sameBut hs (Ne.symm (cne x c hc)), fun j y v' e1 e2 e3 => ?_⟩, fun y c' e => ?_, I.free, I.freeC, fun p hp => ?_, tracked ⟨oc, hoc, I.freeC x c hc⟩ hs, by simpa using I.len⟩ ⟨c, hs, .inr hc⟩
    · exact (hs.2 b (Nat.ne_of_lt (Nat.lt_of_lt_of_le (Heap.lt_size e) (I.ok.cab x c hfn hc)))).trans (I.base.keep b o e n hb hx)
    · obtain ⟨sl, e1⟩ := I.base.slot b o e n hb hx
      exact ⟨sl, (hs.2 b (Nat.ne_of_lt (Nat.lt_of_lt_of_le (Heap.lt_size e) (I.ok.cab x c hfn hc)))).trans e1⟩
    · obtain ⟨o', e1⟩ := I.base.there b o e hx
      exact ⟨o', (hs.2 b (Nat.ne_of_lt (Nat.lt_of_lt_of_le (Heap.lt_size e) (I.ok.cab x c hfn hc)))).trans e1⟩
    · by_cases hj : j = i
      · subst hj
        rw [hi] at e1; cases e1
        rw [List.getElem?_set_self hiσ] at e2
        cases e2
        exact ⟨u, r, .inr ⟨.inl hk, c, hc, hc'⟩⟩
      · rw [List.getElem?_set_ne (Ne.symm hj)] at e2
        obtain ⟨u', r', q⟩ := hl j y v' e1 e2 e3
        refine ⟨u', r', ?_⟩
        rcases q with q | ⟨k, c', e, z'⟩
        · exact .inl q
        · refine .inr ⟨k, c', e, z'.sameBut hs ?_⟩
          rintro rfl
          exact hj (nodup_ix hN e1 (I.ok.inj _ _ _ e hc ▸ hi))
    · by_cases hcc : c' = c
      · subst hcc; exact ⟨_, hc'⟩
      · obtain ⟨w2, z2⟩ := I.cell y c' e
        exact ⟨w2, z2.sameBut hs hcc⟩
    · obtain ⟨e, n, ne, nf, d⟩ := I.pin p hp
      refine ⟨(hs.2 p.1 ?_).trans e, n, ne, nf, d⟩
      intro q
      rw [q, hoc] at e
      have q' : oc = p.2 := Option.some.inj e
      exact d w' (by rw [← q']; exact hocd)
theorem store_ok {M : Model} {A : Around} {E : Value → Shared → Prop} {i : Nat} {x : Str} {v : V} {u : Value} {Q : Unit → Shared → Prop} (I : Inv X pins σ H s) (hN : X.N.Nodup) (hi : X.N[i]? = some x) (hx : Loc X.env.scope x) (r : RelV v u)
    (h : ∀ s', Inv X pins (σ.set i (some v)) H s' → Q () s') (hf : X.fn x = true ∨ X.env.scope.names.lookup x = some .local := by first | exact .inl rfl | exact .inr rfl | assumption) : wpAny M A (storeName X.env x u) Q E s :=
  store_ok2 I hN hi hx r (fun s' I' _ => h s' I') hf
end

/-! ### the judgements -/
/-- an exception: its class, its own dict's address (where it has one), the abstract heap behind it -/
abbrev XK := Value → Option Addr → Hp → Prop
abbrev St := List (Option V)
abbrev VK := V → Hp → Prop
/-- an expression's reading; a test's; an argument list's -/
abbrev TE := St → Hp → VK → Prop
abbrev TT := St → Hp → (Bool → Hp → Prop) → Prop
abbrev TA := St → Hp → (List V → Hp → Prop) → Prop
/-- what is wanted behind a statement -/
structure Ends where
  nx : St → Hp → Prop
  rt : VK
  bk : St → Hp → Prop := fun _ _ => False
  ct : St → Hp → Prop := fun _ _ => False
abbrev TS := Ends → St → Hp → Prop

def EP (X : Cx) (pins : List (Addr × Obj)) (σ : St) (Q : VK) (u : Value) (s' : Shared) : Prop := ∃ v H', Inv X pins σ H' s' ∧ RelV v u ∧ Q v H'
def TP (X : Cx) (pins : List (Addr × Obj)) (σ : St) (Q : Bool → Hp → Prop) (b : Bool) (s' : Shared) : Prop := ∃ H', Inv X pins σ H' s' ∧ Q b H'
def AP (X : Cx) (pins : List (Addr × Obj)) (σ : St) (Q : List V → Hp → Prop) (us : List Value) (s' : Shared) : Prop := ∃ vs H', Inv X pins σ H' s' ∧ Vals vs us ∧ Q vs H'
def SP (X : Cx) (pins : List (Addr × Obj)) (D : Ends) (f : Flow) (s' : Shared) : Prop :=
  match f with
  | .next => ∃ σ' H', Inv X pins σ' H' s' ∧ D.nx σ' H'
  | .brk => ∃ σ' H', Inv X pins σ' H' s' ∧ D.bk σ' H'
  | .cont => ∃ σ' H', Inv X pins σ' H' s' ∧ D.ct σ' H'
  | .ret u => ∃ v σ' H', Inv X pins σ' H' s' ∧ RelV v u ∧ D.rt v H'

def PE (X : Cx) (e : Expr) (t : TE) : Prop :=
  ∀ (pins : List (Addr × Obj)) (s : Shared) (σ : St) (H : Hp) (Q : VK), Inv X pins σ H s → t σ H Q → wpAny (model X.prog X.w) X.A (eval e X.env) (EP X pins σ Q) X.xe s
def PT (X : Cx) (e : Expr) (t : TT) : Prop :=
  ∀ (pins : List (Addr × Obj)) (s : Shared) (σ : St) (H : Hp) (Q : Bool → Hp → Prop), Inv X pins σ H s → t σ H Q → wpAny (model X.prog X.w) X.A (isTrue e X.env (eval e X.env)) (TP X pins σ Q) X.xe s
/-- a test whatever its 'whole' is (and, or) -/
def PW (X : Cx) (e : Expr) (t : TT) : Prop :=
  ∀ (whole : Sem Value) (pins : List (Addr × Obj)) (s : Shared) (σ : St) (H : Hp) (Q : Bool → Hp → Prop), Inv X pins σ H s → t σ H Q → wpAny (model X.prog X.w) X.A (isTrue e X.env whole) (TP X pins σ Q) X.xe s
theorem PW.pt {X : Cx} {e : Expr} {t : TT} (h : PW X e t) : PT X e t := h _
/-- an argument list (no star), from the left -/
def PA (X : Cx) (es : List Expr) (t : TA) : Prop :=
  ∀ (pos : Pos) (pins : List (Addr × Obj)) (s : Shared) (σ : St) (H : Hp) (Q : List V → Hp → Prop), Inv X pins σ H s → t σ H Q → wpAny (model X.prog X.w) X.A (spliced (backTo pos (starEach es X.env))) (AP X pins σ Q) X.xe s
def PS (X : Cx) (st : Stmt) (t : TS) : Prop :=
  ∀ (pins : List (Addr × Obj)) (s : Shared) (σ : St) (H : Hp) (D : Ends), Inv X pins σ H s → t D σ H → wpAny (model X.prog X.w) X.A (exec st X.env) (SP X pins D) X.xe s
def PSs (X : Cx) (st : List Stmt) (t : TS) : Prop :=
  ∀ (pins : List (Addr × Obj)) (s : Shared) (σ : St) (H : Hp) (D : Ends), Inv X pins σ H s → t D σ H → wpAny (model X.prog X.w) X.A (execs st X.env) (SP X pins D) X.xe s
/-- weaken the end -/
theorem thn {α : Type} {t : Sem α} {Q Q' : α → Shared → Prop} {M : Model} {A : Around} {E : Value → Shared → Prop} {s : Shared} (h : wpAny M A t Q E s) (hQ : ∀ a s, Q a s → Q' a s) : wpAny M A t Q' E s := wpAny_mono h hQ fun _ _ x => x
end L2

namespace L2
open PySem PySem.Spec PyProof.Rows
section
variable {X : Cx}

/-- two expressions in a row -/
theorem bin {a b : Expr} {ta tb : TE} (ha : PE X a ta) (hb : PE X b tb) {pins : List (Addr × Obj)} {s : Shared} {σ : St} {H : Hp} {R : V → V → Hp → Prop} (I : Inv X pins σ H s) (h : ta σ H fun x H1 => tb σ H1 fun y H2 => R x y H2)
    {α : Type} {Q : α → Shared → Prop} {f : Value → Value → Sem α}
    (hf : ∀ v u s2 x y H2, Inv X pins σ H2 s2 → RelV x v → RelV y u → R x y H2 → wpAny (model X.prog X.w) X.A (f v u) Q X.xe s2) :
    wpAny (model X.prog X.w) X.A (eval a X.env) (fun v s₁ => wpAny (model X.prog X.w) X.A (eval b X.env) (fun u s₂ => wpAny (model X.prog X.w) X.A (f v u) Q X.xe s₂) X.xe s₁) X.xe s := by
  refine thn (ha pins s σ H _ I h) fun v s1 ⟨x, H1, I1, r1, q1⟩ => ?_
  refine thn (hb pins s1 σ H1 _ I1 q1) fun u s2 ⟨y, H2, I2, r2, q2⟩ => ?_
  exact hf v u s2 x y H2 I2 r1 r2 q2

/-! ### names and constants -/
def tVar (i : Nat) : TE := fun σ H Q => ∃ v, σ[i]? = some (some v) ∧ Q v H
def tC (v : V) : TE := fun _ H Q => Q v H
theorem pe_var {i : Nat} {x : Str} {pos : Pos} (hN : X.N[i]? = some x) (hv : Vis X.env.scope x) (hd : (x == ("__debug__" : Str)) = false := by decide) (hcd : (x == ("__classdict__" : Str)) = false := by decide) : PE X (.Name x pos) (tVar i) := by
  intro pins s σ H Q I h
  obtain ⟨v, e, h⟩ := h
  obtain ⟨m, hn, hl⟩ := I.loc
  obtain ⟨u, r, l⟩ := hl i x v hN e hv
  have fin : EP X pins σ Q u s := ⟨v, H, I, r, h⟩
  rcases l with ⟨hk, hm⟩ | ⟨hk, c, hc, hcell⟩
  · exact wpAny_Name (wpAny_loadName_local I.ok.kind hk hn hm fin) hd
  · rcases hk with hk | hk
    · exact wpAny_Name (wpAny_loadName_cell I.ok.kind hk hc hcell fin) hd
    · exact wpAny_Name (wpAny_loadName_free I.ok.kind hk hc hcell fin hcd) hd
theorem pe_int {i j pos} : PE X (.Constant (.int i) j pos) (tC (.int i)) := fun _ _ _ H _ I h => wpAny_Constant_int ⟨.int i, H, I.tok _, ⟨_, rfl⟩, h⟩
theorem pe_str {x j pos} : PE X (.Constant (.str x) j pos) (tC (.str x)) := fun _ _ _ H _ I h => Calls.Constant_str ⟨.str x, H, I.tok _, ⟨_, rfl⟩, h⟩

/-- a global name of the def -/
def Gl (X : Cx) (x : Str) : Prop := X.env.kindOf x = some .globalImplicit
theorem ld_glob {E : Value → Shared → Prop} {pins : List (Addr × Obj)} {s : Shared} {σ : St} {H : Hp} {x : Str} {u : Value} {pos : Pos} {Q : Value → Shared → Prop} (I : Inv X pins σ H s) (hg : Gl X x) (hm : X.mg x = some u) (h : Q u s)
    (hd : (x == ("__debug__" : Str)) = false := by decide) : wpAny (model X.prog X.w) X.A (eval (.Name x pos) X.env) Q E s :=
  Calls.Name_function_global I.ok.kind hg (Calls.loadGlobal_global (by rw [I.ok.glob]; exact I.mod.glob.keeps I.bk) hm h) hd
theorem ld_blt {E : Value → Shared → Prop} {pins : List (Addr × Obj)} {s : Shared} {σ : St} {H : Hp} {x : Str} {u : Value} {pos : Pos} {Q : Value → Shared → Prop} (I : Inv X pins σ H s) (hg : Gl X x) (hm : X.mg x = none) (hv : bootBuiltins x = some u) (h : Q u s)
    (hn : x ≠ "__name__" := by decide) (hd : (x == ("__debug__" : Str)) = false := by decide) : wpAny (model X.prog X.w) X.A (eval (.Name x pos) X.env) Q E s := by
  obtain ⟨mb, h1, h2⟩ := I.mod.blt
  exact Calls.Name_function_global I.ok.kind hg (Calls.loadGlobal_builtin (by rw [I.ok.glob]; exact I.mod.glob.keeps I.bk) hm (by rw [I.ok.blt]; exact h1.keeps I.bk) ((h2 x hn).trans hv) h) hd
/-- a module's constant, a class, a function, as a value -/
theorem pe_glob {x : Str} {v : V} {u : Value} {pos : Pos} (hg : Gl X x) (hm : X.mg x = some u) (r : RelV v u) (hd : (x == ("__debug__" : Str)) = false := by decide) : PE X (.Name x pos) (tC v) :=
  fun _ _ _ H _ I h => ld_glob I hg hm ⟨v, H, I, r, h⟩ hd
/-! ### arithmetic -/
/-- two ints -/
def t2I (ta tb : TE) (k : Int → Int → Hp → Prop) : St → Hp → Prop := fun σ H => ta σ H fun x H1 => tb σ H1 fun y H2 => ∃ i j, x = .int i ∧ y = .int j ∧ k i j H2
def tAdd (ta tb : TE) : TE := fun σ H Q => t2I ta tb (fun i j H2 => Q (.int (i + j)) H2) σ H
def tSub (ta tb : TE) : TE := fun σ H Q => t2I ta tb (fun i j H2 => Q (.int (i - j)) H2) σ H
/-- the left factor below 2^64 -/
def tMul (ta tb : TE) : TE := fun σ H Q => t2I ta tb (fun i j H2 => (-(2 ^ 64) < i ∧ i < 2 ^ 64) ∧ Q (.int (i * j)) H2) σ H
variable {a b : Expr} {ta tb : TE} {pos : Pos}
/-! ### comparisons -/
def PC (X : Cx) (op : CmpOp) (a b : Expr) (t : TE) : Prop :=
  ∀ (pins : List (Addr × Obj)) (s : Shared) (σ : St) (H : Hp) (Q : VK), Inv X pins σ H s → t σ H Q →
    wpAny (model X.prog X.w) X.A (eval a X.env) (fun v s₁ => wpAny (model X.prog X.w) X.A (eval b X.env) (fun u s₂ => wpAny (model X.prog X.w) X.A (compareOp op v u) (EP X pins σ Q) X.xe s₂) X.xe s₁) X.xe s
def tCmp (p : Int → Int → Bool) (ta tb : TE) : TE := fun σ H Q => t2I ta tb (fun i j H2 => Q (.bl (p i j)) H2) σ H
abbrev tLt : TE → TE → TE := tCmp fun i j => decide (i < j)
abbrev tLe : TE → TE → TE := tCmp fun i j => decide (i ≤ j)
abbrev tGt : TE → TE → TE := tCmp fun i j => decide (j < i)
abbrev tGe : TE → TE → TE := tCmp fun i j => decide (j ≤ i)
abbrev tEqI : TE → TE → TE := tCmp fun i j => decide (i = j)
abbrev tNeI : TE → TE → TE := tCmp fun i j => !decide (i = j)
/-- is None -/
def tIsN (ta : TE) : TE := fun σ H Q => ta σ H fun x H1 => Q (.bl (decide (x = .non))) H1
def tNotN (ta : TE) : TE := fun σ H Q => ta σ H fun x H1 => Q (.bl (!decide (x = .non))) H1
/-- a comparison as a value, as a test -/
def tB (t : TE) : TT := fun σ H Q => t σ H fun x H1 => ∃ c, x = .bl c ∧ Q c H1
/-! ### and, or, not -/
variable {tA tB' : TT} {rest : List Expr}
def tAnd (t u : TT) : TT := fun σ H Q => t σ H fun c H1 => if c = true then u σ H1 Q else Q false H1
def tOr (t u : TT) : TT := fun σ H Q => t σ H fun c H1 => if c = true then Q true H1 else u σ H1 Q
def tNot (t : TT) : TT := fun σ H Q => t σ H fun c H1 => Q (!c) H1
theorem pw_and1 (ha : PT X a tA) : PW X (.BoolOp .And [a] pos) tA := by
  intro wh pins s σ H Q I h
  refine isTrue_and (thn (ha pins s σ H Q I h) fun c s1 e => ?_)
  cases c with
  | true => exact isTrue_and_nil e
  | false => exact e
theorem pw_or1 (ha : PT X a tA) : PW X (.BoolOp .Or [a] pos) tA := by
  intro wh pins s σ H Q I h
  refine isTrue_or (thn (ha pins s σ H Q I h) fun c s1 e => ?_)
  cases c with
  | false => exact isTrue_or_nil e
  | true => exact e
theorem pw_and (ha : PT X a tA) (hb : PW X (.BoolOp .And (b :: rest) pos) tB') : PW X (.BoolOp .And (a :: b :: rest) pos) (tAnd tA tB') := by
  intro wh pins s σ H Q I h
  refine isTrue_and (thn (ha pins s σ H _ I h) fun c s1 ⟨H1, I1, q1⟩ => ?_)
  cases c with
  | true => exact hb wh pins s1 σ H1 Q I1 q1
  | false => exact ⟨H1, I1, q1⟩
theorem pw_or (ha : PT X a tA) (hb : PW X (.BoolOp .Or (b :: rest) pos) tB') : PW X (.BoolOp .Or (a :: b :: rest) pos) (tOr tA tB') := by
  intro wh pins s σ H Q I h
  refine isTrue_or (thn (ha pins s σ H _ I h) fun c s1 ⟨H1, I1, q1⟩ => ?_)
  cases c with
  | true => exact ⟨H1, I1, q1⟩
  | false => exact hb wh pins s1 σ H1 Q I1 q1
/-- .. as values (bools) -/
def tAndV (ta tb : TE) : TE := fun σ H Q => ta σ H fun x H1 => ∃ c, x = .bl c ∧ if c = true then tb σ H1 Q else Q (.bl false) H1
def tOrV (ta tb : TE) : TE := fun σ H Q => ta σ H fun x H1 => ∃ c, x = .bl c ∧ if c = true then Q (.bl true) H1 else tb σ H1 Q
def tNotV (ta : TE) : TE := fun σ H Q => ta σ H fun x H1 => ∃ c, x = .bl c ∧ Q (.bl (!c)) H1
/-- a if t else b -/
def tIf (t : TT) (ta tb : TE) : TE := fun σ H Q => t σ H fun c H1 => if c = true then ta σ H1 Q else tb σ H1 Q
theorem pe_ifExp {c : Expr} (hc : PT X c tA) (ha : PE X a ta) (hb : PE X b tb) : PE X (.IfExp c a b pos) (tIf tA ta tb) := by
  intro pins s σ H Q I h
  refine wpAny_IfExp (thn (hc pins s σ H _ I h) fun d s1 ⟨H1, I1, q1⟩ => ?_)
  cases d with
  | true => exact ha pins s1 σ H1 Q I1 q1
  | false => exact hb pins s1 σ H1 Q I1 q1
end
end L2

namespace L2
open PySem PySem.Spec PyProof.Rows

/-! ### a list, a tuple that is read: tracked, frozen, or an object of the module -/
def SqL (K : PySem.W.Frag) (H : Hp) (a : Addr) (xs : List V) : Prop :=
  Rd H a (.lst xs) ∨
    ∃ (o : Obj) (its : Array Value) (n : Nat), K.lookup a = some o ∧ o.cls = .type "list" ∧ o.dict = none ∧ o.data = .seq its n ∧ its.size ≤ sizeLine ∧ Vals xs its.toList
def SqT (K : PySem.W.Frag) (H : Hp) (a : Addr) (xs : List V) : Prop :=
  Rd H a (.tup xs) ∨
    ∃ (o : Obj) (its : Array Value) (n : Nat), K.lookup a = some o ∧ o.cls = .type "tuple" ∧ o.data = .seq its n ∧ its.size ≤ sizeLine ∧ Vals xs its.toList
def absV : Value → Option V
  | .none => some .non
  | .bool b => some (.bl b)
  | .int i _ => some (.int i)
  | .str x _ => some (.str x)
  | .bytes b _ => some (.byt b)
  | .float b _ => some (.flt b)
  | .ref a => some (.ref a)
  | .type n => some (.ty n)
  | _ => none
theorem RelV.abs {x : V} {u : Value} (r : RelV x u) : absV u = some x := by
  cases x with
  | non => cases r; rfl
  | bl _ => cases r; rfl
  | int _ => obtain ⟨t, rfl⟩ := r; rfl
  | str _ => obtain ⟨t, rfl⟩ := r; rfl
  | byt _ => obtain ⟨t, rfl⟩ := r; rfl
  | flt _ => obtain ⟨t, rfl⟩ := r; rfl
  | ref _ => cases r; rfl
  | ty _ => cases r; rfl
theorem RelV.inj {x y : V} {u : Value} (r : RelV x u) (q : RelV y u) : x = y := Option.some.inj (r.abs.symm.trans q.abs)
theorem Vals.inj : ∀ {xs ys : List V} {us : List Value}, Vals xs us → Vals ys us → xs = ys
  | _, _, _, .nil, .nil => rfl
  | _, _, _, .cons r t, .cons r' t' => by rw [r.inj r', Vals.inj t t']
section
variable {X : Cx} {pins : List (Addr × Obj)} {σ : St} {H : Hp} {s : Shared} {a : Addr} {xs ys : List V}
theorem SqL.of {K : PySem.W.Frag} (h : H a = some (.lst xs)) : SqL K H a xs := .inl (.inl h)
theorem SqT.of {K : PySem.W.Frag} (h : H a = some (.tup xs)) : SqT K H a xs := .inl (.inl h)
theorem Inv.list (I : Inv X pins σ H s) (h : SqL X.K H a xs) : ∃ its : List Value, Vals xs its ∧ PlainL s.heap a its.toArray ∧ xs.length ≤ sizeLine := by
  rcases h with h | ⟨o, its, n, hk, hc, hd, hs, hz, r⟩
  · obtain ⟨z, its, n, r, e⟩ := h.ok I.hok
    exact ⟨its, r, ⟨_, n, e, rfl, rfl, rfl⟩, z⟩
  · refine ⟨its.toList, r, ⟨o, n, I.kIn a o hk, hc, hd, by simpa using hs⟩, ?_⟩
    have e := r.length
    simp only [Array.length_toList] at e
    omega
theorem Inv.tuple (I : Inv X pins σ H s) (h : SqT X.K H a xs) : ∃ its : List Value, Vals xs its ∧ IsTup s.heap a its.toArray ∧ xs.length ≤ sizeLine := by
  rcases h with h | ⟨o, its, n, hk, hc, hs, hz, r⟩
  · obtain ⟨z, its, r, p⟩ := h.ok I.hok
    exact ⟨its, r, p, z⟩
  · refine ⟨its.toList, r, ⟨o, I.kIn a o hk, hc, n, by simpa using hs⟩, ?_⟩
    have e := r.length
    simp only [Array.length_toList] at e
    omega
theorem Inv.list_inj (I : Inv X pins σ H s) (h : SqL X.K H a xs) (h' : SqL X.K H a ys) : xs = ys := by
  obtain ⟨its, r, ⟨o, n, e, _, _, d⟩, _⟩ := I.list h
  obtain ⟨its', r', ⟨o', n', e', _, _, d'⟩, _⟩ := I.list h'
  rw [e] at e'; cases e'
  rw [d] at d'
  injection d' with d1 _
  have : its = its' := by simpa using congrArg Array.toList d1
  subst this
  exact r.inj r'
theorem Inv.tuple_inj (I : Inv X pins σ H s) (h : SqT X.K H a xs) (h' : SqT X.K H a ys) : xs = ys := by
  obtain ⟨its, r, ⟨o, e, _, n, d⟩, _⟩ := I.tuple h
  obtain ⟨its', r', ⟨o', e', _, n', d'⟩, _⟩ := I.tuple h'
  rw [e] at e'; cases e'
  rw [d] at d'
  injection d' with d1 _
  have : its = its' := by simpa using congrArg Array.toList d1
  subst this
  exact r.inj r'
end

/-! ### another wish about exceptions -/
abbrev Cx.wish (X : Cx) (E : Value → Shared → Prop) : Cx := { X with xe := E }
/-- no exception leaves -/
abbrev Cx.nox (X : Cx) : Cx := X.wish fun _ _ => False
theorem Cx.Ok.wish {X : Cx} (ok : X.Ok) (E : Value → Shared → Prop) : (X.wish E).Ok :=
  ⟨ok.mod, ok.kind, ok.glob, ok.blt, ok.above, ok.inj, ok.has, ok.cab, ok.hd, ok.frames, ok.stk, ok.exf, ok.bs, ok.bsz, ok.noex, ok.exfs, ok.funs, ok.frf⟩
theorem Cx.Ok.unwish {X : Cx} {E : Value → Shared → Prop} (ok : (X.wish E).Ok) : X.Ok :=
  ⟨ok.mod, ok.kind, ok.glob, ok.blt, ok.above, ok.inj, ok.has, ok.cab, ok.hd, ok.frames, ok.stk, ok.exf, ok.bs, ok.bsz, ok.noex, ok.exfs, ok.funs, ok.frf⟩
section
variable {X : Cx} {pins : List (Addr × Obj)} {σ : St} {H : Hp} {s : Shared} {E : Value → Shared → Prop}
theorem Inv.wish (I : Inv X pins σ H s) (E : Value → Shared → Prop) : Inv (X.wish E) pins σ H s := ⟨I.ok.wish E, I.os, I.bare, I.base, I.loc, I.cell, I.free, I.freeC, I.pin, I.hok, I.len⟩
theorem Inv.unwish (I : Inv (X.wish E) pins σ H s) : Inv X pins σ H s := ⟨I.ok.unwish, I.os, I.bare, I.base, I.loc, I.cell, I.free, I.freeC, I.pin, I.hok, I.len⟩
theorem SP.unwish {D : Ends} {f : Flow} {s' : Shared} (h : SP (X.wish E) pins D f s') : SP X pins D f s' := by
  cases f with
  | next => obtain ⟨σ', H', I, q⟩ := h; exact ⟨σ', H', I.unwish, q⟩
  | brk => obtain ⟨σ', H', I, q⟩ := h; exact ⟨σ', H', I.unwish, q⟩
  | cont => obtain ⟨σ', H', I, q⟩ := h; exact ⟨σ', H', I.unwish, q⟩
  | ret u => obtain ⟨v, σ', H', I, r, q⟩ := h; exact ⟨v, σ', H', I.unwish, r, q⟩
theorem PSs.nox {st : List Stmt} {t : TS} (h : PSs X.nox st t) : PSs X st t := fun pins s σ H D I hw =>
  wpAny_mono (h pins s σ H D (I.wish _) hw) (fun _ _ q => q.unwish) fun _ _ z => False.elim z
end

/-! ### blocks and small statements -/
section
variable {X : Cx} {st : Stmt} {rest : List Stmt} {t u : TS} {e : Expr} {te : TE} {pos : Pos}
def tNext : TS := fun D σ H => D.nx σ H
def tSeq (t u : TS) : TS := fun D σ H => t { D with nx := u D } σ H
theorem pss_nil : PSs X [] tNext := fun _ _ σ H _ I h => wpAny_execs_nil ⟨σ, H, I, h⟩
theorem pss_cons (h1 : PS X st t) (h2 : PSs X rest u) : PSs X (st :: rest) (tSeq t u) := by
  intro pins s σ H D I h
  refine wpAny_execs_cons (thn (h1 pins s σ H { D with nx := u D } I h) fun f s1 q => ?_)
  cases f with
  | next =>
    obtain ⟨σ', H', I', q⟩ := q
    exact h2 pins s1 σ' H' D I' q
  | ret v => exact q
  | brk => exact q
  | cont => exact q
theorem pss_one (h1 : PS X st t) : PSs X [st] t := by
  intro pins s σ H D I h
  refine wpAny_execs_cons (thn (h1 pins s σ H D I h) fun f s1 q => ?_)
  cases f with
  | next => exact wpAny_execs_nil q
  | ret v => exact q
  | brk => exact q
  | cont => exact q
def tBreak : TS := fun D σ H => D.bk σ H
def tCont : TS := fun D σ H => D.ct σ H
/-- in a def's body nothing is shown -/
theorem Inv.quiet {pins : List (Addr × Obj)} {σ : St} {H : Hp} {s : Shared} (I : Inv X pins σ H s) : interactive X.env = false := by simp [interactive, I.ok.kind]
/-- an expression whose value is dropped -/
def tDrop (te : TE) : TS := fun D σ H => te σ H fun _ H1 => D.nx σ H1
theorem ps_expr (he : PE X e te) (hs : swapsWith e none pos.line X.env = pure false := by rfl) : PS X (.Expr e pos) (tDrop te) := by
  intro pins s σ H D I h
  exact wpAny_Expr_any (thn (he pins s σ H _ I h) fun v s1 ⟨x, H1, I1, r1, q1⟩ => ⟨σ, H1, I1, q1⟩) I.quiet hs
def tRet (te : TE) : TS := fun D σ H => te σ H D.rt
theorem ps_ret (he : PE X e te) : PS X (.Return (some e) pos) (tRet te) := by
  intro pins s σ H D I h
  exact wpAny_Return_some (thn (he pins s σ H _ I h) fun v s1 ⟨x, H1, I1, r1, q1⟩ => ⟨x, σ, H1, I1, r1, q1⟩)
def tRetN : TS := fun D _ H => D.rt .non H
def tIfS (c : TT) (t u : TS) : TS := fun D σ H => c σ H fun b H1 => if b = true then t D σ H1 else u D σ H1
theorem ps_if {c : Expr} {a b : List Stmt} {tc : TT} (hc : PT X c tc) (ha : PSs X a t) (hb : PSs X b u) : PS X (.If c a b pos) (tIfS tc t u) := by
  intro pins s σ H D I h
  refine wpAny_If (thn (hc pins s σ H _ I h) fun d s1 ⟨H1, I1, q1⟩ => ?_)
  cases d with
  | true => exact ha pins s1 σ H1 D I1 q1
  | false => exact hb pins s1 σ H1 D I1 q1
/-- code that the proof never comes to -/
def tNever : TS := fun _ _ _ => False
end

/-! ### targets -/
abbrev TG := V → St → Hp → (St → Hp → Prop) → Prop
abbrev TGs := List V → St → Hp → (St → Hp → Prop) → Prop
def PG (X : Cx) (target : Expr) (t : TG) : Prop :=
  ∀ (pins : List (Addr × Obj)) (s : Shared) (σ : St) (H : Hp) (v : V) (u : Value) (Q : St → Hp → Prop), Inv X pins σ H s → RelV v u → t v σ H Q →
    wpAny (model X.prog X.w) X.A (assign target X.env u) (fun _ s' => ∃ σ' H', Inv X pins σ' H' s' ∧ Q σ' H') X.xe s
/-- several targets, one after another -/
def PGs (X : Cx) (ts : List Expr) (t : TGs) : Prop :=
  ∀ (pins : List (Addr × Obj)) (s : Shared) (σ : St) (H : Hp) (vs : List V) (us : List Value) (Q : St → Hp → Prop), Inv X pins σ H s → Vals vs us → t vs σ H Q →
    wpAny (model X.prog X.w) X.A (assignInOrder ((assignEach ts X.env).map (·.2)) us) (fun _ s' => ∃ σ' H', Inv X pins σ' H' s' ∧ Q σ' H') X.xe s
/-- o[i] = v, by values -/
abbrev TSet := V → V → V → Hp → (Hp → Prop) → Prop
def PSet (X : Cx) (t : TSet) : Prop :=
  ∀ (pins : List (Addr × Obj)) (s : Shared) (σ : St) (H : Hp) (o i v : V) (ov iv u : Value) (Q : Hp → Prop), Inv X pins σ H s → RelV o ov → RelV i iv → RelV v u → t o i v H Q →
    wpAny (model X.prog X.w) X.A (setItem ov iv u) (fun _ s' => ∃ H', Inv X pins σ H' s' ∧ Q H') X.xe s
/-- a op= b, by values -/
abbrev TIp := V → V → Hp → VK → Prop
def PIp (X : Cx) (op : Operator) (t : TIp) : Prop :=
  ∀ (pins : List (Addr × Obj)) (s : Shared) (σ : St) (H : Hp) (x y : V) (v u : Value) (Q : VK), Inv X pins σ H s → RelV x v → RelV y u → t x y H Q →
    wpAny (model X.prog X.w) X.A (inplaceOp op v u) (EP X pins σ Q) X.xe s
section
variable {X : Cx} {pos : Pos}
def gName (i : Nat) : TG := fun v σ H Q => Q (σ.set i (some v)) H
theorem pg_name {i : Nat} {x : Str} (hN : X.N.Nodup) (hi : X.N[i]? = some x) (hx : Loc X.env.scope x) (hf : X.fn x = true ∨ X.env.scope.names.lookup x = some .local := by first | exact .inl rfl | exact .inr rfl | assumption) : PG X (.Name x pos) (gName i) := by
  intro pins s σ H v u Q I r h
  exact wpAny_assign_Name (store_ok I hN hi hx r (fun s' I' => ⟨_, H, I', h⟩) hf)
def gNil : TGs := fun vs σ H Q => vs = [] ∧ Q σ H
def gCons (t : TG) (u : TGs) : TGs := fun vs σ H Q => ∃ v r, vs = v :: r ∧ t v σ H fun σ' H' => u r σ' H' Q
theorem pgs_nil : PGs X [] gNil := by
  intro pins s σ H vs us Q I r h
  obtain ⟨e, h⟩ := h
  subst e
  cases r
  exact assignInOrder_nil ⟨σ, H, I, h⟩
theorem pgs_cons {e : Expr} {es : List Expr} {t : TG} {u : TGs} (h1 : PG X e t) (h2 : PGs X es u)
    (hs : (assignEach (e :: es) X.env).map (·.2) = assign e X.env :: (assignEach es X.env).map (·.2) := by rfl) : PGs X (e :: es) (gCons t u) := by
  intro pins s σ H vs us Q I r h
  obtain ⟨v, vr, e1, h⟩ := h
  subst e1
  cases r with
  | cons r rr =>
    rw [hs]
    refine assignInOrder_cons (thn (h1 pins s σ H _ _ _ I r h) fun _ s1 ⟨σ1, H1, I1, q1⟩ => ?_)
    exact h2 pins s1 σ1 H1 _ _ Q I1 rr q1
/-- (a, b, ..) = a tuple of that length -/
def gTup (K : PySem.W.Frag) (n : Nat) (t : TGs) : TG := fun v σ H Q => ∃ a xs, v = .ref a ∧ SqT K H a xs ∧ xs.length = n ∧ t xs σ H Q
theorem pg_tup {es : List Expr} {k : Nat} {t : TGs} {n : Nat} (hc : X.calm = true) (h : PGs X es t)
    (hn : (assignEach es X.env).length = n := by rfl) (hst : (assignEach es X.env).findIdx? (·.1) = none := by rfl) : PG X (.Tuple es k pos) (gTup X.K n t) := by
  intro pins s σ H v u Q I r hw
  obtain ⟨a, xs, e1, hq, hl, hw⟩ := hw
  subst e1
  cases r
  obtain ⟨its, rv, ht, hz⟩ := I.tuple hq
  refine assign_Tuple_tuple (I.ok.hd hc) ht (by simp [hn, ← hl, rv.length]) hst fun h' hx => ?_
  have I1 : Inv X pins σ H { s with heap := h' } := I.kept (t' := s.toks) fun b o e => hx b o (Nat.ne_of_lt (Heap.lt_size e)) e
  exact h pins _ σ H xs _ Q I1 (by simpa using rv) hw
/-- o[i] = .. -/
def gSub (to ti : TE) (t : TSet) : TG := fun v σ H Q => to σ H fun o H1 => ti σ H1 fun i H2 => t o i v H2 fun H3 => Q σ H3
/-- target = value -/
def tAsg (te : TE) (g : TG) : TS := fun D σ H => te σ H fun x H1 => g x σ H1 D.nx
/-- name = value -/
theorem ps_set {i : Nat} {x : Str} {e : Expr} {te : TE} {pos' : Pos} (hN : X.N.Nodup) (hi : X.N[i]? = some x) (hx : Loc X.env.scope x) (he : PE X e te) (hs : swapsWith e (some (.Name x pos')) pos.line X.env = pure false := by rfl) (hf : X.fn x = true ∨ X.env.scope.names.lookup x = some .local := by first | exact .inl rfl | exact .inr rfl | assumption) :
    PS X (.Assign [.Name x pos'] e pos) (tAsg te (gName i)) := by
  intro pins s σ H D I h
  refine wpAny_Assign_Name (thn (he pins s σ H _ I h) fun v s1 ⟨y, H1, I1, r1, q1⟩ => ?_) hs
  exact store_ok I1 hN hi hx r1 (fun s2 I2 => ⟨_, H1, I2, q1⟩) hf
/-- a, b = x, y with plain local names: stored from the right; the pair itself is not tracked (the opening rows as in PyProof/Rows/TupAssign.lean:23) -/
def tPar (i j : Nat) (ta : TA) : TS := fun D σ H => ta σ H fun vs H1 => ∃ v w, vs = [v, w] ∧ D.nx ((σ.set i (some v)).set j (some w)) H1
/-- name op= e -/
def tAug (i : Nat) (te : TE) (ti : TIp) : TS := fun D σ H => ∃ x, σ[i]? = some (some x) ∧ te σ H fun y H1 => ti x y H1 fun z H2 => D.nx (σ.set i (some z)) H2
/-- o[i] op= e -/
def tAugS (to ti te : TE) (tget : V → V → Hp → VK → Prop) (tip : TIp) (tset : TSet) : TS := fun D σ H => to σ H fun o H1 => ti σ H1 fun i H2 => tget o i H2 fun x H3 => te σ H3 fun y H4 => tip x y H4 fun z H5 => tset o i z H5 fun H6 => D.nx σ H6
/-- o[i], by values -/
def PGet (X : Cx) (t : V → V → Hp → VK → Prop) : Prop :=
  ∀ (pins : List (Addr × Obj)) (s : Shared) (σ : St) (H : Hp) (o i : V) (ov iv : Value) (Q : VK), Inv X pins σ H s → RelV o ov → RelV i iv → t o i H Q →
    wpAny (model X.prog X.w) X.A (getItem ov iv) (EP X pins σ Q) X.xe s
/-- ints -/
def ipI (f : Int → Int → Int) : TIp := fun x y H Q => ∃ i j, x = .int i ∧ y = .int j ∧ Q (.int (f i j)) H
end

/-! ### while -/
section
variable {X : Cx} {pos : Pos}
/-- the invariant W with its measure -/
def tWhile (c : TT) (tb : TS) : TS := fun D σ H => ∃ W : Nat → St → Hp → Prop, (∃ m, W m σ H) ∧ ∀ m σ H, W m σ H →
  c σ H fun b H1 => if b = true then ∃ N : St → Hp → Prop, (∀ σ' H', N σ' H' → ∃ m', m' < m ∧ W m' σ' H') ∧ tb { D with nx := N, ct := N, bk := D.nx } σ H1 else D.nx σ H1
theorem ps_while {c : Expr} {body : List Stmt} {tc : TT} {tb : TS} (hp : PassesOwn (model X.prog X.w) X.A X.env X.xe) (hc : PT X c tc) (hb : PSs X body tb) : PS X (.While c body [] pos) (tWhile tc tb) := by
  intro pins s σ H D I h
  obtain ⟨W, ⟨m0, w0⟩, turn⟩ := h
  refine wpAny_While (codeAny_whileLoop (fun n s' => ∃ σ' H', Inv X pins σ' H' s' ∧ W n σ' H') ?_ m0 ⟨σ, H, I, w0⟩)
  rintro n s1 ⟨σ1, H1, I1, w1⟩
  refine wpAny_passesOwn hp (thn (hc pins s1 σ1 H1 _ I1 (turn n σ1 H1 w1)) fun b s2 ⟨H2, I2, q2⟩ => ?_)
  cases b with
  | true =>
    obtain ⟨N, hN, q2⟩ := q2
    rw [if_pos rfl]
    refine wpAny_passesOwn hp (thn (hb pins s2 σ1 H2 _ I2 q2) fun f s3 q3 => ?_)
    cases f with
    | next =>
      obtain ⟨σ3, H3, I3, n3⟩ := q3
      obtain ⟨m', hm, w3⟩ := hN σ3 H3 n3
      exact ⟨m', hm, σ3, H3, I3, w3⟩
    | cont =>
      obtain ⟨σ3, H3, I3, n3⟩ := q3
      obtain ⟨m', hm, w3⟩ := hN σ3 H3 n3
      exact ⟨m', hm, σ3, H3, I3, w3⟩
    | brk => exact q3
    | ret v => exact q3
  | false =>
    rw [if_neg Bool.false_ne_true]
    exact wpAny_execs_nil ⟨σ1, H2, I2, q2⟩
end

/-! ### what a loop or a comprehension walks -/
/-- at turn i: it yields x (the heap may grow), or it stops -/
structure It where
  go : Nat → Hp → Prop
  yld : Nat → Hp → V → Hp → Prop
  stop : Nat → Hp → Prop
/-- the iterator's own objects may turn: they are not the frame's, not pinned, younger than the entry (or a comprehension's own) -/
def FpOk (X : Cx) (pins : List (Addr × Obj)) (H : Hp) (b : Addr) : Prop :=
  H b = none ∧ b ≠ X.env.locals ∧ b ∉ X.fs ∧ (b ∈ X.ex ∨ X.s_0.heap.objs.size ≤ b) ∧ (∀ x c, X.env.cells.lookup x = some c → c ≠ b) ∧ ∀ p ∈ X.pn ++ pins, p.1 ≠ b
theorem Inv.fpOk {X : Cx} {pins : List (Addr × Obj)} {σ : St} {H H' : Hp} {s : Shared} {b : Addr} (I : Inv X pins σ H s) (hb : s.heap.objs.size ≤ b) (hn : H' b = none) : FpOk X pins H' b := by
  refine ⟨hn, Nat.ne_of_gt (Nat.lt_of_lt_of_le I.lt hb), I.nofs hb, .inr (Nat.le_trans I.sz hb), fun x c e z => ?_, fun p hp z => ?_⟩
  · obtain ⟨v, q⟩ := I.cell x c e
    exact absurd (Nat.lt_of_lt_of_le q.lt (by rw [z]; exact hb)) (Nat.lt_irrefl _)
  · exact absurd (Nat.lt_of_lt_of_le (Heap.lt_size (I.pin p hp).1) (by rw [z]; exact hb)) (Nat.lt_irrefl _)
structure Turn (P : Program) (w : World) (K : PySem.W.Frag) (tg : Expr) (J : It) (fp : List Addr) (it : Addr) (tn : Nat → Heap → Prop) : Prop where
  mem : it ∈ fp
  obj : ∀ i h, tn i h → ∀ b ∈ fp, ∃ o, h.get? b = some o ∧ ∀ v, o.data ≠ .cell v
  keep : ∀ i h h', tn i h → (∀ b ∈ fp, ∀ o, h.get? b = some o → h'.get? b = some o) → tn i h'
  item : ∀ (X : Cx), X.prog = P → X.w = w → X.K = K → X.calm = true → ∀ (i : Nat) (pins : List (Addr × Obj)) (s : Shared) (σ : St) (H : Hp) (E : Value → Shared → Prop), Inv X pins σ H s → (∀ b ∈ fp, FpOk X pins H b) → tn i s.heap → J.go i H →
    wpAny (model P w) X.A (pyNext (.ref it)) (fun r s1 => ∃ u, r = some u ∧
      wpAny (model P w) X.A (letOwnedTupleGo tg (.ref it) u) (fun _ s2 => ∃ x H', Inv X pins σ H' s2 ∧ RelV x u ∧ J.yld i H x H' ∧ tn (i + 1) s2.heap ∧ ∀ b ∈ fp, H' b = none) E s1) E s
  done : ∀ (X : Cx), X.prog = P → X.w = w → X.K = K → X.calm = true → ∀ (i : Nat) (pins : List (Addr × Obj)) (s : Shared) (σ : St) (H : Hp) (E : Value → Shared → Prop), Inv X pins σ H s → (∀ b ∈ fp, FpOk X pins H b) → tn i s.heap → J.stop i H →
    wpAny (model P w) X.A (pyNext (.ref it)) (fun r s1 => r = none ∧ Inv X pins σ H s1) E s
  self : ∀ (A : Around) (i : Nat) (s : Shared) (Q : Value → Shared → Prop) (E : Value → Shared → Prop), tn i s.heap → Q (.ref it) s → wpAny (model P w) A (pyIter (.ref it)) Q E s
abbrev TI := St → Hp → (It → Hp → Prop) → Prop
/-- an iterator has come -/
def PIE (X : Cx) (pins : List (Addr × Obj)) (σ : St) (tg : Expr) (R : It → Hp → Prop) (itv : Value) (s2 : Shared) : Prop :=
  ∃ (it : Addr) (fp : List Addr) (tn : Nat → Heap → Prop) (J : It) (H' : Hp), itv = .ref it ∧ Inv X pins σ H' s2 ∧ Turn X.prog X.w X.K tg J fp it tn ∧ tn 0 s2.heap ∧ (∀ b ∈ fp, FpOk X pins H' b) ∧ R J H'
def PI (X : Cx) (tg iter : Expr) (wi : TI) : Prop :=
  ∀ (pins : List (Addr × Obj)) (s : Shared) (σ : St) (H : Hp) (R : It → Hp → Prop), Inv X pins σ H s → wi σ H R →
    wpAny (model X.prog X.w) X.A (eval iter X.env) (fun v s1 => wpAny (model X.prog X.w) X.A (pyIter v) (PIE X pins σ tg R) X.xe s1) X.xe s

/-- the step ahead of the store is nothing for an iterator that keeps no tuple -/
theorem go_of {M : Model} {A : Around} {E : Value → Shared → Prop} {s : Shared} {tg : Expr} {it : Addr} {u : Value} {o : Obj} {n : String} {vs : Array Value} {Q : Unit → Shared → Prop} (ho : s.heap.get? it = some o) (hc : o.cls = .type n) (hd : o.data = .fields vs)
    (hn : ["enumerate", "zip", "dict_itemiterator", "dict_reverseitemiterator", "odict_iterator", "itertools.zip_longest", "itertools.pairwise"].contains n = false) (hQ : Q () s) : wpAny M A (letOwnedTupleGo tg (.ref it) u) Q E s := by
  unfold letOwnedTupleGo
  cases tg <;> first
    | exact wpAny_pure hQ
    | (cases u <;> first
        | exact wpAny_pure hQ
        | (refine wpAny_bind (wpAny_load ho ?_)
           rw [hc, hd]
           show wpAny M A (if (["enumerate", "zip", "dict_itemiterator", "dict_reverseitemiterator", "odict_iterator", "itertools.zip_longest", "itertools.pairwise"].contains n && vs[0]? == some (rawInt _)) = true then _ else _) Q E s
           rw [if_neg (by intro h; rw [hn, Bool.false_and] at h; cases h)]
           exact wpAny_pure hQ))

/-- the list at a, as it stands at each turn (a loop may append to it) -/
def Itl (K : PySem.W.Frag) (a : Addr) : It :=
  ⟨fun i H => ∃ xs x, SqL K H a xs ∧ xs[i]? = some x, fun i H x H' => H' = H ∧ ∀ xs, SqL K H a xs → xs[i]? = some x, fun i H => ∃ xs, SqL K H a xs ∧ xs.length ≤ i⟩
def Itt (K : PySem.W.Frag) (a : Addr) : It :=
  ⟨fun i H => ∃ xs x, SqT K H a xs ∧ xs[i]? = some x, fun i H x H' => H' = H ∧ ∀ xs, SqT K H a xs → xs[i]? = some x, fun i H => ∃ xs, SqT K H a xs ∧ xs.length ≤ i⟩
/-- lo, lo + 1, .. (n of them) -/
def Itr (lo : Int) (n : Nat) : It := ⟨fun i _ => i < n, fun i H x H' => H' = H ∧ x = .int (lo + i), fun i _ => n ≤ i⟩
theorem turn_list {P : Program} {w : World} {K : PySem.W.Frag} {tg : Expr} (a it : Addr) : Turn P w K tg (Itl K a) [it] it (fun i h => h.IsListIter it a i) where
  mem := by simp
  obj := fun i h st b hb => by
    have e : b = it := by simpa using hb
    subst e
    obtain ⟨o, e, c, d⟩ := st
    exact ⟨o, e, fun v z => by rw [d] at z; cases z⟩
  keep := fun i h h' st k => st.at fun o e => k it (by simp) o e
  item := by
    intro X hP hw hK hc i pins s σ H E I hf st hg
    subst hP hw hK
    obtain ⟨xs, x, hq, hx⟩ := hg
    obtain ⟨its, rv, p, hz⟩ := I.list hq
    obtain ⟨u, hu, ru⟩ := rv.get hx
    obtain ⟨f0, f1, f2, f3, f4, f5⟩ := hf it (by simp)
    refine wpAny_pyNext_list_item st p.isList (x := u) (by simpa using hu) fun h' st' sb => ?_
    have I1 : Inv X pins σ H { s with heap := h' } := I.turned (t' := s.toks) (fun b o hb e => (sb.2 b hb).trans e) f0 f1 f3 f4 f5
    obtain ⟨o, e, c, d⟩ := id st'
    exact ⟨u, rfl, go_of (s := { s with heap := h' }) e c d (by decide) ⟨x, H, I1, ru, ⟨rfl, fun ys hy => by rw [I.list_inj hy hq]; exact hx⟩, st', fun b hb => (hf b hb).1⟩⟩
  done := by
    intro X hP hw hK hc i pins s σ H E I hf st hg
    subst hP hw hK
    obtain ⟨xs, hq, hx⟩ := hg
    obtain ⟨its, rv, p, hz⟩ := I.list hq
    obtain ⟨f0, f1, f2, f3, f4, f5⟩ := hf it (by simp)
    have hl := rv.length
    exact wpAny_pyNext_list_end (I.ok.hd hc) st p.isList (by simp; omega) fun h' eb => ⟨rfl, I.turned (t' := s.toks) (fun b o hb e => eb b o hb e) f0 f1 f3 f4 f5⟩
  self := fun _ _ _ _ _ st h => wpAny_pyIter_listiter st h
theorem turn_tuple {P : Program} {w : World} {K : PySem.W.Frag} {tg : Expr} (a it : Addr) : Turn P w K tg (Itt K a) [it] it (fun i h => h.IsTupleIter it a i) where
  mem := by simp
  obj := fun i h st b hb => by
    have e : b = it := by simpa using hb
    subst e
    obtain ⟨o, e, c, d⟩ := st
    exact ⟨o, e, fun v z => by rw [d] at z; cases z⟩
  keep := fun i h h' st k => st.at fun o e => k it (by simp) o e
  item := by
    intro X hP hw hK hc i pins s σ H E I hf st hg
    subst hP hw hK
    obtain ⟨xs, x, hq, hx⟩ := hg
    obtain ⟨its, rv, p, hz⟩ := I.tuple hq
    obtain ⟨u, hu, ru⟩ := rv.get hx
    obtain ⟨f0, f1, f2, f3, f4, f5⟩ := hf it (by simp)
    refine wpAny_pyNext_tuple_item st (show s.heap.IsTuple a its.toArray from p) (x := u) (by simpa using hu) fun h' st' sb => ?_
    have I1 : Inv X pins σ H { s with heap := h' } := I.turned (t' := s.toks) (fun b o hb e => (sb.2 b hb).trans e) f0 f1 f3 f4 f5
    obtain ⟨o, e, c, d⟩ := id st'
    exact ⟨u, rfl, go_of (s := { s with heap := h' }) e c d (by decide) ⟨x, H, I1, ru, ⟨rfl, fun ys hy => by rw [I.tuple_inj hy hq]; exact hx⟩, st', fun b hb => (hf b hb).1⟩⟩
  done := by
    intro X hP hw hK hc i pins s σ H E I hf st hg
    subst hP hw hK
    obtain ⟨xs, hq, hx⟩ := hg
    obtain ⟨its, rv, p, hz⟩ := I.tuple hq
    obtain ⟨f0, f1, f2, f3, f4, f5⟩ := hf it (by simp)
    have hl := rv.length
    exact wpAny_pyNext_tuple_end (I.ok.hd hc) st (show s.heap.IsTuple a its.toArray from p) (by simp; omega) fun h' eb => ⟨rfl, I.turned (t' := s.toks) (fun b o hb e => eb b o hb e) f0 f1 f3 f4 f5⟩
  self := fun _ _ _ _ _ st h => wpAny_pyIter_tupleiter st h
end L2

namespace L2
open PySem PySem.Spec PyProof.Rows
section
variable {X : Cx} {tg : Expr}
def iList (K : PySem.W.Frag) (tl : TE) : TI := fun σ H R => tl σ H fun x H1 => ∃ a, x = .ref a ∧ (∃ xs, SqL K H1 a xs) ∧ R (Itl K a) H1
def iTup (K : PySem.W.Frag) (tl : TE) : TI := fun σ H R => tl σ H fun x H1 => ∃ a, x = .ref a ∧ (∃ xs, SqT K H1 a xs) ∧ R (Itt K a) H1
theorem pi_list {l : Expr} {tl : TE} (hl : PE X l tl) : PI X tg l (iList X.K tl) := by
  intro pins s σ H R I h
  refine thn (hl pins s σ H _ I h) fun v s1 ⟨x, H1, I1, r1, q1⟩ => ?_
  obtain ⟨a, e, ⟨xs, hq⟩, q⟩ := q1
  subst e
  cases r1
  obtain ⟨its, rv, p, hz⟩ := I1.list hq
  refine wpAny_pyIter_list p.isList ?_
  refine ⟨s1.heap.objs.size, [s1.heap.objs.size], _, _, H1, rfl, I1.kept (t' := s1.toks) fun b o e => Heap.get?_push_of_some _ e, turn_list a _, ⟨_, Heap.get?_push_size _ rfl, rfl, rfl⟩, fun b hb => ?_, q⟩
  have e : b = s1.heap.objs.size := by simpa using hb
  subst e
  exact I1.fpOk (Nat.le_refl _) (I1.hok.fresh (Nat.le_refl _))
theorem pi_tup {l : Expr} {tl : TE} (hl : PE X l tl) : PI X tg l (iTup X.K tl) := by
  intro pins s σ H R I h
  refine thn (hl pins s σ H _ I h) fun v s1 ⟨x, H1, I1, r1, q1⟩ => ?_
  obtain ⟨a, e, ⟨xs, hq⟩, q⟩ := q1
  subst e
  cases r1
  obtain ⟨its, rv, p, hz⟩ := I1.tuple hq
  refine wpAny_pyIter_tuple (show s1.heap.IsTuple a its.toArray from p) ?_
  refine ⟨s1.heap.objs.size, [s1.heap.objs.size], _, _, H1, rfl, I1.kept (t' := s1.toks) fun b o e => Heap.get?_push_of_some _ e, turn_tuple a _, ⟨_, Heap.get?_push_size _ rfl, rfl, rfl⟩, fun b hb => ?_, q⟩
  have e : b = s1.heap.objs.size := by simpa using hb
  subst e
  exact I1.fpOk (Nat.le_refl _) (I1.hok.fresh (Nat.le_refl _))
def iRng1 (ta : TA) : TI := fun σ H R => ta σ H fun vs H1 => ∃ j : Int, vs = [.int j] ∧ -(2 ^ 62) ≤ j ∧ j < 2 ^ 62 ∧ R (Itr 0 j.toNat) H1
def iRng2 (ta : TA) : TI := fun σ H R => ta σ H fun vs H1 => ∃ i j : Int, vs = [.int i, .int j] ∧ (-(2 ^ 62) ≤ i ∧ i < 2 ^ 62 ∧ -(2 ^ 62) ≤ j ∧ j < 2 ^ 62) ∧ R (Itr i (j - i).toNat) H1
/-! ### for -/
/-- W: the invariant by the turn and a measure; N: what the body is to reach -/
def tFor (wi : TI) (g : TG) (tb : TS) : TS := fun D σ H => wi σ H fun J H1 => ∃ W : Nat → Nat → St → Hp → Prop, (∃ m, W 0 m σ H1) ∧ ∀ i m σ H, W i m σ H →
  (J.stop i H ∧ D.nx σ H) ∨ (J.go i H ∧ ∃ N : St → Hp → Prop, (∀ σ' H', N σ' H' → ∃ m', m' < m ∧ W (i + 1) m' σ' H') ∧ ∀ x H', J.yld i H x H' → g x σ H' fun σ2 H2 => tb { D with nx := N, ct := N, bk := D.nx } σ2 H2)
/-- the records at fp as they stand -/
def pinsAt (fp : List Addr) (h : Heap) : List (Addr × Obj) := fp.filterMap fun b => (h.get? b).map fun o => (b, o)
theorem mem_pinsAt {fp : List Addr} {h : Heap} {b : Addr} {o : Obj} (hb : b ∈ fp) (e : h.get? b = some o) : (b, o) ∈ pinsAt fp h := List.mem_filterMap.mpr ⟨b, hb, by rw [e]; rfl⟩
theorem of_pinsAt {fp : List Addr} {h : Heap} {p : Addr × Obj} (hp : p ∈ pinsAt fp h) : p.1 ∈ fp ∧ h.get? p.1 = some p.2 := by
  obtain ⟨b, hb, e⟩ := List.mem_filterMap.mp hp
  cases q : h.get? b with
  | none => rw [q] at e; cases e
  | some o =>
    rw [q] at e
    have e' : (b, o) = p := Option.some.inj e
    subst e'
    exact ⟨hb, q⟩
theorem Inv.pinned {pins : List (Addr × Obj)} {σ : St} {H : Hp} {s : Shared} {fp : List Addr} (I : Inv X pins σ H s) (hf : ∀ b ∈ fp, FpOk X pins H b) (ho : ∀ b ∈ fp, ∃ o, s.heap.get? b = some o ∧ ∀ v, o.data ≠ .cell v) : Inv X (pins ++ pinsAt fp s.heap) σ H s :=
  I.pins_of fun p hp => (List.mem_append.mp hp).elim (fun z => I.pin p (List.mem_append_right _ z)) fun z => by
    obtain ⟨hb, e⟩ := of_pinsAt z
    obtain ⟨f0, f1, f2, _⟩ := hf p.1 hb
    obtain ⟨o, e', d⟩ := ho p.1 hb
    rw [e] at e'; cases e'
    exact ⟨e, f0, f1, f2, d⟩
theorem Inv.unpinned {pins pl : List (Addr × Obj)} {σ : St} {H : Hp} {s : Shared} (I : Inv X (pins ++ pl) σ H s) : Inv X pins σ H s := I.pins_of fun p hp => I.pin p (List.mem_append_right _ (List.mem_append_left _ hp))
theorem ps_for {iter : Expr} {body : List Stmt} {wi : TI} {g : TG} {tb : TS} {pos : Pos} (hp : PassesOwn (model X.prog X.w) X.A X.env X.xe) (hc : X.calm = true) (hi : PI X tg iter wi) (hg : PG X tg g) (hb : PSs X body tb)
    (hs : ∀ x, foldedSetIterable iter X.env x = pure x := by intro _; rfl) : PS X (.For tg iter body [] pos) (tFor wi g tb) := by
  intro pins s σ H D I h
  refine wpAny_For (thn (hi pins s σ H _ I h) fun v s1 h1 => thn h1 fun itv s2 h2 => ?_) hs
  obtain ⟨it, fp, tn, J, H2, e, I2, T, st2, f2, W, ⟨m0, w0⟩, turn⟩ := h2
  subst e
  -- what stays true of the iterator's objects through the loop
  have stat : ∀ {H' : Hp}, (∀ b ∈ fp, H' b = none) → ∀ b ∈ fp, FpOk X pins H' b := fun hn b hb => ⟨hn b hb, (f2 b hb).2⟩
  refine codeAny_forLoop_any (fun n s' => ∃ i σ' H', Inv X pins σ' H' s' ∧ tn i s'.heap ∧ (∀ b ∈ fp, H' b = none) ∧ W i n σ' H') ?_ m0 ⟨0, σ, H2, I2, st2, fun b hb => (f2 b hb).1, w0⟩
  rintro n s3 ⟨i, σ3, H3, I3, st3, fr3, w3⟩
  rcases turn i n σ3 H3 w3 with ⟨stop, qn⟩ | ⟨go, N, hN, step⟩
  · refine wpAny_passesOwn hp (thn (T.done X rfl rfl rfl hc i pins s3 σ3 H3 X.xe I3 (stat fr3) st3 stop) fun r s4 ⟨hr, I4⟩ => ?_)
    subst hr
    exact wpAny_execs_nil ⟨σ3, H3, I4, qn⟩
  · refine wpAny_passesOwn hp (thn (T.item X rfl rfl rfl hc i pins s3 σ3 H3 X.xe I3 (stat fr3) st3 go) fun r s4 ⟨u, hr, h4⟩ => ?_)
    subst hr
    refine wpAny_passesOwn hp (thn h4 fun _ s5 ⟨x, H5, I5, r5, y5, st5, fr5⟩ => ?_)
    have I5' := I5.pinned (stat fr5) (T.obj _ _ st5)
    refine wpAny_passesOwn hp (thn (hg _ s5 σ3 H5 x u _ I5' r5 (step x H5 y5)) fun _ s6 ⟨σ6, H6, I6, q6⟩ => ?_)
    refine wpAny_passesOwn hp (thn (hb _ s6 σ6 H6 _ I6 q6) fun f s7 q7 => ?_)
    have again : ∀ {σ7 : St} {H7 : Hp}, Inv X (pins ++ pinsAt fp s5.heap) σ7 H7 s7 → N σ7 H7 → ∃ m, m < n ∧ ∃ i σ' H', Inv X pins σ' H' s7 ∧ tn i s7.heap ∧ (∀ b ∈ fp, H' b = none) ∧ W i m σ' H' := fun {σ7 H7} I7 n7 => by
      obtain ⟨m', hm, w7⟩ := hN σ7 H7 n7
      refine ⟨m', hm, i + 1, σ7, H7, I7.unpinned, T.keep _ _ _ st5 fun b hb o e => (I7.pin (b, o) (List.mem_append_right _ (List.mem_append_right _ (mem_pinsAt hb e)))).1, fun b hb => ?_, w7⟩
      obtain ⟨o, e, d⟩ := T.obj _ _ st5 b hb
      exact (I7.pin (b, o) (List.mem_append_right _ (List.mem_append_right _ (mem_pinsAt hb e)))).2.1
    cases f with
    | next => obtain ⟨σ7, H7, I7, n7⟩ := q7; exact again I7 n7
    | cont => obtain ⟨σ7, H7, I7, n7⟩ := q7; exact again I7 n7
    | brk => obtain ⟨σ7, H7, I7, q7⟩ := q7; exact ⟨σ7, H7, I7.unpinned, q7⟩
    | ret v => obtain ⟨x7, σ7, H7, I7, r7, q7⟩ := q7; exact ⟨x7, σ7, H7, I7.unpinned, r7, q7⟩
end

/-! ### the forms one uses -/
/-- over a list that the body leaves as it is -/
theorem for_list {K : PySem.W.Frag} {a : Addr} {xs : List V} {g : TG} {tb : TS} {D : Ends} {σ : St} {H : Hp} (Pv : Nat → St → Hp → Prop) (h0 : Pv 0 σ H) (hl : ∀ i σ H, i ≤ xs.length → Pv i σ H → SqL K H a xs)
    (hs : ∀ i x σ H, xs[i]? = some x → Pv i σ H → g x σ H fun σ2 H2 => tb { D with nx := Pv (i + 1), ct := Pv (i + 1), bk := D.nx } σ2 H2) (hd : ∀ σ H, Pv xs.length σ H → D.nx σ H) :
    ∃ W : Nat → Nat → St → Hp → Prop, (∃ m, W 0 m σ H) ∧ ∀ i m σ H, W i m σ H →
      ((Itl K a).stop i H ∧ D.nx σ H) ∨ ((Itl K a).go i H ∧ ∃ N : St → Hp → Prop, (∀ σ' H', N σ' H' → ∃ m', m' < m ∧ W (i + 1) m' σ' H') ∧ ∀ x H', (Itl K a).yld i H x H' → g x σ H' fun σ2 H2 => tb { D with nx := N, ct := N, bk := D.nx } σ2 H2) := by
  refine ⟨fun i m σ H => m = xs.length - i ∧ i ≤ xs.length ∧ Pv i σ H, ⟨xs.length, by simp, Nat.zero_le _, h0⟩, ?_⟩
  rintro i m σ H ⟨rfl, hi, p⟩
  have q := hl i σ H hi p
  by_cases hlt : i < xs.length
  · refine .inr ⟨⟨xs, xs[i], q, by simp [hlt]⟩, Pv (i + 1), fun σ' H' p' => ⟨xs.length - (i + 1), by omega, rfl, hlt, p'⟩, fun x H' y => ?_⟩
    obtain ⟨e, y⟩ := y
    subst e
    exact hs i x σ _ (y xs q) p
  · have e : i = xs.length := by omega
    subst e
    exact .inl ⟨⟨xs, q, Nat.le_refl _⟩, hd σ H p⟩
theorem for_tup {K : PySem.W.Frag} {a : Addr} {xs : List V} {g : TG} {tb : TS} {D : Ends} {σ : St} {H : Hp} (Pv : Nat → St → Hp → Prop) (h0 : Pv 0 σ H) (hl : ∀ i σ H, i ≤ xs.length → Pv i σ H → SqT K H a xs)
    (hs : ∀ i x σ H, xs[i]? = some x → Pv i σ H → g x σ H fun σ2 H2 => tb { D with nx := Pv (i + 1), ct := Pv (i + 1), bk := D.nx } σ2 H2) (hd : ∀ σ H, Pv xs.length σ H → D.nx σ H) :
    ∃ W : Nat → Nat → St → Hp → Prop, (∃ m, W 0 m σ H) ∧ ∀ i m σ H, W i m σ H →
      ((Itt K a).stop i H ∧ D.nx σ H) ∨ ((Itt K a).go i H ∧ ∃ N : St → Hp → Prop, (∀ σ' H', N σ' H' → ∃ m', m' < m ∧ W (i + 1) m' σ' H') ∧ ∀ x H', (Itt K a).yld i H x H' → g x σ H' fun σ2 H2 => tb { D with nx := N, ct := N, bk := D.nx } σ2 H2) := by
  refine ⟨fun i m σ H => m = xs.length - i ∧ i ≤ xs.length ∧ Pv i σ H, ⟨xs.length, by simp, Nat.zero_le _, h0⟩, ?_⟩
  rintro i m σ H ⟨rfl, hi, p⟩
  have q := hl i σ H hi p
  by_cases hlt : i < xs.length
  · refine .inr ⟨⟨xs, xs[i], q, by simp [hlt]⟩, Pv (i + 1), fun σ' H' p' => ⟨xs.length - (i + 1), by omega, rfl, hlt, p'⟩, fun x H' y => ?_⟩
    obtain ⟨e, y⟩ := y
    subst e
    exact hs i x σ _ (y xs q) p
  · have e : i = xs.length := by omega
    subst e
    exact .inl ⟨⟨xs, q, Nat.le_refl _⟩, hd σ H p⟩
/-- while, by a word and a measure of the state -/
theorem while_by {c : TT} {tb : TS} {D : Ends} {σ : St} {H : Hp} (Pv : St → Hp → Prop) (μ : St → Hp → Nat) (h0 : Pv σ H)
    (hs : ∀ σ H, Pv σ H → c σ H fun b H1 => if b = true then tb { D with nx := fun σ' H' => Pv σ' H' ∧ μ σ' H' < μ σ H, ct := fun σ' H' => Pv σ' H' ∧ μ σ' H' < μ σ H, bk := D.nx } σ H1 else D.nx σ H1)
    (mono : ∀ σ H Q Q', (∀ b H1, Q b H1 → Q' b H1) → c σ H Q → c σ H Q') : tWhile c tb D σ H := by
  refine ⟨fun m σ H => m = μ σ H ∧ Pv σ H, ⟨_, rfl, h0⟩, ?_⟩
  rintro m σ H ⟨rfl, p⟩
  refine mono σ H _ _ (fun b H1 q => ?_) (hs σ H p)
  cases b with
  | true => exact ⟨_, fun σ' H' ⟨p', l⟩ => ⟨_, l, rfl, p'⟩, q⟩
  | false => exact q
end L2

namespace L2
open PySem PySem.Spec PyProof.Rows

abbrev R2 := V → V → Hp → VK → Prop
/-- a two-place operation on values: f is binaryOp op, inplaceOp op or compareOp op -/
def OpR (X : Cx) (f : Value → Value → Sem Value) (r : R2) : Prop :=
  ∀ (pins : List (Addr × Obj)) (s : Shared) (σ : St) (H : Hp) (x y : V) (v u : Value) (Q : VK), Inv X pins σ H s → RelV x v → RelV y u → r x y H Q →
    wpAny (model X.prog X.w) X.A (f v u) (EP X pins σ Q) X.xe s
/-- a one-place operation -/
def UnR (X : Cx) (f : Value → Sem Value) (r : V → Hp → VK → Prop) : Prop :=
  ∀ (pins : List (Addr × Obj)) (s : Shared) (σ : St) (H : Hp) (x : V) (v : Value) (Q : VK), Inv X pins σ H s → RelV x v → r x H Q →
    wpAny (model X.prog X.w) X.A (f v) (EP X pins σ Q) X.xe s
/-- a call of a value that is known (a builtin, a type) with values -/
def CallR (X : Cx) (f : Value) (r : List V → Hp → VK → Prop) : Prop :=
  ∀ (pins : List (Addr × Obj)) (s : Shared) (σ : St) (H : Hp) (xs : List V) (us : List Value) (Q : VK), Inv X pins σ H s → Vals xs us → r xs H Q →
    wpAny (model X.prog X.w) X.A (call f us) (EP X pins σ Q) X.xe s
/-- a value's truth -/
def TruR (X : Cx) (r : V → Hp → (Bool → Hp → Prop) → Prop) : Prop :=
  ∀ (pins : List (Addr × Obj)) (s : Shared) (σ : St) (H : Hp) (x : V) (v : Value) (Q : Bool → Hp → Prop), Inv X pins σ H s → RelV x v → r x H Q →
    wpAny (model X.prog X.w) X.A (truthy v) (TP X pins σ Q) X.xe s

def tOp (r : R2) (ta tb : TE) : TE := fun σ H Q => ta σ H fun x H1 => tb σ H1 fun y H2 => r x y H2 Q
def tUn (r : V → Hp → VK → Prop) (ta : TE) : TE := fun σ H Q => ta σ H fun x H1 => r x H1 Q
/-- ints in, under C, and a value out -/
def rI (C : Int → Int → Prop) (g : Int → Int → V) : R2 := fun x y H Q => ∃ i j, x = .int i ∧ y = .int j ∧ C i j ∧ Q (g i j) H
def rI0 (g : Int → Int → V) : R2 := fun x y H Q => ∃ i j, x = .int i ∧ y = .int j ∧ Q (g i j) H
def rU (g : Int → V) : V → Hp → VK → Prop := fun x H Q => ∃ i, x = .int i ∧ Q (g i) H

section
variable {X : Cx} {a b c : Expr} {ta tb tc : TE} {pos : Pos}

theorem binT (ha : PE X a ta) (hb : PE X b tb) {pins : List (Addr × Obj)} {s : Shared} {σ : St} {H : Hp} {R : V → V → Hp → Prop} (I : Inv X pins σ H s)
    (h : ta σ H fun x H1 => tb σ H1 fun y H2 => R x y H2) {Q : Value → Shared → Prop} {f : Value → Value → Sem Value}
    (hf : ∀ v u s2 x y H2, Inv X pins σ H2 s2 → RelV x v → RelV y u → R x y H2 → wpAny (model X.prog X.w) X.A (f v u) Q X.xe s2) :
    wpAny (model X.prog X.w) X.A (eval a X.env) (fun v s₁ => wpAny (model X.prog X.w) X.A (eval b X.env) (fun u s₂ => wpAny (model X.prog X.w) X.A (f v u) Q X.xe s₂) X.xe s₁) X.xe s := by
  refine thn (ha pins s σ H _ I h) fun v s1 ⟨x, H1, I1, r1, q1⟩ => ?_
  refine thn (hb pins s1 σ H1 _ I1 q1) fun u s2 ⟨y, H2, I2, r2, q2⟩ => ?_
  exact hf v u s2 x y H2 I2 r1 r2 q2

theorem pe_op {op : Operator} {r : R2} (ho : OpR X (binaryOp op) r) (ha : PE X a ta) (hb : PE X b tb) : PE X (.BinOp a op b pos) (tOp r ta tb) := by
  intro pins s σ H Q I h
  exact wpAny_BinOp (binT ha hb I h fun v u s2 x y H2 I2 rx ry q => ho pins s2 σ H2 x y v u Q I2 rx ry q)
theorem pe_un {op : UnaryOp} {r : V → Hp → VK → Prop} (ho : UnR X (unaryOp op) r) (ha : PE X a ta) : PE X (.UnaryOp op a pos) (tUn r ta) := by
  intro pins s σ H Q I h
  exact UnaryOp_ (thn (ha pins s σ H _ I h) fun v s1 ⟨x, H1, I1, r1, q1⟩ => ho pins s1 σ H1 x v Q I1 r1 q1)
/-! ### ints -/
theorem opI {f : Value → Value → Sem Value} {C : Int → Int → Prop} {g : Int → Int → Int}
    (rule : ∀ (i j : Int) (t u : Tok) (s : Shared) (Q : Value → Shared → Prop) (E : Value → Shared → Prop), C i j → Q (.int (g i j) s.toks) { s with toks := s.toks + 1 } → wpAny (model X.prog X.w) X.A (f (.int i t) (.int j u)) Q E s) :
    OpR X f (rI C fun i j => .int (g i j)) := by
  intro pins s σ H x y v u Q I rx ry h
  obtain ⟨i, j, rfl, rfl, hc, q⟩ := h
  obtain ⟨t, rfl⟩ := rx
  obtain ⟨t', rfl⟩ := ry
  exact rule i j t t' s _ _ hc ⟨.int (g i j), H, I.tok _, ⟨_, rfl⟩, q⟩
theorem opI0 {f : Value → Value → Sem Value} {g : Int → Int → Int}
    (rule : ∀ (i j : Int) (t u : Tok) (s : Shared) (Q : Value → Shared → Prop) (E : Value → Shared → Prop), Q (.int (g i j) s.toks) { s with toks := s.toks + 1 } → wpAny (model X.prog X.w) X.A (f (.int i t) (.int j u)) Q E s) :
    OpR X f (rI0 fun i j => .int (g i j)) := by
  intro pins s σ H x y v u Q I rx ry h
  obtain ⟨i, j, rfl, rfl, q⟩ := h
  obtain ⟨t, rfl⟩ := rx
  obtain ⟨t', rfl⟩ := ry
  exact rule i j t t' s _ _ ⟨.int (g i j), H, I.tok _, ⟨_, rfl⟩, q⟩
theorem opB0 {f : Value → Value → Sem Value} {g : Int → Int → Bool}
    (rule : ∀ (i j : Int) (t u : Tok) (s : Shared) (Q : Value → Shared → Prop) (E : Value → Shared → Prop), Q (.bool (g i j)) s → wpAny (model X.prog X.w) X.A (f (.int i t) (.int j u)) Q E s) :
    OpR X f (rI0 fun i j => .bl (g i j)) := by
  intro pins s σ H x y v u Q I rx ry h
  obtain ⟨i, j, rfl, rfl, q⟩ := h
  obtain ⟨t, rfl⟩ := rx
  obtain ⟨t', rfl⟩ := ry
  exact rule i j t t' s _ _ ⟨.bl (g i j), H, I, rfl, q⟩

def CDiv (i j : Int) : Prop := 0 < j ∧ j < 1073741824
def CDivN (i j : Int) : Prop := j ≠ 0 ∧ j.natAbs < 1073741824
def CPow (i j : Int) : Prop := 0 ≤ j ∧ j ≤ 1000000 ∧ i.natAbs < 2 ^ 64
def CMul (i j : Int) : Prop := (-(2 ^ 64) < i ∧ i < 2 ^ 64) ∨ (-(2 ^ 64) < j ∧ j < 2 ^ 64)
theorem two_pow_nn (k : Nat) : (0 : Int) ≤ 2 ^ k := by
  rw [two_pow_cast]
  exact Int.natCast_nonneg _

theorem op_add : OpR X (binaryOp .Add) (rI0 fun i j => .int (i + j)) := opI0 fun _ _ _ _ _ _ _ q => add_int q
theorem op_sub : OpR X (binaryOp .Sub) (rI0 fun i j => .int (i - j)) := opI0 fun _ _ _ _ _ _ _ q => sub_int q
/-- // by a positive divisor -/
theorem op_fdiv : OpR X (binaryOp .FloorDiv) (rI CDiv fun i j => .int (i / j)) := opI fun i j _ _ _ _ _ hc q => by
  have h1 : (0 : Int) < j := hc.1
  have h2 : j < 1073741824 := hc.2
  exact floordiv_int (by omega) (by rw [Int.fdiv_eq_ediv_of_nonneg i (by omega)]; exact q) (.inl (PyProof.noPylong_small (by omega)))
theorem op_shr : OpR X (binaryOp .RShift) (rI (fun _ j => 0 ≤ j) fun i j => .int (i / 2 ^ j.toNat)) := opI fun i j _ _ _ _ _ hc q =>
  rshift_int hc (by rw [Int.fdiv_eq_ediv_of_nonneg i (two_pow_nn _)]; exact q)
theorem op_and : OpR X (binaryOp .BitAnd) (rI0 fun i j => .int (Builtin.bitAnd i j)) := opI0 fun _ _ _ _ _ _ _ q => and_int q
theorem op_or : OpR X (binaryOp .BitOr) (rI0 fun i j => .int (Builtin.bitOr i j)) := opI0 fun _ _ _ _ _ _ _ q => or_int q
theorem op_xor : OpR X (binaryOp .BitXor) (rI0 fun i j => .int (Builtin.bitXor i j)) := opI0 fun _ _ _ _ _ _ _ q => xor_int q

theorem unI {f : Value → Sem Value} {g : Int → Int}
    (rule : ∀ (i : Int) (t : Tok) (s : Shared) (Q : Value → Shared → Prop) (E : Value → Shared → Prop), Q (.int (g i) s.toks) { s with toks := s.toks + 1 } → wpAny (model X.prog X.w) X.A (f (.int i t)) Q E s) :
    UnR X f (rU fun i => .int (g i)) := by
  intro pins s σ H x v Q I rx h
  obtain ⟨i, rfl, q⟩ := h
  obtain ⟨t, rfl⟩ := rx
  exact rule i t s _ _ ⟨.int (g i), H, I.tok _, ⟨_, rfl⟩, q⟩
theorem un_neg : UnR X (unaryOp .USub) (rU fun i => .int (-i)) := unI fun _ _ _ _ _ q => neg_int q
/-! ### bools among ints: n += (a < b) -/
end

/-! ### comparisons -/
/-- the scalars that == tells apart as data does -/
def scal : V → V → Bool
  | .non, .non => true | .non, .int _ => true | .int _, .non => true | .non, .bl _ => true | .bl _, .non => true | .non, .str _ => true | .str _, .non => true
  | .int _, .int _ => true | .bl _, .bl _ => true | .str _, .str _ => true | .byt _, .byt _ => true
  | .int _, .str _ => true | .str _, .int _ => true | .bl _, .str _ => true | .str _, .bl _ => true
  | _, _ => false
def rEq : R2 := fun x y H Q => scal x y = true ∧ Q (.bl (decide (x = y))) H
def rNe : R2 := fun x y H Q => scal x y = true ∧ Q (.bl (!decide (x = y))) H

theorem dec_int {i j : Int} : decide (V.int i = V.int j) = (i == j) := by
  rw [Bool.eq_iff_iff]
  simp
theorem dec_bl {i j : Bool} : decide (V.bl i = V.bl j) = (i == j) := by
  rw [Bool.eq_iff_iff]
  simp
theorem dec_str {i j : Str} : decide (V.str i = V.str j) = (i == j) := by
  rw [Bool.eq_iff_iff]
  simp
theorem dec_byt {i j : Array UInt8} : decide (V.byt i = V.byt j) = (i.toList == j.toList) := by
  rw [Bool.eq_iff_iff]
  cases i
  cases j
  simp

section
variable {X : Cx} {a b c : Expr} {ta tb tc : TE} {pos : Pos}
theorem fin_bl {pins : List (Addr × Obj)} {σ : St} {H : Hp} {s : Shared} {Q : VK} {k k' : Bool} (I : Inv X pins σ H s) (q : Q (.bl k) H) (e : k = k') : EP X pins σ Q (.bool k') s := by
  subst e
  exact ⟨.bl k, H, I, rfl, q⟩
theorem op_eq : OpR X (compareOp .Eq) rEq := by
  intro pins s σ H x y v u Q I rx ry h
  obtain ⟨hs, q⟩ := h
  cases x with
  | non =>
    cases rx
    cases y with
    | non => cases ry; exact PySem.EqNone.eq_none_none (fin_bl I q (by simp))
    | bl j => cases ry; exact PySem.EqNone.eq_none_bool (fin_bl I q (by simp))
    | int j => obtain ⟨t', rfl⟩ := ry; exact PySem.EqNone.eq_none_int (fin_bl I q (by simp))
    | str j => obtain ⟨t', rfl⟩ := ry; exact PySem.EqNone.eq_none_str (fin_bl I q (by simp))
    | _ => exact absurd (show false = true from hs) Bool.false_ne_true
  | bl i =>
    cases rx
    cases y with
    | non => cases ry; exact PySem.EqNone.eq_bool_none (fin_bl I q (by simp))
    | bl j => cases ry; exact eq_bool (fin_bl I q dec_bl)
    | str j => obtain ⟨t', rfl⟩ := ry; exact PySem.EqMixed.eq_bool_str (fin_bl I q (by simp))
    | _ => exact absurd (show false = true from hs) Bool.false_ne_true
  | int i =>
    obtain ⟨t, rfl⟩ := rx
    cases y with
    | non => cases ry; exact PySem.EqNone.eq_int_none (fin_bl I q (by simp))
    | int j => obtain ⟨t', rfl⟩ := ry; exact eq_int (fin_bl I q dec_int)
    | str j => obtain ⟨t', rfl⟩ := ry; exact PySem.EqMixed.eq_int_str (fin_bl I q (by simp))
    | _ => exact absurd (show false = true from hs) Bool.false_ne_true
  | str i =>
    obtain ⟨t, rfl⟩ := rx
    cases y with
    | non => cases ry; exact PySem.EqNone.eq_str_none (fin_bl I q (by simp))
    | bl j => cases ry; exact PySem.EqMixed.eq_str_bool (fin_bl I q (by simp))
    | int j => obtain ⟨t', rfl⟩ := ry; exact PySem.EqMixed.eq_str_int (fin_bl I q (by simp))
    | str j => obtain ⟨t', rfl⟩ := ry; exact eq_str (fin_bl I q dec_str)
    | _ => exact absurd (show false = true from hs) Bool.false_ne_true
  | byt i =>
    obtain ⟨t, rfl⟩ := rx
    cases y with
    | byt j => obtain ⟨t', rfl⟩ := ry; exact PySem.W.eq_bytes (fin_bl I q dec_byt)
    | _ => exact absurd (show false = true from hs) Bool.false_ne_true
  | _ => cases y <;> exact absurd (show false = true from hs) Bool.false_ne_true
theorem op_ne : OpR X (compareOp .NotEq) rNe := by
  intro pins s σ H x y v u Q I rx ry h
  obtain ⟨hs, q⟩ := h
  cases x with
  | non =>
    cases rx
    cases y with
    | non => cases ry; exact PySem.EqNone.ne_none_none (fin_bl I q (by simp))
    | bl j => cases ry; exact PySem.EqNone.ne_none_bool (fin_bl I q (by simp))
    | int j => obtain ⟨t', rfl⟩ := ry; exact PySem.EqNone.ne_none_int (fin_bl I q (by simp))
    | str j => obtain ⟨t', rfl⟩ := ry; exact PySem.EqNone.ne_none_str (fin_bl I q (by simp))
    | _ => exact absurd (show false = true from hs) Bool.false_ne_true
  | bl i =>
    cases rx
    cases y with
    | non => cases ry; exact PySem.EqNone.ne_bool_none (fin_bl I q (by simp))
    | bl j => cases ry; exact ne_bool (fin_bl I q (congrArg not dec_bl))
    | str j => obtain ⟨t', rfl⟩ := ry; exact PySem.EqMixed.ne_bool_str (fin_bl I q (by simp))
    | _ => exact absurd (show false = true from hs) Bool.false_ne_true
  | int i =>
    obtain ⟨t, rfl⟩ := rx
    cases y with
    | non => cases ry; exact PySem.EqNone.ne_int_none (fin_bl I q (by simp))
    | int j => obtain ⟨t', rfl⟩ := ry; exact ne_int (fin_bl I q (congrArg not dec_int))
    | str j => obtain ⟨t', rfl⟩ := ry; exact PySem.EqMixed.ne_int_str (fin_bl I q (by simp))
    | _ => exact absurd (show false = true from hs) Bool.false_ne_true
  | str i =>
    obtain ⟨t, rfl⟩ := rx
    cases y with
    | non => cases ry; exact PySem.EqNone.ne_str_none (fin_bl I q (by simp))
    | bl j => cases ry; exact PySem.EqMixed.ne_str_bool (fin_bl I q (by simp))
    | int j => obtain ⟨t', rfl⟩ := ry; exact PySem.EqMixed.ne_str_int (fin_bl I q (by simp))
    | str j => obtain ⟨t', rfl⟩ := ry; exact ne_str (fin_bl I q (congrArg not dec_str))
    | _ => exact absurd (show false = true from hs) Bool.false_ne_true
  | byt i =>
    obtain ⟨t, rfl⟩ := rx
    cases y with
    | byt j => obtain ⟨t', rfl⟩ := ry; exact PySem.W.ne_bytes (fin_bl I q (congrArg not dec_byt))
    | _ => exact absurd (show false = true from hs) Bool.false_ne_true
  | _ => cases y <;> exact absurd (show false = true from hs) Bool.false_ne_true

theorem op_lt : OpR X (compareOp .Lt) (rI0 fun i j => .bl (decide (i < j))) := opB0 fun _ _ _ _ _ _ _ q => lt_int q
theorem op_le : OpR X (compareOp .LtE) (rI0 fun i j => .bl (decide (i ≤ j))) := opB0 fun _ _ _ _ _ _ _ q => le_int q
theorem op_ge : OpR X (compareOp .GtE) (rI0 fun i j => .bl (decide (j ≤ i))) := opB0 fun _ _ _ _ _ _ _ q => ge_int q
/-- is, is not of two objects that are tracked lists or instances -/
def isObj : HO → Bool
  | .lst _ => true
  | .ins _ _ _ => true
  | _ => false
theorem nomark (b : Expr) {op : CmpOp} (h : op ≠ .In := by decide) (h2 : op ≠ .NotIn := by decide) : behindInMarks op b = false := by
  have e1 : (op == CmpOp.In) = false := by cases op <;> first | rfl | exact absurd rfl h
  have e2 : (op == CmpOp.NotIn) = false := by cases op <;> first | rfl | exact absurd rfl h2
  cases b <;> simp [behindInMarks, e1, e2]
/-- a reading of a value as a test -/
def tTest (t : TE) : TT := fun σ H Q => t σ H fun x H' => ∃ k, x = .bl k ∧ Q k H'
theorem pt_cmpR {op : CmpOp} {r : R2} (ho : OpR X (compareOp op) r) (ha : PE X a ta) (hb : PE X b tb) (hm : behindInMarks op b = false) : PT X (.Compare a [op] [b] pos) (tTest (tOp r ta tb)) := by
  intro pins s σ H Q I h
  refine wpAny_isTrue_Compare1 (thn (ha pins s σ H _ I h) fun v s1 ⟨x, H1, I1, r1, q1⟩ => thn (hb pins s1 σ H1 _ I1 q1) fun u s2 ⟨y, H2, I2, r2, q2⟩ =>
    thn (ho pins s2 σ H2 x y v u _ I2 r1 r2 q2) fun c s3 ⟨z, H3, I3, r3, k, e, q3⟩ => ?_) hm
  subst e
  cases r3
  exact wpAny_truthy_bool ⟨H3, I3, q3⟩
/-- a op1 b op2 c -/
def tChain (r r' : R2) (ta tb tc : TE) : TE := fun σ H Q => ta σ H fun x H1 => tb σ H1 fun y H2 => r x y H2 fun z H3 => ∃ k, z = .bl k ∧
  (if k = true then tc σ H3 fun w' H4 => r' y w' H4 Q else Q (.bl false) H3)
theorem pt_chain {op op' : CmpOp} {r r' : R2} (ho : OpR X (compareOp op) r) (ho' : OpR X (compareOp op') r') (ha : PE X a ta) (hb : PE X b tb) (hc : PE X c tc)
    (hm : lastMarks [op, op'] [b, c] = false := by with_unfolding_all rfl) : PT X (.Compare a [op, op'] [b, c] pos) (tTest (tChain r r' ta tb tc)) := by
  intro pins s σ H Q I h
  refine isTrue_chain (thn (ha pins s σ H _ I h) fun v s1 ⟨x, H1, I1, r1, q1⟩ => test_link (thn (hb pins s1 σ H1 _ I1 q1) fun u s2 ⟨y, H2, I2, r2, q2⟩ =>
    thn (ho pins s2 σ H2 x y v u _ I2 r1 r2 q2) fun d s3 ⟨z, H3, I3, r3, k, e, q3⟩ => ?_)) hm
  subst e
  cases r3
  refine wpAny_truthy_bool ?_
  cases k with
  | false =>
    obtain ⟨k', e', q'⟩ := q3
    cases e'
    exact ite_ff ⟨H3, I3, q'⟩
  | true =>
    refine ite_tt (test_last (thn (hc pins s3 σ H3 _ I3 q3) fun w' s4 ⟨z', H4, I4, r4, q4⟩ => thn (ho' pins s4 σ H4 y z' u w' _ I4 r2 r4 q4) fun d' s5 ⟨z2, H5, I5, r5, k2, e2, q5⟩ => ?_))
    subst e2
    cases r5
    exact wpAny_truthy_bool ⟨H5, I5, q5⟩

/-! ### truth -/
/-- a value's truth by the abstract heap -/
def TruV (K : PySem.W.Frag) (x : V) (H : Hp) (k : Bool) : Prop :=
  match x with
  | .non => k = false
  | .bl b => k = b
  | .int i => k = (i != 0)
  | .str y => y.length ≤ sizeLine ∧ k = ((y.length : Int) != 0)
  | .byt y => y.size ≤ sizeLine ∧ k = ((y.size : Int) != 0)
  | .ref p => (∃ xs, SqL K H p xs ∧ k = !xs.isEmpty) ∨ (∃ xs, SqT K H p xs ∧ k = !xs.isEmpty) ∨ ∃ kvs, H p = some (.dK kvs) ∧ k = !kvs.isEmpty
  | _ => False
theorem line63 : (sizeLine : Nat) < 2 ^ 63 := by rw [sizeLine_eq]; decide
/-! ### strs and bytes -/
def PlainIxT (b : Expr) : Prop := ∀ o i, subscripted b false o i = operate [o, i] (getItem o i)
/-! ### scalar builtins, by CallR -/
theorem vals1 {x : V} {us : List Value} (r : Vals [x] us) : ∃ u, us = [u] ∧ RelV x u := by
  cases r with
  | cons r1 r2 => cases r2; exact ⟨_, rfl, r1⟩
theorem vals2 {x y : V} {us : List Value} (r : Vals [x, y] us) : ∃ u w', us = [u, w'] ∧ RelV x u ∧ RelV y w' := by
  cases r with
  | cons r1 r2 =>
    cases r2 with
    | cons r3 r4 => cases r4; exact ⟨_, _, rfl, r1, r3⟩
theorem call_max2 (hc : X.calm = true) : CallR X (.builtin "max") (fun xs H Q => ∃ i j, xs = [.int i, .int j] ∧ Q (.int (if j > i then j else i)) H) := by
  intro pins s σ H xs us Q I r h
  obtain ⟨i, j, rfl, q⟩ := h
  obtain ⟨u, w', rfl, ⟨t, rfl⟩, ⟨t', rfl⟩⟩ := vals2 r
  refine max_two_ints (I.ok.hd hc) fun h' tk k => ⟨_, H, I.kept k, ?_, q⟩
  by_cases hj : j > i
  · rw [if_pos hj, if_pos hj]; exact ⟨_, rfl⟩
  · rw [if_neg hj, if_neg hj]; exact ⟨_, rfl⟩
/-- len of a str, a bytes, a list, a tuple -/
def LenV (K : PySem.W.Frag) (x : V) (H : Hp) (n : Nat) : Prop :=
  match x with
  | .str y => y.length ≤ sizeLine ∧ n = y.length
  | .byt y => y.size ≤ sizeLine ∧ n = y.size
  | .ref p => (∃ xs, SqL K H p xs ∧ n = xs.length) ∨ ∃ xs, SqT K H p xs ∧ n = xs.length
  | _ => False
end
end L2

namespace L2
open PySem PySem.Spec PyProof.Rows

/-! ### an instance, its attributes a map -/
structure ObjM (h : Heap) (x dx C : Addr) (mA : Str → Option Value) : Prop where
  obj : h.get? x = some (PySem.W.instObj C dx)
  ns : h.Ns1 dx mA
  ne : dx ≠ x

theorem lookIn_ns {h : Heap} {dx : Addr} {mA : Str → Option Value} (n : h.Ns1 dx mA) : ∃ od, h.get? dx = some od ∧ ∀ name, PySem.W.lookIn name od = some (mA name) := by
  obtain ⟨o, es, ep, ho, hd, hk, _, hm⟩ := n
  refine ⟨o, ho, fun name => ?_⟩
  have e := hm name
  unfold nsFind findBy at e
  rw [← Array.find?_toList] at e
  unfold PySem.W.lookIn
  rw [hd]
  dsimp only
  split
  · rename_i y q
    rw [q] at e
    exact congrArg some e
  · rename_i q
    rw [q] at e
    have a : es.toList.any (·.refKey) = false := by
      rw [List.any_eq_false]
      intro y hy
      obtain ⟨z, t, hkey⟩ := hk y (Array.mem_toList_iff.mp hy)
      simp [DictEntry.refKey, hkey]
    have a' : ¬ es.toList.any (·.refKey) = true := by rw [a]; exact Bool.false_ne_true
    rw [if_neg a']
    exact congrArg some e

theorem ObjM.look {h : Heap} {x dx C : Addr} {mA : Str → Option Value} (I : ObjM h x dx C mA) : ∃ od, PySem.W.InstAt h x (PySem.W.instObj C dx) C (some od) ∧ ∀ name, PySem.W.lookIn name od = some (mA name) :=
  let ⟨od, ho, hl⟩ := lookIn_ns I.ns
  ⟨od, ⟨I.obj, rfl, rfl, ho⟩, hl⟩

section
variable {prog : Program} {w : World} {A : Around} {E : Value → Shared → Prop} {s : Shared} {K : PySem.W.Frag} {x dx C f : Addr} {mA : Str → Option Value} {name : Str} {v : Value}

theorem get_map {expr : Bool} {Q : Value → Shared → Prop} (X : K.In s.heap) (I : ObjM s.heap x dx C mA) (hg : PySem.W.plainGet K C name = true) (hh : PySem.W.hasDictIn K C = true)
    (ha : PySem.W.findIn K (.ref C) name = some none) (hv : mA name = some v) (hv' : PySem.W.handedIn v = true) (h : Q v { s with toks := s.toks + 1 }) :
    wpAny (model prog w) A (getAttr (.ref x) name expr) Q E s := by
  obtain ⟨od, J, hl⟩ := I.look
  exact PySem.W.get_value X J (PySem.W.plainGet_of hg).1 (PySem.W.findObj_own hh ha rfl (by rw [hl, hv])) hv' h

theorem get_meth {pl : Sem Bool} {Q : Value × List Value → Shared → Prop} (X : K.In s.heap) (I : ObjM s.heap x dx C mA) (hg : PySem.W.plainGet K C name = true)
    (hf : PySem.W.findIn K (.ref C) name = some (some (.ref f))) (ht : PySem.W.isFn K (.ref f) = true) (hv : mA name = none) (h : Q (.ref f, [.ref x]) s) :
    wpAny (model prog w) A (getMethod (.ref x) name pl) Q E s := by
  obtain ⟨od, J, hl⟩ := I.look
  exact PySem.W.method_fn X J (PySem.W.plainGet_of hg).1 (PySem.W.plainGet_of hg).2 hf (beq_iff_eq.mp ht) (by show (PySem.W.lookIn name od).map (·.isSome) = some false; rw [hl, hv]; rfl) h

theorem set_map {ns : List Str} {Q : Unit → Shared → Prop} (X : K.In s.heap) (I : ObjM s.heap x dx C mA)
    (hs : PySem.W.findIn K (.ref C) "__setattr__" = some (some (.builtin "object.__setattr__"))) (hp : PySem.W.plainOver K C = true) (ht : PySem.W.takerIn K C name = some none) (hh : PySem.W.hasDictIn K C = true)
    (hw : PySem.Within mA ns) (hsz : ns.length ≤ sizeLine)
    (h : ∀ h', ObjM h' x dx C (fun y => if y = name then some v else mA y) → Heap.SameBut dx s.heap h' → Q () { s with heap := h', toks := s.toks + 2 }) :
    wpAny (model prog w) A (setAttr (.ref x) name v) Q E s := by
  obtain ⟨od, J, hl⟩ := I.look
  refine PySem.W.set_plain X J hs (PySem.W.osa_open (s := { s with toks := s.toks + 1 }) (r := none) X J hp ht fun b => ?_)
  obtain ⟨cd, hc, hd'⟩ := PySem.W.any_some hh
  have hx : s.heap.get? x = some ⟨.ref C, some dx, .plain, #[]⟩ := I.obj
  refine wpAny_bind (wpAny_pure (wpAny_bind (wpAny_bind (wpAny_loadPart hx (wpAny_bind (PySem.W.Looks.here (s := { s with toks := s.toks + 1 }) (PySem.W.looks_clsIn X hc) ?_))))))
  rw [hd']
  refine wpAny_pure (a := some dx) (wpAny_bind (wpAny_pure (wpAny_bind ?_)))
  refine wpAny_nsSet1 (s := { s with toks := s.toks + 1 }) I.ns fun h' hn2 hs2 => ?_
  obtain ⟨oD, esD, epD, hoD, hdD, hcD⟩ := hn2.count (PySem.Within.cons name v hw)
  refine wpAny_bind (wpAny_lookBehind hoD (by rw [hdD]; exact pastItsLine_dict (Nat.le_trans hcD (by rw [List.length_cons]; omega))) ?_)
  exact wpAny_pure (h _ ⟨(hs2.2 _ (Ne.symm I.ne)).trans I.obj, hn2, I.ne⟩ hs2)

/-- C(..): the dict at the heap's end, the instance behind it; then its __init__ -/
theorem make_map {R : Result → Shared → Prop} {vs : List Value} {kw : List (Str × Value)} (X : K.In s.heap) (hm : PySem.W.makesIn K C = true)
    (hi : PySem.W.findIn K (.ref C) "__init__" = some (some (.ref f))) (hf : PySem.W.typeIn K (.ref f) = some (.type "function"))
    (h : codeAny (model prog w) (A.under (.builtin "type.__call__" ⟨.ref C :: vs, kw⟩)) (.call (.ref f) ⟨.ref (s.heap.objs.size + 1) :: vs, kw⟩) (PySem.W.InitBack (s.heap.objs.size + 1) R)
      { s with heap := (s.heap.push PySem.W.emptyDict).push (PySem.W.instObj C s.heap.objs.size) }) :
    codeAny (model prog w) A (.call (.ref C) ⟨vs, kw⟩) R s := by
  obtain ⟨hh, g, d, t, os⟩ := s
  exact PySem.W.make_core (PySem.W.makes_of X hm) (PySem.W.looks_findIn X hi) (fun self => PySem.W.bind_fn X self hf) (.inl rfl) h
end

/-! ### the attributes as a list of pairs -/
def putF (f : Str) (v : V) : List (Str × V) → List (Str × V)
  | [] => [(f, v)]
  | (g, x) :: r => if g = f then (g, v) :: r else (g, x) :: putF f v r
theorem lookup_putF (f g : Str) (v : V) : ∀ fs : List (Str × V), (putF f v fs).lookup g = if g = f then some v else fs.lookup g
  | [] => by
    show List.lookup g [(f, v)] = _
    by_cases h : g = f
    · have hb : (g == f) = true := beq_iff_eq.mpr h
      simp only [List.lookup, hb, if_pos h]
    · have hb : (g == f) = false := beq_eq_false_iff_ne.mpr h
      simp only [List.lookup, hb, if_neg h]
  | (k, x) :: r => by
    have ih := lookup_putF f g v r
    rw [show putF f v ((k, x) :: r) = (if k = f then (k, v) :: r else (k, x) :: putF f v r) from rfl]
    by_cases hk : k = f
    · rw [if_pos hk]
      by_cases h : g = k
      · have hb : (g == k) = true := beq_iff_eq.mpr h
        simp only [List.lookup, hb, if_pos (h.trans hk)]
      · have hb : (g == k) = false := beq_eq_false_iff_ne.mpr h
        simp only [List.lookup, hb, if_neg (fun e : g = f => h (e.trans hk.symm))]
    · rw [if_neg hk]
      by_cases h : g = k
      · have hb : (g == k) = true := beq_iff_eq.mpr h
        simp only [List.lookup, hb, if_neg (fun e : g = f => hk (h.symm.trans e))]
      · have hb : (g == k) = false := beq_eq_false_iff_ne.mpr h
        simp only [List.lookup, hb]
        exact ih
theorem keys_putF (f : Str) (v : V) : ∀ fs : List (Str × V), f ∈ (putF f v fs).map (·.1) ∧ ∀ g, g ∈ fs.map (·.1) → g ∈ (putF f v fs).map (·.1)
  | [] => ⟨by simp [putF], fun g h => by simp at h⟩
  | (k, x) :: r => by
    obtain ⟨i1, i2⟩ := keys_putF f v r
    rw [show putF f v ((k, x) :: r) = (if k = f then (k, v) :: r else (k, x) :: putF f v r) from rfl]
    by_cases hk : k = f
    · rw [if_pos hk]
      subst hk
      exact ⟨by simp, fun g h => by simpa using h⟩
    · rw [if_neg hk]
      refine ⟨?_, fun g h => ?_⟩
      · rw [List.map_cons]
        exact List.mem_cons_of_mem _ i1
      · rw [List.map_cons] at h ⊢
        rcases List.mem_cons.mp h with e | e
        · exact List.mem_cons.mpr (.inl e)
        · exact List.mem_cons_of_mem _ (i2 g e)
theorem length_putF (f : Str) (v : V) : ∀ fs : List (Str × V), (putF f v fs).length ≤ fs.length + 1
  | [] => by simp [putF]
  | (k, x) :: r => by
    have ih := length_putF f v r
    rw [show putF f v ((k, x) :: r) = (if k = f then (k, v) :: r else (k, x) :: putF f v r) from rfl]
    by_cases hk : k = f
    · rw [if_pos hk, List.length_cons, List.length_cons]; omega
    · rw [if_neg hk, List.length_cons, List.length_cons]; omega

theorem RelO.some_of {v : V} {o : Option Value} (r : RelO (some v) o) : ∃ u, o = some u ∧ RelV v u := by
  cases o with
  | none => exact (show False from r).elim
  | some u => exact ⟨u, rfl, r⟩
theorem RelO.none_of {o : Option Value} (r : RelO none o) : o = none := by
  cases o with
  | none => rfl
  | some u => exact (show False from r).elim
theorem handed_of {v : V} {u : Value} (r : RelV v u) : PySem.W.handedIn u = true := by
  cases v with
  | non => cases (show u = Value.none from r); rfl
  | bl b => cases (show u = Value.bool b from r); rfl
  | int i => obtain ⟨t, e⟩ := (show ∃ t, u = Value.int i t from r); cases e; rfl
  | str x => obtain ⟨t, e⟩ := (show ∃ t, u = Value.str x t from r); cases e; rfl
  | byt b => obtain ⟨t, e⟩ := (show ∃ t, u = Value.bytes b t from r); cases e; rfl
  | flt b => obtain ⟨t, e⟩ := (show ∃ t, u = Value.float b t from r); cases e; rfl
  | ref a => cases (show u = Value.ref a from r); rfl
  | ty n => cases (show u = Value.type n from r); rfl

section
variable {P : Program} {w : World} {H H' : Hp} {h h' : Heap} {a C dx : Addr} {fs fs' : List (Str × V)}
theorem ins_get (hok : HOk P w H h) (e : H a = some (.ins C dx fs)) : ∃ mA, ObjM h a dx C mA ∧ (∀ f, RelO (fs.lookup f) (mA f)) ∧ PySem.Within mA (fs.map (·.1)) ∧ fs.length ≤ 1000 ∧ H dx = some (.own a) := by
  obtain ⟨d, z, ne, ob, mA, n, r, q⟩ := (show ObjOk P w H h a (.ins C dx fs) from hok a _ e)
  exact ⟨mA, ⟨ob, n, ne⟩, r, q, z, d⟩
end

/-! ### what of the text a class must have -/
structure Cls (K : PySem.W.Frag) (C : Addr) : Prop where
  pg : PySem.W.plainGet K C Str.empty = true
  hd : PySem.W.hasDictIn K C = true
  po : PySem.W.plainOver K C = true
  sa : PySem.W.findIn K (.ref C) "__setattr__" = some (some (.builtin "object.__setattr__"))
theorem Cls.get {K : PySem.W.Frag} {C : Addr} (c : Cls K C) (f : Str) : PySem.W.plainGet K C f = true := c.pg
/-- no class of it has the name -/
def NoAttr (K : PySem.W.Frag) (C : Addr) (f : Str) : Prop := PySem.W.findIn K (.ref C) f = some none
theorem NoAttr.taker {K : PySem.W.Frag} {C : Addr} {f : Str} (n : NoAttr K C f) : PySem.W.takerIn K C f = some none := by
  unfold PySem.W.takerIn
  rw [show PySem.W.findIn K (.ref C) f = some none from n]
  rfl
/-- a constant of the class -/
structure Con (K : PySem.W.Frag) (C : Addr) (f : Str) (v : V) (u : Value) : Prop where
  at_ : PySem.W.findIn K (.ref C) f = some (some u)
  rel : RelV v u
  get : PySem.W.specialIn K u "__get__" = some none
  cp : PySem.W.copiedNames.contains f = false
/-- a method: a plain def of the class or of one above it -/
structure Meth (K : PySem.W.Frag) (C : Addr) (m : Str) (f : Addr) : Prop where
  at_ : PySem.W.findIn K (.ref C) m = some (some (.ref f))
  fn : PySem.W.isFn K (.ref f) = true
  kp : PySem.W.keepIn K (.ref f) = true

section
variable {X : Cx} {pins : List (Addr × Obj)} {σ : St} {H : Hp} {s : Shared} {a C dx : Addr} {fs : List (Str × V)} {f : Str} {v : V} {A : Around} {E : Value → Shared → Prop}

theorem getattr_ok {b : Bool} {Q : Value → Shared → Prop} (I : Inv X pins σ H s) (e : H a = some (.ins C dx fs)) (c : Cls X.K C) (n : NoAttr X.K C f) (l : fs.lookup f = some v)
    (h : ∀ u s', Inv X pins σ H s' → RelV v u → Q u s') : wpAny (model X.prog X.w) A (getAttr (.ref a) f b) Q E s := by
  obtain ⟨mA, O, r, _, _, _⟩ := ins_get I.hok e
  obtain ⟨u, hu, ru⟩ := RelO.some_of (v := v) (o := mA f) (by rw [← l]; exact r f)
  exact get_map I.kIn O (c.get f) c.hd n hu (handed_of ru) (h u _ (I.tok _) ru)

theorem getmeth_ok {m : Str} {g : Addr} {pl : Sem Bool} {Q : Value × List Value → Shared → Prop} (I : Inv X pins σ H s) (e : H a = some (.ins C dx fs)) (c : Cls X.K C) (k : Meth X.K C m g) (l : fs.lookup m = none)
    (h : Q (.ref g, [.ref a]) s) : wpAny (model X.prog X.w) A (getMethod (.ref a) m pl) Q E s := by
  obtain ⟨mA, O, r, _, _, _⟩ := ins_get I.hok e
  have hn : mA m = none := RelO.none_of (by rw [← l]; exact r m)
  exact get_meth I.kIn O (c.get m) k.at_ k.fn hn h

theorem setattr_ok {y : V} {u : Value} {Q : Unit → Shared → Prop} (I : Inv X pins σ H s) (e : H a = some (.ins C dx fs)) (c : Cls X.K C) (n : NoAttr X.K C f) (hl : fs.length < 1000) (ry : RelV y u)
    (h : ∀ s', Inv X pins σ (upd H a (.ins C dx (putF f y fs))) s' → Q () s') : wpAny (model X.prog X.w) A (setAttr (.ref a) f u) Q E s := by
  obtain ⟨mA, O, r, wi, _, ho⟩ := ins_get I.hok e
  have hz : (fs.map (·.1)).length ≤ sizeLine := by rw [List.length_map, sizeLine_eq]; omega
  refine set_map I.kIn O c.sa c.po n.taker c.hd wi hz fun h' O' sb => h _ ?_
  have hd : ∃ o, h'.get? dx = some o := let ⟨o, _, _, e', _⟩ := O'.ns; ⟨o, e'⟩
  refine I.write (x := a) (e := dx) (by rw [e]; exact True.intro) (.inr ho) (fun b q hb z => (sb.2 b hb).trans z) hd ?_
  refine ⟨by rw [upd_ne O.ne]; exact ho, ?_, O.ne, O'.obj, _, O'.ns, fun g => ?_, fun g hg => ?_⟩
  · have := length_putF f y fs; omega
  · show RelO ((putF f y fs).lookup g) (if g = f then some u else mA g)
    rw [lookup_putF]
    by_cases q : g = f
    · rw [if_pos q, if_pos q]; exact ry
    · rw [if_neg q, if_neg q]; exact r g
  · by_cases q : g = f
    · rw [q]; exact (keys_putF f y fs).1
    · refine (keys_putF f y fs).2 g (wi g fun z => hg ?_)
      show (if g = f then some u else mA g) = none
      rw [if_neg q]; exact z

/-- a new instance, tracked, without attributes -/
theorem Inv.made (I : Inv X pins σ H s) : Inv X pins σ (upd (upd H s.heap.objs.size (.own (s.heap.objs.size + 1))) (s.heap.objs.size + 1) (.ins C s.heap.objs.size []))
    { s with heap := (s.heap.push PySem.W.emptyDict).push (PySem.W.instObj C s.heap.objs.size) } := by
  have e1 : (s.heap.push PySem.W.emptyDict).get? s.heap.objs.size = some PySem.W.emptyDict := Heap.get?_push_size s.heap rfl
  have e2 : ((s.heap.push PySem.W.emptyDict).push (PySem.W.instObj C s.heap.objs.size)).get? (s.heap.objs.size + 1) = some (PySem.W.instObj C s.heap.objs.size) := by
    have := Heap.get?_push_size (s.heap.push PySem.W.emptyDict) (o := PySem.W.instObj C s.heap.objs.size) rfl
    rwa [Heap.size_push] at this
  have e3 : (s.heap.push PySem.W.emptyDict).Ns s.heap.objs.size (fun _ => none) := ⟨PySem.W.emptyDict, #[], _, e1, rfl, (fun e he => absurd he (by simp)), fun _ => rfl⟩
  have I1 := I.laid (a := s.heap.objs.size) (o := .own (s.heap.objs.size + 1)) (h' := s.heap.push PySem.W.emptyDict) (t' := s.toks) (fun b u q => Heap.get?_push_of_some _ q) (Nat.le_refl _) ⟨_, e1⟩
  refine I1.laid (a := s.heap.objs.size + 1) (o := .ins C s.heap.objs.size []) (t' := s.toks) (fun b u q => Heap.get?_push_of_some _ q) (Nat.le_of_eq (Heap.size_push _ _)) ?_
  have ne : s.heap.objs.size ≠ s.heap.objs.size + 1 := Nat.ne_of_lt (Nat.lt_succ_self _)
  refine ⟨by rw [upd_ne ne, upd_same], Nat.zero_le _, ne, e2, fun _ => none, (Heap.Ns1.of_empty e3).at fun o q => Heap.get?_push_of_some _ q, fun _ => True.intro, fun y hy => absurd rfl hy⟩

/-- e.f where nothing but the object is asked: through attributeBase (super) and the last hold -/
theorem attr_of {prog : Program} {w : World} {env : Env} {e : Expr} {f : Str} {pos : Pos} {s : Shared} {Q : Value → Shared → Prop} (hb : attributeBase e f env (eval e env) = eval e env)
    (h : wpAny (model prog w) A (eval e env) (fun o s₁ => wpAny (model prog w) A (getAttr o f true) Q E s₁) E s) : wpAny (model prog w) A (eval (.Attribute e f pos) env) Q E s :=
  Attribute_any_ h (by rw [arm_eval_Attribute, hb])
end

/-! ### readings and rules -/
/-- e.f, an attribute of the instance -/
def tFld (K : PySem.W.Frag) (ta : TE) (f : Str) : TE := fun σ H Q => ta σ H fun x H1 => ∃ a C dx fs v, x = .ref a ∧ H1 a = some (.ins C dx fs) ∧ Cls K C ∧ NoAttr K C f ∧ fs.lookup f = some v ∧ Q v H1
/-- e.f, a constant of the class -/
def tCon (K : PySem.W.Frag) (ta : TE) (f : Str) : TE := fun σ H Q => ta σ H fun x H1 => ∃ a C dx fs v u, x = .ref a ∧ H1 a = some (.ins C dx fs) ∧ Cls K C ∧ Con K C f v u ∧ fs.lookup f = none ∧ Q v H1
/-- e.f = value -/
def sFld (K : PySem.W.Frag) (ta tv : TE) (f : Str) : TS := fun D σ H => tv σ H fun y H1 => ta σ H1 fun x H2 => ∃ a C dx fs, x = .ref a ∧ H2 a = some (.ins C dx fs) ∧ Cls K C ∧ NoAttr K C f ∧ fs.length < 1000 ∧
  D.nx σ (upd H2 a (.ins C dx (putF f y fs)))
/-- an augmented operator on two values -/
def InOp (X : Cx) (op : Operator) (rd : V → V → Hp → VK → Prop) : Prop :=
  ∀ (pins : List (Addr × Obj)) (s : Shared) (σ : St) (H : Hp) (x y : V) (u v : Value) (Q : VK), Inv X pins σ H s → RelV x u → RelV y v → rd x y H Q → wpAny (model X.prog X.w) X.A (inplaceOp op u v) (EP X pins σ Q) X.xe s
/-- e.f op= value -/
def sFldAug (K : PySem.W.Frag) (ta tv : TE) (rd : V → V → Hp → VK → Prop) (f : Str) : TS := fun D σ H => ta σ H fun x H1 => ∃ a C dx fs v, x = .ref a ∧ H1 a = some (.ins C dx fs) ∧ Cls K C ∧ NoAttr K C f ∧ fs.lookup f = some v ∧
  tv σ H1 fun y H2 => rd v y H2 fun z H3 => ∃ dx' fs', H3 a = some (.ins C dx' fs') ∧ fs'.length < 1000 ∧ D.nx σ (upd H3 a (.ins C dx' (putF f z fs')))

section
variable {X : Cx} {o e value : Expr} {f : Str} {pos pos' tpos : Pos} {ta tv : TE}
theorem pe_fld (he : PE X e ta) (hb : attributeBase e f X.env (eval e X.env) = eval e X.env) : PE X (.Attribute e f pos) (tFld X.K ta f) := by
  intro pins s σ H Q I h
  refine attr_of hb (thn (he pins s σ H _ I h) fun u s1 ⟨x, H1, I1, rx, a, C, dx, fs, v, ex, ea, c, n, l, q⟩ => ?_)
  subst ex
  obtain rfl : u = Value.ref a := rx
  exact getattr_ok I1 ea c n l fun u' s2 I2 ru => ⟨v, H1, I2, ru, q⟩
theorem ps_fld (ha : PE X o ta) (hv : PE X value tv) (hs : swapsWith value (some (.Attribute o f pos')) pos.line X.env = pure false) : PS X (.Assign [.Attribute o f pos'] value pos) (sFld X.K ta tv f) := by
  intro pins s σ H D I h
  refine plainObj_wpAny_Assign_Attribute (thn (hv pins s σ H _ I h) fun u s1 ⟨y, H1, I1, ry, q⟩ => thn (ha pins s1 σ H1 _ I1 q) fun ov s2 ⟨x, H2, I2, rx, a, C, dx, fs, ex, ea, c, n, l, q2⟩ => ?_) hs
  subst ex
  obtain rfl : ov = Value.ref a := rx
  exact setattr_ok I2 ea c n l ry fun s3 I3 => ⟨σ, _, I3, q2⟩
def rAdd : V → V → Hp → VK → Prop := fun x y H Q => ∃ i j, x = .int i ∧ y = .int j ∧ Q (.int (i + j)) H
def rSub : V → V → Hp → VK → Prop := fun x y H Q => ∃ i j, x = .int i ∧ y = .int j ∧ Q (.int (i - j)) H
/-- what is between an instance and its method: the tree of a method call -/
theorem methcall_of {pl : Sem Bool} {m : Str} {apos : Pos} {args : List Expr} {pins : List (Addr × Obj)} {s : Shared} {σ : St} {H : Hp} {Q : Value → Shared → Prop} {te : TE} (he : PE X e te) (I : Inv X pins σ H s)
    (h : te σ H fun x H1 => ∃ a C dx fs g, x = .ref a ∧ H1 a = some (.ins C dx fs) ∧ Cls X.K C ∧ Meth X.K C m g ∧ fs.lookup m = none ∧
      ∀ s1, Inv X pins σ H1 s1 → wpAny (model X.prog X.w) X.A (callWith pos (.ref g) [.ref a] (backTo pos (starEach args X.env)) (backToKw pos (keywordEach [] X.env))) Q X.xe s1)
    (ht : eval (.Call (.Attribute e m apos) args [] pos) X.env = (do
      let ov ← eval e X.env
      standAt apos.atName
      let (f, first) ← holding [ov] (getMethod ov m pl)
      callWith pos f first (backTo pos (starEach args X.env)) (backToKw pos (keywordEach [] X.env)))) :
    wpAny (model X.prog X.w) X.A (eval (.Call (.Attribute e m apos) args [] pos) X.env) Q X.xe s := by
  refine PySem.W.methodCall_KW (pl := pl) (thn (he pins s σ H _ I h) fun u s1 ⟨x, H1, I1, rx, a, C, dx, fs, g, ex, ea, c, k, l, q⟩ => ?_) ht
  subst ex
  obtain rfl : u = Value.ref a := rx
  exact getmeth_ok I1 ea c k l (q s1 I1)
end

/-! ### isinstance -/
section
variable {X : Cx} {pins : List (Addr × Obj)} {σ : St} {H : Hp} {s : Shared} {A : Around} {E : Value → Shared → Prop} {Q : Value → Shared → Prop} {c : Value} {b : Bool}
/-- the type of a value, as the fragment's deciders take it; for an instance its class -/
inductive TyOf (K : PySem.W.Frag) (H : Hp) : V → Value → Prop where
  | non : TyOf K H .non (.type "NoneType")
  | bl (x : Bool) : TyOf K H (.bl x) (.type "bool")
  | int (i : Int) : TyOf K H (.int i) (.type "int")
  | str (x : Str) : TyOf K H (.str x) (.type "str")
  | flt (x : UInt64) : TyOf K H (.flt x) (.type "float")
  | lst {a : Addr} {xs : List V} (e : H a = some (.lst xs)) : TyOf K H (.ref a) (.type "list")
  | frz {a : Addr} {o : Obj} {xs : List V} (e : H a = some (.frz o (.lst xs))) : TyOf K H (.ref a) (.type "list")
  | tup {a : Addr} {xs : List V} (e : H a = some (.tup xs)) : TyOf K H (.ref a) (.type "tuple")
  | dK {a : Addr} {kvs : List (Key × V)} (e : H a = some (.dK kvs)) : TyOf K H (.ref a) (.type "dict")
  | dT {a : Addr} {kvs : List (List Key × V)} (e : H a = some (.dT kvs)) : TyOf K H (.ref a) (.type "dict")
  | ins {a C dx : Addr} {fs : List (Str × V)} (e : H a = some (.ins C dx fs)) (cl : Cls K C) (ha : PySem.W.findIn K (.ref C) "__class__" = some (some (.builtin "object.__class__")))
      (hn : PySem.W.specialIn K (.builtin "object.__class__") "__get__" = some (some (.builtin "getset_descriptor.__get__"))) (htk : PySem.W.takesIn K (.builtin "object.__class__") = some true)
      (hm : PySem.W.mroIn K C (.type "object") = some true) : TyOf K H (.ref a) (.ref C)
end
end L2

namespace L2
open PySem PySem.Spec PyProof.Rows

/-! ### room -/
structure Room (k : Nat) (A : Around) : Prop where
  hd : A.handled = none
  dp : A.depth + 3 * k + 5 < recursionLimit
  un : A.units + 16 * k + 200 < cLine
theorem Room.mono {j k : Nat} {A : Around} (r : Room k A) (h : j ≤ k) : Room j A := ⟨r.hd, by have := r.dp; omega, by have := r.un; omega⟩
theorem Room.deeper {k : Nat} {A : Around} (r : Room (k + 1) A) (env : Env) : Room k (A.deeper env) :=
  ⟨r.hd, by have := r.dp; show A.depth + 1 + 3 * k + 5 < _; omega, by have := r.un; show A.units + 3 + 16 * k + 200 < _; omega⟩
theorem make_depth {A : Around} {C : Addr} {us : List Value} {kw : List (Str × Value)} : (A.under (.builtin "type.__call__" ⟨.ref C :: us, kw⟩)).depth = A.depth + 1 := by
  first | rfl | simp [Around.under, Code.weight, Code.isCreation, Code.isGuard, Code.isCaller, Code.frames, Code.isFrame, guardIds]
theorem make_units {A : Around} {C : Addr} {us : List Value} {kw : List (Str × Value)} : (A.under (.builtin "type.__call__" ⟨.ref C :: us, kw⟩)).units = A.units + 1 := by
  first | rfl | simp [Around.under, Code.cUnits, Code.frames, Code.isFrame]
theorem Room.make {k : Nat} {A : Around} (r : Room (k + 1) A) (C : Addr) (us : List Value) (kw : List (Str × Value)) : Room k (A.under (.builtin "type.__call__" ⟨.ref C :: us, kw⟩)) :=
  ⟨r.hd, by have := r.dp; rw [make_depth]; omega, by have := r.un; rw [make_units]; omega⟩
theorem Room.depth {k : Nat} {A : Around} (r : Room k A) : A.depth < recursionLimit := by have := r.dp; omega
theorem Room.units {k : Nat} {A : Around} (r : Room k A) : A.units + 64 < cLine := by have := r.un; omega
/-! ### argument lists and displays -/
def tNil : TA := fun _ H Q => Q [] H
def tCons (ta : TE) (tr : TA) : TA := fun σ H Q => ta σ H fun x H1 => tr σ H1 fun xs H2 => Q (x :: xs) H2
section
variable {X : Cx} {e : Expr} {es : List Expr} {te : TE} {t : TA} {pos : Pos}
theorem pa_nil : PA X [] tNil := fun _ _ _ _ H Q I h => Calls.spliced_nil ⟨[], H, I, .nil, h⟩
theorem pa_cons (ha : PE X e te) (hr : PA X es t) (hs : starEach (e :: es) X.env = (false, eval e X.env) :: starEach es X.env := by rfl) : PA X (e :: es) (tCons te t) := by
  intro pos pins s σ H Q I h
  rw [hs]
  show wpAny _ _ (spliced ((false, eval e X.env) :: backTo pos (starEach es X.env))) _ _ s
  refine Calls.spliced_cons (thn (ha pins s σ H _ I h) fun u s1 ⟨x, H1, I1, r1, q1⟩ => ?_)
  exact thn (hr pos pins s1 σ H1 _ I1 q1) fun us s2 ⟨xs, H2, I2, r2, q2⟩ => ⟨x :: xs, H2, I2, .cons r1 r2, q2⟩

/-- a tuple, a list of written items -/
def tTup (t : TA) : TE := fun σ H Q => t σ H fun xs H1 => xs.length ≤ sizeLine ∧ ∀ p, H1 p = none → Q (.ref p) (upd H1 p (.tup xs))
def tLst (t : TA) : TE := fun σ H Q => t σ H fun xs H1 => xs.length ≤ sizeLine ∧ ∀ p, H1 p = none → Q (.ref p) (upd H1 p (.lst xs))
theorem pe_tup {x1} (h : PA X es t) : PE X (.Tuple es x1 pos) (tTup t) := by
  intro pins s σ H Q I hq
  refine wpAny_Tuple_spliced (thn (h pos pins s σ H _ I hq) fun us s1 ⟨xs, H1, I1, r, z, q⟩ => ⟨by rw [← r.length]; exact z, ?_⟩)
  have hf : H1 s1.heap.objs.size = none := I1.hok.fresh (Nat.le_refl _)
  refine ⟨.ref s1.heap.objs.size, upd H1 s1.heap.objs.size (.tup xs), I1.laid (t' := s1.toks) (fun b u e => Heap.get?_push_of_some _ e) (Nat.le_refl _) ?_, rfl, q _ hf⟩
  exact ⟨z, us, r, ⟨_, Heap.get?_push_size _ rfl, rfl, _, rfl⟩⟩
theorem pe_lst (h : PA X es t) : PE X (.List es pos) (tLst t) := by
  intro pins s σ H Q I hq
  refine wpAny_List_spliced (thn (h pos pins s σ H _ I hq) fun us s1 ⟨xs, H1, I1, r, z, q⟩ => ⟨by rw [← r.length]; exact z, ?_⟩)
  have hf : H1 s1.heap.objs.size = none := I1.hok.fresh (Nat.le_refl _)
  refine ⟨.ref s1.heap.objs.size, upd H1 s1.heap.objs.size (.lst xs), I1.laid (t' := s1.toks) (fun b u e => Heap.get?_push_of_some _ e) (Nat.le_refl _) ?_, rfl, q _ hf⟩
  exact ⟨z, us, 0, r, Heap.get?_push_size _ rfl⟩
end

/-! ### what a def promises -/
/-- a def's promise: the bound arguments in the parameters' order, the heap, the wanted end, the wanted exception -/
abbrev Sp := List V → Hp → VK → XK → Prop
/-- how an exception lies behind a call (file 08 gives it): the callers' frames, abstract heap and state ahead of the call, the wish, the exception, the state -/
abbrev CXT := List Env → Hp → Shared → XK → Value → Shared → Prop

/-- the state at a call -/
structure Env0 (P : Program) (w : World) (K : PySem.W.Frag) (mg : Str → Option Value) (base : Heap) (A : Around) (outer : List Env) (s : Shared) (H : Hp) : Prop where
  frames : A.frames = some outer
  mod : Mod K mg base
  bs : ∀ b o, base.get? b = some o → s.heap.get? b = some o ∧ H b = none
  bsz : base.objs.size ≤ s.heap.objs.size
  funs : s.heap.FunFrames base outer
  frf : ∀ b ∈ frs outer, H b = none
  hok : HOk P w H s.heap
  bare : AllBare s.gens
/-- a call's end -/
def CE (outer : List Env) (P : Program) (w : World) (H : Hp) (s : Shared) (Q : VK) (u : Value) (s' : Shared) : Prop :=
  ∃ v H', s'.os = s.os ∧ AllBare s'.gens ∧ Un (frs outer) [] H H' s.heap s'.heap ∧ HOk P w H' s'.heap ∧ RelV v u ∧ Q v H'
def CR (CX : CXT) (outer : List Env) (P : Program) (w : World) (H : Hp) (s : Shared) (Q : VK) (E : XK) (r : Result) (s' : Shared) : Prop :=
  match r with
  | .ok (.ret u) => CE outer P w H s Q u s'
  | .ok _ => False
  | .error e => CX outer H s E e s'
structure FnOk (P : Program) (w : World) (K : PySem.W.Frag) (mg : Str → Option Value) (base : Heap) (CX : CXT) (k : Nat) (f : Addr) (fd : FuncData) (ps : List Str) (sp : Sp) : Prop where
  len : ∀ vs H Q E, sp vs H Q E → vs.length = ps.length
  run : ∀ (A : Around) (outer : List Env) (s : Shared) (H : Hp) (args : Args) (us : List Value) (vs : List V) (Q : VK) (E : XK), Room k A → Env0 P w K mg base A outer s H → BindsTo s fd args (ps.zip us) → Vals vs us → sp vs H Q E →
    codeAny (model P w) A (.call (.ref f) args) (CR CX outer P w H s Q E) s
theorem Env0.make {P : Program} {w : World} {K : PySem.W.Frag} {mg : Str → Option Value} {base : Heap} {A : Around} {outer : List Env} {s : Shared} {H : Hp} (e : Env0 P w K mg base A outer s H) (C : Addr) (us : List Value) (kw : List (Str × Value)) :
    Env0 P w K mg base (A.under (.builtin "type.__call__" ⟨.ref C :: us, kw⟩)) outer s H := ⟨by first | exact e.frames | (simpa [Around.under, Code.envs, Code.isFrame, pushEnvs] using e.frames), e.mod, e.bs, e.bsz, e.funs, e.frf, e.hok, e.bare⟩
section
variable {X : Cx} {pins : List (Addr × Obj)} {σ : St} {H : Hp} {s s' : Shared}
/-- from a body: what a callee wants -/
theorem Inv.env0 (I : Inv X pins σ H s) : Env0 X.prog X.w X.K X.mg X.base X.A X.stack s H :=
  ⟨I.ok.frames, I.ok.mod, I.bs, Nat.le_trans I.ok.bsz I.sz, I.stack, I.stkFree, I.hok, I.bare⟩
/-- behind a call -/
theorem Inv.after {Q : VK} {u : Value} (I : Inv X pins σ H s) (h : CE X.stack X.prog X.w H s Q u s') : EP X pins σ Q u s' := by
  obtain ⟨v, H', os, bare, un, hok, r, q⟩ := h
  obtain ⟨hh, g, d, t, os'⟩ := s'
  obtain rfl : os' = s.os := os
  exact ⟨v, H', I.call (h' := hh) (g' := g) (d' := d) (t' := t) (ch := []) un hok bare (fun b z => absurd z (by simp)), r, q⟩
end

/-! ### calls -/
/-- f(..): the written arguments, then the defaults dvs; E: what is wanted of an exception -/
def tCall (sp : Sp) (dvs : List V) (E : XK) (t : TA) : TE := fun σ H Q => t σ H fun vs H1 => sp (vs ++ dvs) H1 Q E
/-- o.m(..) of an instance of the class at C -/
def tMeth (C : Addr) (m : Str) (sp : Sp) (dvs : List V) (E : XK) (ta : TE) (t : TA) : TE := fun σ H Q => ta σ H fun x H1 => ∃ a dx fs, x = .ref a ∧ H1 a = some (.ins C dx fs) ∧ fs.lookup m = none ∧
  t σ H1 fun vs H2 => sp (x :: (vs ++ dvs)) H2 Q E
/-- C(..): a new instance and its dict, then __init__ -/
def tMake (C : Addr) (sp : Sp) (dvs : List V) (E : XK) (t : TA) : TE := fun σ H Q => t σ H fun vs H1 => ∀ x dx, H1 x = none → H1 dx = none → dx ≠ x →
  sp (.ref x :: (vs ++ dvs)) (upd (upd H1 dx (.own x)) x (.ins C dx [])) (fun v H2 => v = .non ∧ Q (.ref x) H2) E

/-- how the parameters are bound: us the positional arguments, kw the keywords' values by name, ds the defaults that fill up -/
def Binds (K : PySem.W.Frag) (fd : FuncData) (ps : List Str) (ds : List Value) : Prop :=
  ∀ (s : Shared) (us : List Value), K.In s.heap → (us ++ ds).length = ps.length → BindsTo s fd ⟨us, []⟩ (ps.zip (us ++ ds))
/-- every parameter is given -/
theorem Binds.all {K : PySem.W.Frag} {fd : FuncData} {ps : List Str} (h : ∀ us : List Value, us.length = ps.length → bindArgs fd ⟨us, []⟩ = pure (ps.zip us)) : Binds K fd ps [] := fun s us _ hl => by
  rw [List.append_nil] at hl ⊢
  exact .of_eq (h us hl)

/-- an exception of a callee reaches what this body wants of exceptions -/
def Passes (CX : CXT) (X : Cx) (E : XK) : Prop := ∀ (pins : List (Addr × Obj)) (σ : St) (H : Hp) (s : Shared) (e : Value) (s' : Shared), Inv X pins σ H s → CX X.stack H s E e s' → X.xe e s'

section
variable {X : Cx} {CX : CXT} {k : Nat} {f C : Addr} {fd : FuncData} {ps : List Str} {sp : Sp} {dvs : List V} {ds : List Value} {E : XK} {x m : Str} {p pos apos : Pos} {e o : Expr} {es : List Expr} {ta : TE} {t : TA}

/-- the callee runs -/
theorem run_fn {pins : List (Addr × Obj)} {σ : St} {H : Hp} {s : Shared} {Q : VK} {us : List Value} {vs : List V} (F : FnOk X.prog X.w X.K X.mg X.base CX k f fd ps sp) (hr : Room k X.A) (hb : Binds X.K fd ps ds) (hd : Vals dvs ds) (hx : Passes CX X E)
    (I : Inv X pins σ H s) (r : Vals vs us) (h : sp (vs ++ dvs) H Q E) : wpAny (model X.prog X.w) X.A (call (.ref f) us) (EP X pins σ Q) X.xe s := by
  have r2 : Vals (vs ++ dvs) (us ++ ds) := r.append hd
  have hl : (us ++ ds).length = ps.length := by rw [← r2.length]; exact F.len _ _ _ _ h
  refine wpAny_call (codeAny_mono (F.run X.A X.stack s H ⟨us, []⟩ (us ++ ds) (vs ++ dvs) Q E hr I.env0 (hb s us I.kIn hl) r2 h) fun r s' hq => ?_)
  cases r with
  | error e => exact hx pins σ H s e s' I hq
  | ok fl =>
    cases fl with
    | ret u => exact I.after hq
    | next => exact False.elim hq
    | brk => exact False.elim hq
    | cont => exact False.elim hq

theorem pe_call (F : FnOk X.prog X.w X.K X.mg X.base CX k f fd ps sp) (hr : Room k X.A) (hg : Gl X x) (hm : X.mg x = some (.ref f)) (hk : PySem.W.keepIn X.K (.ref f) = true) (hb : Binds X.K fd ps ds) (hd : Vals dvs ds) (hx : Passes CX X E)
    (ha : PA X (e :: es) t) (hdb : (x == ("__debug__" : Str)) = false := by decide) (he : starEach (e :: es) X.env = (false, eval e X.env) :: starEach es X.env := by rfl) (hpl : (backTo pos (starEach es X.env)).any (·.1) = false := by rfl) :
    PE X (.Call (.Name x p) (e :: es) [] pos) (tCall sp dvs E t) := by
  intro pins s σ H Q I h
  refine wpAny_Call_Name_kw (ld_glob I hg hm ?_ hdb)
  refine PySem.W.callWith_K (h₀ := X.base) I.ok.mod.kin hk (thn (ha pos pins s σ H _ I h) fun us s1 ⟨vs, H1, I1, r, q⟩ => ⟨I1.kIn, ?_⟩) he hpl
  exact run_fn F hr hb hd hx I1 r q
/-- o.m(e, ..) -/
theorem pe_meth {pl : Sem Bool} (he : PE X o ta) (c : Cls X.K C) (hm : Meth X.K C m f) (F : FnOk X.prog X.w X.K X.mg X.base CX k f fd ps sp) (hr : Room k X.A) (hb : Binds X.K fd ps ds) (hd : Vals dvs ds) (hx : Passes CX X E) (ha : PA X (e :: es) t)
    (hst : starEach (e :: es) X.env = (false, eval e X.env) :: starEach es X.env := by rfl) (hpl : (backTo pos (starEach es X.env)).any (·.1) = false := by rfl)
    (ht : eval (.Call (.Attribute o m apos) (e :: es) [] pos) X.env = (do
      let ov ← eval o X.env
      standAt apos.atName
      let (f, first) ← holding [ov] (getMethod ov m pl)
      callWith pos f first (backTo pos (starEach (e :: es) X.env)) (backToKw pos (keywordEach [] X.env))) := by rfl) :
    PE X (.Call (.Attribute o m apos) (e :: es) [] pos) (tMeth C m sp dvs E ta t) := by
  intro pins s σ H Q I h
  refine PySem.W.methodCall_KW (pl := pl) (thn (he pins s σ H _ I h) fun u s1 ⟨x, H1, I1, rx, a, dx, fs, ex, ea, l, q⟩ => ?_) ht
  subst ex
  obtain rfl : u = Value.ref a := rx
  refine getmeth_ok I1 ea c hm l ?_
  refine PySem.W.callWith_K (first := [.ref a]) (h₀ := X.base) I.ok.mod.kin hm.kp (thn (ha pos pins s1 σ H1 _ I1 q) fun us s2 ⟨vs, H2, I2, r, q2⟩ => ⟨I2.kIn, ?_⟩) hst hpl
  exact run_fn (us := .ref a :: us) (vs := .ref a :: vs) F hr hb hd hx I2 (.cons rfl r) q2
/-- what a class must have to be made -/
structure Mk (K : PySem.W.Frag) (C f : Addr) : Prop where
  makes : PySem.W.makesIn K C = true
  init : PySem.W.findIn K (.ref C) "__init__" = some (some (.ref f))
  fn : PySem.W.isFn K (.ref f) = true
  kp : PySem.W.keepIn K (.ref C) = true

theorem run_make {pins : List (Addr × Obj)} {σ : St} {H : Hp} {s : Shared} {Q : VK} {us : List Value} {vs : List V} (M : Mk X.K C f) (F : FnOk X.prog X.w X.K X.mg X.base CX k f fd ps sp) (hr : Room (k + 1) X.A) (hb : Binds X.K fd ps ds) (hd : Vals dvs ds)
    (hx : Passes CX X E) (I : Inv X pins σ H s) (r : Vals vs us)
    (h : ∀ x dx, H x = none → H dx = none → dx ≠ x → sp (.ref x :: (vs ++ dvs)) (upd (upd H dx (.own x)) x (.ins C dx [])) (fun v H2 => v = .non ∧ Q (.ref x) H2) E) :
    wpAny (model X.prog X.w) X.A (call (.ref C) us) (EP X pins σ Q) X.xe s := by
  have hq := h (s.heap.objs.size + 1) s.heap.objs.size (I.hok.fresh (Nat.le_succ _)) (I.hok.fresh (Nat.le_refl _)) (Nat.ne_of_lt (Nat.lt_succ_self _))
  have I2 := Inv.made (C := C) I
  have r2 : Vals (V.ref (s.heap.objs.size + 1) :: (vs ++ dvs)) (Value.ref (s.heap.objs.size + 1) :: (us ++ ds)) := .cons rfl (r.append hd)
  have hl : (Value.ref (s.heap.objs.size + 1) :: us ++ ds).length = ps.length := by
    have e := r2.length
    rw [F.len _ _ _ _ hq] at e
    exact e.symm
  refine wpAny_call (make_map (f := f) I.kIn M.makes M.init (beq_iff_eq.mp M.fn) (codeAny_mono (F.run _ X.stack _ _ ⟨Value.ref (s.heap.objs.size + 1) :: us, []⟩ (Value.ref (s.heap.objs.size + 1) :: (us ++ ds)) _ _ E (hr.make C us [])
    (I2.env0.make C us []) (hb _ (Value.ref (s.heap.objs.size + 1) :: us) I2.kIn hl) r2 hq) fun r s' hq' => ?_))
  cases r with
  | error e => exact hx pins σ _ _ e s' I2 hq'
  | ok fl =>
    cases fl with
    | ret u =>
      obtain ⟨v, H', I3, rv, ev, q3⟩ := I2.after hq'
      subst ev
      exact ⟨rv, ⟨V.ref (s.heap.objs.size + 1), H', I3, rfl, q3⟩⟩
    | next => exact False.elim hq'
    | brk => exact False.elim hq'
    | cont => exact False.elim hq'
theorem pe_make (M : Mk X.K C f) (F : FnOk X.prog X.w X.K X.mg X.base CX k f fd ps sp) (hr : Room (k + 1) X.A) (hg : Gl X x) (hm : X.mg x = some (.ref C)) (hb : Binds X.K fd ps ds) (hd : Vals dvs ds) (hx : Passes CX X E)
    (ha : PA X (e :: es) t) (hdb : (x == ("__debug__" : Str)) = false := by decide) (he : starEach (e :: es) X.env = (false, eval e X.env) :: starEach es X.env := by rfl) (hpl : (backTo pos (starEach es X.env)).any (·.1) = false := by rfl) :
    PE X (.Call (.Name x p) (e :: es) [] pos) (tMake C sp dvs E t) := by
  intro pins s σ H Q I h
  refine wpAny_Call_Name_kw (ld_glob I hg hm ?_ hdb)
  refine PySem.W.callWith_K (h₀ := X.base) I.ok.mod.kin M.kp (thn (ha pos pins s σ H _ I h) fun us s1 ⟨vs, H1, I1, r, q⟩ => ⟨I1.kIn, ?_⟩) he hpl
  exact run_make M F hr hb hd hx I1 r q
end

/-! ### keywords -/
/-- the values of the keywords, from the left -/
def PK (X : Cx) (kws : List Keyword) (t : TA) : Prop :=
  ∀ (pos : Pos) (pins : List (Addr × Obj)) (s : Shared) (σ : St) (H : Hp) (Q : List V → Hp → Prop), Inv X pins σ H s → t σ H Q → wpAny (model X.prog X.w) X.A (evalAll ((backToKw pos (keywordEach kws X.env)).map (·.2))) (AP X pins σ Q) X.xe s
section
variable {X : Cx} {CX : CXT} {k : Nat} {f C : Addr} {fd : FuncData} {ps ks : List Str} {sp : Sp} {E : XK} {x m : Str} {p pos apos kpos : Pos} {e o : Expr} {es : List Expr} {kws : List Keyword} {te ta : TE} {t tk : TA} {nm : Option Str}
/-- how a call with keywords binds: g puts the positional values us and the keywords' values ws (names ks) in the parameters' order, defaults among them -/
structure KBinds (K : PySem.W.Frag) (fd : FuncData) (ps ks : List Str) (g : List Value → List Value → List Value) (gV : List V → List V → List V) : Prop where
  to : ∀ (s : Shared) (us ws : List Value), K.In s.heap → (g us ws).length = ps.length → BindsTo s fd ⟨us, ks.zip ws⟩ (ps.zip (g us ws))
  rel : ∀ {vs : List V} {us : List Value} {zs : List V} {ws : List Value}, Vals vs us → Vals zs ws → Vals (gV vs zs) (g us ws)
def tCallK (sp : Sp) (gV : List V → List V → List V) (E : XK) (t tk : TA) : TE := fun σ H Q => t σ H fun vs H1 => tk σ H1 fun zs H2 => sp (gV vs zs) H2 Q E
variable {g : List Value → List Value → List Value} {gV : List V → List V → List V}
end

/-! ### a def's body keeps its promise -/
/-- names: the parameters first -/
structure FnScope (N P : List Str) (sc : Scope) : Prop where
  kind : sc.kind = .function
  co : sc.isCoroutine = false
  gen : sc.isGenerator = false
  nd : N.Nodup
  pre : N.take P.length = P
  par : ∀ x ∈ P, sc.names.lookup x = some .local ∨ sc.names.lookup x = some .cell
  nofree : ∀ y ∈ sc.names, y.2 ≠ .free

theorem bindL_out {kindOf : Str → Option NameKind} {x : Str} : ∀ {binds : List (Str × Value)} {m : Str → Option Value}, (∀ v, (x, v) ∉ binds) → bindL kindOf binds m x = m x
  | [], _, _ => rfl
  | (n, v) :: r, m, h => by
    unfold bindL
    rw [bindL_out fun w hw => h w (List.mem_cons_of_mem _ hw)]
    split
    · have : x ≠ n := by rintro rfl; exact h v List.mem_cons_self
      simp [this]
    · rfl
theorem bindC_out {kindOf : Str → Option NameKind} {x : Str} : ∀ {binds : List (Str × Value)} {m : Str → Option Value}, (∀ v, (x, v) ∉ binds) → bindC kindOf binds m x = m x
  | [], _, _ => rfl
  | (n, v) :: r, m, h => by
    unfold bindC
    rw [bindC_out fun w hw => h w (List.mem_cons_of_mem _ hw)]
    split
    · rfl
    · have : x ≠ n := by rintro rfl; exact h v List.mem_cons_self
      simp [this]
theorem bindL_get {kindOf : Str → Option NameKind} {x : Str} {v : Value} : ∀ {P : List Str} {vs : List Value} {i : Nat} {m : Str → Option Value}, P.Nodup → P[i]? = some x → vs[i]? = some v → kindOf x = some .local →
    bindL kindOf (P.zip vs) m x = some v
  | [], _, _, _, _, h, _, _ => by simp at h
  | _ :: _, [], _, _, _, _, h, _ => by simp at h
  | p :: P, w :: vs, 0, m, nd, h1, h2, hk => by
    simp at h1 h2; subst h1; subst h2
    show bindL kindOf ((p, w) :: P.zip vs) m p = _
    unfold bindL
    rw [bindL_out fun v hv => (List.nodup_cons.mp nd).1 (List.of_mem_zip hv).1, if_pos hk]
    simp
  | p :: P, w :: vs, i + 1, m, nd, h1, h2, hk => by
    show bindL kindOf ((p, w) :: P.zip vs) m x = _
    unfold bindL
    exact bindL_get (i := i) (List.nodup_cons.mp nd).2 (by simpa using h1) (by simpa using h2) hk
theorem bindC_get {kindOf : Str → Option NameKind} {x : Str} {v : Value} : ∀ {P : List Str} {vs : List Value} {i : Nat} {m : Str → Option Value}, P.Nodup → P[i]? = some x → vs[i]? = some v → kindOf x ≠ some .local →
    bindC kindOf (P.zip vs) m x = some v
  | [], _, _, _, _, h, _, _ => by simp at h
  | _ :: _, [], _, _, _, _, h, _ => by simp at h
  | p :: P, w :: vs, 0, m, nd, h1, h2, hk => by
    simp at h1 h2; subst h1; subst h2
    show bindC kindOf ((p, w) :: P.zip vs) m p = _
    unfold bindC
    rw [bindC_out fun v hv => (List.nodup_cons.mp nd).1 (List.of_mem_zip hv).1, if_neg hk]
    simp
  | p :: P, w :: vs, i + 1, m, nd, h1, h2, hk => by
    show bindC kindOf ((p, w) :: P.zip vs) m x = _
    unfold bindC
    exact bindC_get (i := i) (List.nodup_cons.mp nd).2 (by simpa using h1) (by simpa using h2) hk

/-- the names' values at the entry -/
def start (N : List Str) (vs : List V) : St := vs.map some ++ List.replicate (N.length - vs.length) none

/-- the context of a def's body, at its entry; an exception leaves the frame, then lies as CX says -/
def cxOf (CX : CXT) (P : Program) (w : World) (K : PySem.W.Frag) (mg : Str → Option Value) (base : Heap) (N : List Str) (qual : Str) (scope : Scope) (f : Addr) (cd : Value) (A : Around) (outer : List Env) (s : Shared) (H : Hp) (E : XK) : Cx where
  prog := P
  w := w
  K := K
  mg := mg
  base := base
  A := A.deeper (envOfC qual scope s.heap.objs.size f cd)
  N := N
  s_0 := s
  H_0 := H
  env := envOfC qual scope s.heap.objs.size f cd
  outer := outer
  stack := envOfC qual scope s.heap.objs.size f cd :: outer
  ex := []
  calm := true
  fn := fun _ => true
  pn := []
  xe := fun e s' => wpAny (model P w) (A.deeper (envOfC qual scope s.heap.objs.size f cd)) (leaving (envOfC qual scope s.heap.objs.size f cd) e) (fun _ s'' => CX outer H s E e s'') (fun e' s'' => CX outer H s E e' s'') s'

theorem cell_has {sc : Scope} {n : Nat} {x : Str} (h : sc.names.lookup x = some .cell) : ∃ c, (cellsFrom n sc.names []).lookup x = some c := by
  have q := PySem.W.cellsFrom_some sc.names n [] (.inl h)
  exact Option.isSome_iff_exists.mp q

theorem inv_start {CX : CXT} {P : Program} {w : World} {K : PySem.W.Frag} {mg : Str → Option Value} {base : Heap} {N ps : List Str} {qual : Str} {scope : Scope} {f : Addr} {cd : Value} {A : Around} {outer : List Env} {s s1 : Shared} {H : Hp} {E : XK} {us : List Value} {vs : List V}
    (S : FnScope N ps scope) (hd : A.handled = none) (e0 : Env0 P w K mg base A outer s H) (hl : vs.length = ps.length) (r : Vals vs us)
    (x : InCallC s s.heap.objs.size (bindL (envOfC qual scope s.heap.objs.size f cd).kindOf (ps.zip us) fun _ => none) (cellsFrom (s.heap.objs.size + 1) scope.names []) (bindC (envOfC qual scope s.heap.objs.size f cd).kindOf (ps.zip us) fun _ => none) s1) :
    Inv (cxOf CX P w K mg base N qual scope f cd A outer s H E) [] (start N vs) H s1 := by
  have hpl : ps.length ≤ N.length := by have := congrArg List.length S.pre; rw [List.length_take] at this; omega
  obtain ⟨h1, tk, rfl, hk⟩ := x.done
  have noA : ∀ b : Addr, b ∉ (cxOf CX P w K mg base N qual scope f cd A outer s H E).ex := fun b z => absurd (show b ∈ ([] : List Addr) from z) (by simp)
  refine ⟨⟨e0.mod, S.kind, rfl, rfl, Nat.le_refl _, fun y z c h1 h2 => ?_, fun y hy => ?_, fun y c _ h => ?_, fun _ => hd, Around.frames_deeper e0.frames, .inr ⟨rfl, rfl⟩, fun b z => absurd z (noA b), e0.bs, e0.bsz, fun b _ _ => noA b, fun b z => absurd z (noA b), e0.funs, e0.frf⟩,
    rfl, e0.bare, Un.kept hk, ⟨_, x.toInCall.ns, fun i y v h1 h2 h3 => ?_⟩, fun y c h => ⟨_, x.cell y c h⟩, e0.hok.fresh (Nat.le_refl _), fun y c h => ?_, fun p hp => absurd (show p ∈ ([] : List (Addr × Obj)) from hp) (by simp), e0.hok.kept hk, ?_⟩
  · exact name_of_addr x.apart (PySem.mem_of_lookup h1) (PySem.mem_of_lookup h2)
  · have hy : scope.names.lookup y = some .cell ∨ scope.names.lookup y = some .free := hy
    rcases hy with hy | hy
    · exact cell_has hy
    · exact absurd rfl (S.nofree _ (PySem.mem_of_lookup hy))
  · exact Nat.le_of_lt (x.above y c (PySem.mem_of_lookup h))
  · have hi : i < vs.length := by
      unfold start at h2
      by_cases hi : i < vs.length
      · exact hi
      · rw [List.getElem?_append_right (by simpa using hi)] at h2
        rw [List.getElem?_replicate] at h2
        split at h2 <;> cases h2
    have ha : vs[i]? = some v := by
      unfold start at h2
      rw [List.getElem?_append_left (by simpa using hi), List.getElem?_map] at h2
      cases e : vs[i]? with
      | none => rw [e] at h2; cases h2
      | some a => rw [e] at h2; cases h2; rfl
    obtain ⟨u, hu, rv⟩ := r.get ha
    have hp : ps[i]? = some y := by
      rw [← S.pre, List.getElem?_take_of_lt (by omega)]; exact h1
    have ndP : ps.Nodup := by rw [← S.pre]; exact S.nd.sublist (List.take_sublist _ _)
    refine ⟨u, rv, ?_⟩
    rcases S.par y (List.mem_of_getElem? hp) with k | k
    · exact .inl ⟨k, bindL_get ndP hp hu k⟩
    · obtain ⟨c, e⟩ := cell_has (n := s.heap.objs.size + 1) k
      refine .inr ⟨.inl k, c, e, ?_⟩
      have q := x.cell y c e
      rw [bindC_get ndP hp hu (by show scope.names.lookup y ≠ _; rw [k]; decide)] at q
      exact q
  · exact e0.hok.fresh (Nat.le_of_lt (x.above y c (PySem.mem_of_lookup h)))
  · unfold start
    show _ = N.length
    rw [List.length_append, List.length_map, List.length_replicate]
    omega

/-- THE RULE: a def (or a method) of the text, by its body. The body's reading t is chosen for each entry; it is run at the parameters' values -/
theorem fn_of {CX : CXT} {P : Program} {w : World} {K : PySem.W.Frag} {mg : Str → Option Value} {base : Heap} {k : Nat} {f : Addr} {name qual : Str} {params : Arguments} {body : List Stmt} {scope : Scope} {dV kV doc pm cdv ct oc : Value} {an od : Option Addr}
    {osl : Array (Option Value)} {N ps : List Str} {sp : Sp} (lk : K.lookup f = some ⟨oc, od, .func (PySem.W.fnOf name qual params body scope dV kV doc pm an cdv ct), osl⟩) (hcd : PySem.W.codeIn K cdv qual = true) (S : FnScope N ps scope)
    (len : ∀ vs H Q E, sp vs H Q E → vs.length = ps.length)
    (hbody : ∀ (A : Around) (outer : List Env) (s : Shared) (H : Hp) (vs : List V) (Q : VK) (E : XK), Room k (A.deeper (envOfC qual scope s.heap.objs.size f cdv)) → sp vs H Q E →
      ∃ t, PSs (cxOf CX P w K mg base N qual scope f cdv A outer s H E) body t ∧ t { nx := fun _ H' => Q .non H', rt := Q } (start N vs) H) :
    FnOk P w K mg base CX (k + 1) f (PySem.W.fnOf name qual params body scope dV kV doc pm an cdv ct) ps sp := by
  refine ⟨len, fun A outer s H args us vs Q E hr e0 hb r hsp => ?_⟩
  have hl := len _ _ _ _ hsp
  have KX : K.In s.heap := e0.mod.kin.keeps fun b o e => (e0.bs b o e).1
  have lim : s.heap.NoLimit := e0.mod.nolimit.keeps fun b o e => (e0.bs b o e).1
  have hkind : ∀ y ∈ ps.zip us, scope.names.lookup y.1 = some .local ∨ (scope.names.lookup y.1 = some .cell ∧ ((cellsFrom (s.heap.objs.size + 1) scope.names []).lookup y.1).isSome = true) := fun ⟨n, v⟩ hy => by
    rcases S.par n (List.of_mem_zip hy).1 with q | q
    · exact .inl q
    · exact .inr ⟨q, PySem.W.cellsFrom_some _ _ _ (.inl q)⟩
  refine codeAny_call_function hr.depth (KX _ _ lk) rfl S.co S.gen rfl (PySem.W.codeRec_of KX hcd) (hb _ _ _ _ ?_)
  refine wpAny_newFunctionEnv_cells S.kind hkind fun env he s1 x => ?_
  subst he
  refine ⟨lim.keeps x.toInCall.keep, codeAny_func ?_⟩
  obtain ⟨t, ht, hq⟩ := hbody A outer s H vs Q E (hr.deeper _) hsp
  have I : Inv (cxOf CX P w K mg base N qual scope f cdv A outer s H E) [] (start N vs) H s1 := inv_start S hr.hd e0 hl r x
  refine wpAny_mono (ht [] s1 (start N vs) H _ I hq) (fun fl s' hs => ?_) fun e s' hs => hs
  have fin : ∀ {σ' : St} {H' : Hp} {v : V} {u : Value}, Inv (cxOf CX P w K mg base N qual scope f cdv A outer s H E) [] σ' H' s' → RelV v u → Q v H' → CE outer P w H s Q u s' :=
    fun {σ' H' v u} J rv q => ⟨v, H', J.os, J.bare, J.base, J.hok, rv, q⟩
  cases fl with
  | ret u =>
    obtain ⟨v, σ', H', J, rv, q⟩ := hs
    exact fin J rv q
  | next =>
    obtain ⟨σ', H', J, q⟩ := hs
    exact fin (v := V.non) (u := Value.none) J rfl q
  | brk =>
    obtain ⟨_, _, _, q⟩ := hs
    exact False.elim q
  | cont =>
    obtain ⟨_, _, _, q⟩ := hs
    exact False.elim q
end L2

namespace L2
open PySem PySem.Spec PyProof.Rows
section
variable {X : Cx} {x : Str} {p pos : Pos} {e : Expr} {es : List Expr} {t : TA} {id T : String} {r : List V → Hp → VK → Prop}

def tCB (r : List V → Hp → VK → Prop) (t : TA) : TE := fun σ H Q => t σ H fun vs H1 => r vs H1 Q
/-- f(e, ..), f a built-in function -/
theorem pe_callB (hc : CallR X (.builtin id) r) (hg : Gl X x) (hm : X.mg x = none) (hv : bootBuiltins x = some (.builtin id)) (ha : PA X (e :: es) t) (hn : x ≠ "__name__" := by decide) (hdb : (x == ("__debug__" : Str)) = false := by decide)
    (he : starEach (e :: es) X.env = (false, eval e X.env) :: starEach es X.env := by rfl) (hpl : (backTo pos (starEach es X.env)).any (·.1) = false := by rfl) : PE X (.Call (.Name x p) (e :: es) [] pos) (tCB r t) := by
  intro pins s σ H Q I h
  refine wpAny_Call_Name_kw (ld_blt I hg hm hv ?_ hn hdb)
  exact PyProof.Rows.callWith_builtin1 (thn (ha pos pins s σ H _ I h) fun us s1 ⟨vs, H1, I1, r1, q1⟩ => hc pins s1 σ H1 vs us Q I1 r1 q1) he hpl
end
end L2

namespace HT
open PySem PyProof.Rows

/-- t < u of tuples of ints -/
def lexLt : List Int → List Int → Bool
  | [], [] => false
  | [], _ :: _ => true
  | _ :: _, [] => false
  | x :: xs, y :: ys => if x = y then lexLt xs ys else decide (x < y)
section
open PySem.SeqAt
open PySem.AutoSeq1 (wpAny_loadPart')
open PySem.MeetsSeq PySem.MeetsSeq2 PySem.MeetsSeq3

end

section
variable {prog : Program} {w : World} {A : Around} {E : Value → Shared → Prop} {s : Shared}

/-! ### t[a:b], not the whole -/
/-- a slice's bound as a place among n (d where it is left out) -/
def sIx (n d : Nat) : Option Int → Nat
  | none => d
  | some v => if v < 0 then (v + (n : Int)).toNat else min v.toNat n
end
end HT

namespace L2
open PySem PySem.Spec PyProof.Rows

/-! ### the parts of a slice -/
abbrev TO := St → Hp → (Option Int → Hp → Prop) → Prop
/-- a slice's part (left out, or an int) -/
def PO (X : Cx) (e : Option Expr) (t : TO) : Prop :=
  ∀ (pins : List (Addr × Obj)) (s : Shared) (σ : St) (H : Hp) (Q : Option Int → Hp → Prop), Inv X pins σ H s → t σ H Q →
    wpAny (model X.prog X.w) X.A (evalPart e X.env) (fun u s' => ∃ o H', Inv X pins σ H' s' ∧ IsPart u o ∧ Q o H') X.xe s
def tNoPart : TO := fun _ H Q => Q none H
def tPart (t : TE) : TO := fun σ H Q => t σ H fun x H1 => ∃ i, x = .int i ∧ Q (some i) H1

section
variable {X : Cx} {e : Expr} {te : TE} {lo hi : Option Expr} {tl th : TO} {pos p2 : Pos}

/-- what a slice of a value is, by values: the slice object stands at sl -/
def SlR (X : Cx) (r : V → Option Int → Option Int → Hp → VK → Prop) : Prop :=
  ∀ (pins : List (Addr × Obj)) (s : Shared) (σ : St) (H : Hp) (x : V) (v vl vu : Value) (lo hi : Option Int) (sl : Addr) (Q : VK), Inv X pins σ H s → RelV x v → s.heap.IsSliceOf sl vl vu .none → IsPart vl lo → IsPart vu hi → r x lo hi H Q →
    ∃ T id, typeLookup (.type T) "__getitem__" = pure (some (.builtin id)) ∧ s.TypeIs v T ∧ wpAny (model X.prog X.w) X.A (getItem v (.ref sl)) (EP X pins σ Q) X.xe s
def tSl (r : V → Option Int → Option Int → Hp → VK → Prop) (te : TE) (tl th : TO) : TE := fun σ H Q => te σ H fun x H1 => tl σ H1 fun l H2 => th σ H2 fun u H3 => r x l u H3 Q
/-- the items of xs[lo:hi] -/
def cutV (xs : List V) (lo hi : Option Int) : List V := (xs.drop (HT.sIx xs.length 0 lo)).take (HT.sIx xs.length xs.length hi - HT.sIx xs.length 0 lo)
/-- t[lo:hi], not the whole of it (the whole would be t itself) -/
def rSlT (K : PySem.W.Frag) : V → Option Int → Option Int → Hp → VK → Prop := fun x lo hi H Q => ∃ a xs, x = .ref a ∧ SqT K H a xs ∧
  ¬ (HT.sIx xs.length 0 lo = 0 ∧ HT.sIx xs.length xs.length hi = xs.length) ∧ ∀ p, H p = none → Q (.ref p) (upd H p (.tup (cutV xs lo hi)))
/-! ### t < u, t + u -/
def rLtT (K : PySem.W.Frag) : R2 := fun x y H Q => ∃ a b ns ms, x = .ref a ∧ y = .ref b ∧ SqT K H a (ns.map V.int) ∧ SqT K H b (ms.map V.int) ∧ Q (.bl (HT.lexLt ns ms)) H
/-- t + u, t not empty: u empty gives t itself -/
def rCatT (K : PySem.W.Frag) : R2 := fun x y H Q => ∃ a b xs ys, x = .ref a ∧ y = .ref b ∧ SqT K H a xs ∧ SqT K H b ys ∧ xs ≠ [] ∧ xs.length + ys.length ≤ sizeLine ∧
  (ys = [] → Q (.ref a) H) ∧ (ys ≠ [] → ∀ p, H p = none → Q (.ref p) (upd H p (.tup (xs ++ ys))))
end
end L2

namespace L2
open PySem PySem.Spec PyProof.Rows

/-! ### places -/
/-- the place that an index of any sign means -/
def ixN (n : Nat) (i : Int) : Option Nat := if 0 ≤ i then (if i < n then some i.toNat else none) else if -(n : Int) ≤ i then some (i + n).toNat else none
def atI {α : Type} (xs : List α) (i : Int) : Option α := (ixN xs.length i).bind fun j => xs[j]?
theorem ixN_seq {n : Nat} {i : Int} {j : Nat} (h : ixN n i = some j) : seqIndex? i n = some j ∧ j < n ∧ -(n : Int) ≤ i ∧ i < n := by
  unfold ixN at h
  by_cases h0 : 0 ≤ i
  · rw [if_pos h0] at h
    by_cases h1 : i < n
    · rw [if_pos h1] at h
      have e : i.toNat = j := Option.some.inj h
      exact ⟨by rw [seqIndex_of h0 h1, e], by omega, by omega, h1⟩
    · rw [if_neg h1] at h; cases h
  · rw [if_neg h0] at h
    by_cases h1 : -(n : Int) ≤ i
    · rw [if_pos h1] at h
      have e : (i + n).toNat = j := Option.some.inj h
      exact ⟨by rw [seqIndex_neg (by omega) h1, e], by omega, h1, by omega⟩
    · rw [if_neg h1] at h; cases h
theorem atI_get {α : Type} {xs : List α} {i : Int} {v : α} (h : atI xs i = some v) : ∃ j, seqIndex? i xs.length = some j ∧ xs[j]? = some v ∧ j < xs.length ∧ -(xs.length : Int) ≤ i ∧ i < xs.length := by
  unfold atI at h
  cases e : ixN xs.length i with
  | none => rw [e] at h; cases h
  | some j =>
    rw [e] at h
    obtain ⟨h1, h2, h3, h4⟩ := ixN_seq e
    exact ⟨j, h1, h, h2, h3, h4⟩
theorem atI_nat {α : Type} {xs : List α} {j : Nat} {v : α} (h : xs[j]? = some v) : atI xs (j : Int) = some v := by
  have hj : j < xs.length := (List.getElem?_eq_some_iff.mp h).1
  have e : ixN xs.length (j : Int) = some j := by
    unfold ixN
    rw [if_pos (by omega), if_pos (by omega)]; simp
  unfold atI; rw [e]; exact h
theorem atI_last {α : Type} (xs : List α) (v : α) : atI (xs ++ [v]) (-1) = some v := by
  have hl : (xs ++ [v]).length = xs.length + 1 := by simp
  have e : ixN (xs ++ [v]).length (-1) = some xs.length := by
    unfold ixN
    rw [hl, if_neg (by decide), if_pos (by omega)]
    congr 1
    omega
  unfold atI
  rw [e]
  show (xs ++ [v])[xs.length]? = some v
  simp

/-! ### what may be subscripted -/
/-- what stands as an index of a plain subscript -/
def PlainIx (b : Expr) : Prop := ∀ o i, subscripted b false o i = operate [o, i] (getItem o i)
/-- a subscript by values -/
def IxR (X : Cx) (r : R2) : Prop :=
  ∀ (value slice : Expr) (pins : List (Addr × Obj)) (s : Shared) (σ : St) (H : Hp) (x y : V) (v u : Value) (Q : VK), Inv X pins σ H s → RelV x v → RelV y u → r x y H Q →
    subscripted slice false v u = operate [v, u] (getItem v u) → wpAny (model X.prog X.w) X.A (subscriptTail value slice v u) (EP X pins σ Q) X.xe s
/-- a call of a builtin's method by values: the receiver, the arguments -/
def MtR (X : Cx) (id : String) (r : V → List V → Hp → VK → Prop) : Prop :=
  ∀ (pins : List (Addr × Obj)) (s : Shared) (σ : St) (H : Hp) (x : V) (xs : List V) (v : Value) (us : List Value) (Q : VK), Inv X pins σ H s → RelV x v → Vals xs us → r x xs H Q →
    wpAny (model X.prog X.w) X.A (call (.builtin id) (v :: us)) (EP X pins σ Q) X.xe s
section
variable {X : Cx} {a b : Expr} {ta tb : TE} {pos : Pos}
/-- a[b] -/
theorem pe_ix {r : R2} (hr : IxR X r) (ha : PE X a ta) (hb : PE X b tb) (hs : PlainIx b) : PE X (.Subscript a b pos) (tOp r ta tb) := by
  intro pins s σ H Q I h
  exact Subscript_ (binT ha hb I h fun v u s2 x y H2 I2 rx ry q => hr a b pins s2 σ H2 x y v u Q I2 rx ry q (hs _ _))

def rIxL (K : PySem.W.Frag) : R2 := fun x y H Q => ∃ p xs i v, x = .ref p ∧ y = .int i ∧ SqL K H p xs ∧ atI xs i = some v ∧ Q v H
def rIxT (K : PySem.W.Frag) : R2 := fun x y H Q => ∃ p xs i v, x = .ref p ∧ y = .int i ∧ SqT K H p xs ∧ atI xs i = some v ∧ Q v H
def rIxS : R2 := fun x y H Q => ∃ z i c, x = .str z ∧ y = .int i ∧ z.length ≤ sizeLine ∧ atI z.cps.toList i = some c ∧ Q (.str ⟨#[c]⟩) H
theorem ix_list : IxR X (rIxL X.K) := by
  intro value slice pins s σ H x y v u Q I rx ry h hs
  obtain ⟨p, xs, i, z, rfl, rfl, hq, he, q⟩ := h
  cases rx
  obtain ⟨t, rfl⟩ := ry
  obtain ⟨its, r, pl, hz⟩ := I.list hq
  obtain ⟨j, h1, h2, h3, h4, h5⟩ := atI_get he
  obtain ⟨w, ew, rw'⟩ := r.get h2
  have hl := r.length
  have hn := line63
  have fin : EP X pins σ Q w s := ⟨z, H, I, rw', q⟩
  by_cases h0 : 0 ≤ i
  · have hj : i.toNat = j := by
      rw [seqIndex_of h0 h5] at h1
      exact Option.some.inj h1
    exact item_listR pl.isList h0 (by omega) (by rw [hj]; simpa using ew) fin hs
  · have hj : (i + (its.toArray.size : Int)).toNat = j := by
      rw [seqIndex_neg (by omega) h4] at h1
      rw [List.size_toArray, ← hl]
      exact Option.some.inj h1
    exact subscriptTail_builtinR (x := w) pl.isList.typeIs slot_list_getitem.lookup
      (wpAny_getItem_list_neg (Q := fun r s' => r = w ∧ EP X pins σ Q r s') pl.isList (by omega) (by rw [List.size_toArray] <;> omega) (by omega) (by rw [hj]; simpa using ew) ⟨rfl, fin⟩) hs
/-- list, tuple or str -/
def rIx (K : PySem.W.Frag) : R2 := fun x y H Q => rIxL K x y H Q ∨ rIxT K x y H Q ∨ rIxS x y H Q
/-! ### xs[i] = v, any sign -/
def rSetL : V → V → V → Hp → (Hp → Prop) → Prop := fun o i v H Q => ∃ p xs k j, o = .ref p ∧ i = .int k ∧ H p = some (.lst xs) ∧ ixN xs.length k = some j ∧ Q (upd H p (.lst (xs.set j v)))
/-! ### slices -/
/-- xs[lo:hi] of a list: a new list -/
def rSlL (K : PySem.W.Frag) : V → Option Int → Option Int → Hp → VK → Prop := fun x lo hi H Q => ∃ a xs, x = .ref a ∧ SqL K H a xs ∧ ∀ p, H p = none → Q (.ref p) (upd H p (.lst (cutV xs lo hi)))
/-! ### in, not in: flat items -/
def flatV : V → Bool
  | .non => true
  | .bl _ => true
  | .int _ => true
  | .str _ => true
  | _ => false
/-- == of flat values -/
def eqV : V → V → Bool
  | .non, .non => true
  | .bl a, .bl b => a == b
  | .bl a, .int b => (if a then 1 else 0) == b
  | .int a, .bl b => a == (if b then 1 else 0)
  | .int a, .int b => a == b
  | .str a, .str b => a == b
  | _, _ => false
theorem eqAt_V {A : Around} {s : Shared} {y x : V} {u v : Value} (ry : RelV y u) (rx : RelV x v) (fy : flatV y = true) (fx : flatV x = true) : SeqAt.EqAt A s u v (eqV y x) := by
  cases y with
  | non =>
    cases ry
    cases x with
    | non => cases rx; exact SeqAt.EqAt.same _
    | bl b => cases rx; exact SeqAt.EqAt.none_bool b
    | int b => obtain ⟨t, rfl⟩ := rx; exact SeqAt.EqAt.none_int b t
    | str b => obtain ⟨t, rfl⟩ := rx; exact SeqAt.EqAt.none_str b t
    | _ => exact absurd (show false = true from fx) Bool.false_ne_true
  | bl a =>
    cases ry
    cases x with
    | non => cases rx; exact SeqAt.EqAt.bool_none a
    | bl b => cases rx; exact SeqAt.EqAt.bool_bool a b
    | int b => obtain ⟨t, rfl⟩ := rx; exact SeqAt.EqAt.bool_int a b t
    | str b => obtain ⟨t, rfl⟩ := rx; exact SeqAt.EqAt.bool_str a b t
    | _ => exact absurd (show false = true from fx) Bool.false_ne_true
  | int a =>
    obtain ⟨t', rfl⟩ := ry
    cases x with
    | non => cases rx; exact SeqAt.EqAt.int_none a t'
    | bl b => cases rx; exact SeqAt.EqAt.int_bool a t' b
    | int b => obtain ⟨t, rfl⟩ := rx; exact SeqAt.EqAt.int_int a t' b t
    | str b => obtain ⟨t, rfl⟩ := rx; exact SeqAt.EqAt.int_str a t' b t
    | _ => exact absurd (show false = true from fx) Bool.false_ne_true
  | str a =>
    obtain ⟨t', rfl⟩ := ry
    cases x with
    | non => cases rx; exact SeqAt.EqAt.str_none a t'
    | bl b => cases rx; exact SeqAt.EqAt.str_bool a t' b
    | int b => obtain ⟨t, rfl⟩ := rx; exact SeqAt.EqAt.str_int a t' b t
    | str b => obtain ⟨t, rfl⟩ := rx; exact SeqAt.EqAt.str_str a t' b t
    | _ => exact absurd (show false = true from fx) Bool.false_ne_true
  | _ => exact absurd (show false = true from fy) Bool.false_ne_true
/-- the items' answers, read off the values (a value's own answer does not lean on its token) -/
def eqU (x : V) (u : Value) : Bool := match u with
  | .none => eqV .non x
  | .bool b => eqV (.bl b) x
  | .int i _ => eqV (.int i) x
  | .str z _ => eqV (.str z) x
  | _ => false
theorem eqU_of {x y : V} {u : Value} (r : RelV y u) (f : flatV y = true) : eqU x u = eqV y x := by
  cases y with
  | non => cases r; rfl
  | bl b => cases r; rfl
  | int i => obtain ⟨t, rfl⟩ := r; rfl
  | str z => obtain ⟨t, rfl⟩ := r; rfl
  | _ => exact absurd (show false = true from f) Bool.false_ne_true
theorem any_eqU {x : V} : ∀ {xs : List V} {us : List Value}, Vals xs us → xs.all flatV = true → us.any (eqU x) = xs.any fun y => eqV y x
  | _, _, .nil, _ => rfl
  | y :: xs, u :: us, .cons r t, f => by
    rw [List.all_cons, Bool.and_eq_true] at f
    rw [List.any_cons, List.any_cons, eqU_of r f.1, any_eqU t f.2]
theorem mem_eqAt {A : Around} {s : Shared} {x : V} {v : Value} (rx : RelV x v) (fx : flatV x = true) : ∀ {xs : List V} {us : List Value}, Vals xs us → xs.all flatV = true → ∀ u ∈ us, SeqAt.EqAt A s u v (eqU x u)
  | _, _, .nil, _ => fun u hu => by cases hu
  | y :: xs, u :: us, .cons r t, f => fun u' hu => by
    rw [List.all_cons, Bool.and_eq_true] at f
    rcases List.mem_cons.mp hu with rfl | hu
    · rw [eqU_of r f.1]; exact eqAt_V r rx f.1 fx
    · exact mem_eqAt rx fx t f.2 u' hu
def inV (x : V) (xs : List V) : Bool := xs.any fun y => eqV y x
/-- x in a list or tuple of flat items -/
def rIn (K : PySem.W.Frag) (neg : Bool) : R2 := fun x y H Q => ∃ p xs, y = .ref p ∧ (SqL K H p xs ∨ SqT K H p xs) ∧ flatV x = true ∧ xs.all flatV = true ∧ Q (.bl (if neg then !inV x xs else inV x xs)) H
theorem op_in_seq : OpR X (compareOp .In) (rIn X.K false) := by
  intro pins s σ H x y v u Q I rx ry h
  obtain ⟨p, xs, rfl, hq, fx, fs, q⟩ := h
  cases ry
  rcases hq with hq | hq
  · obtain ⟨its, r, pl, hz⟩ := I.list hq
    refine SeqAt.in_listAt (eqU x) pl.isList (fun w hw => mem_eqAt rx fx r fs w (by simpa using hw)) ⟨.bl _, H, I, rfl, ?_⟩
    rw [show its.toArray.any (eqU x) = its.any (eqU x) by simp, any_eqU r fs]
    exact q
  · obtain ⟨its, r, pl, hz⟩ := I.tuple hq
    refine SeqAt.in_tupleAt (eqU x) pl (fun w hw => mem_eqAt rx fx r fs w (by simpa using hw)) ⟨.bl _, H, I, rfl, ?_⟩
    rw [show its.toArray.any (eqU x) = its.any (eqU x) by simp, any_eqU r fs]
    exact q
/-! ### len, list(x), tuple(x) of any list or tuple that is read -/
theorem call_len_seq : CallR X (.builtin "len") (fun xs H Q => ∃ p ys, xs = [.ref p] ∧ (SqL X.K H p ys ∨ SqT X.K H p ys) ∧ Q (.int ys.length) H) := by
  intro pins s σ H xs us Q I r h
  obtain ⟨p, ys, rfl, hq, q⟩ := h
  obtain ⟨u, rfl, rx⟩ := vals1 r
  cases rx
  have hn := line63
  rcases hq with hq | hq
  · obtain ⟨its, r', pl, hz⟩ := I.list hq
    have hlen := r'.length
    exact Calls.call_len_list pl.isList (by simp only [List.size_toArray] <;> omega) ⟨.int ys.length, H, I.tok _, ⟨s.toks + 1, by rw [List.size_toArray, hlen]⟩, q⟩
  · obtain ⟨its, r', pl, hz⟩ := I.tuple hq
    have hlen := r'.length
    exact len_tuple pl (by simp only [List.size_toArray] <;> omega) ⟨.int ys.length, H, I.tok _, ⟨s.toks + 1, by rw [List.size_toArray, hlen]⟩, q⟩
/-! ### the call of a builtin's method: o.m(..) -/
/-- the value is of that builtin type -/
def tyV (K : PySem.W.Frag) (T : String) (x : V) (H : Hp) : Prop := match x with
  | .str _ => T = "str"
  | .int _ => T = "int"
  | .ref p => (T = "list" ∧ ∃ xs, SqL K H p xs) ∨ (T = "tuple" ∧ ∃ o, K.lookup p = some o ∧ o.cls = .type "tuple" ∧ o.dict = none) ∨
      (T = "dict" ∧ ((∃ kvs, H p = some (.dK kvs)) ∨ ∃ kvs, H p = some (.dT kvs))) ∨ (T = "set" ∧ ∃ S n, H p = some (.set S n))
  | _ => False
theorem tyV_is {pins : List (Addr × Obj)} {σ : St} {H : Hp} {s : Shared} {T : String} {x : V} {v : Value} (I : Inv X pins σ H s) (r : RelV x v) (ty : tyV X.K T x H) :
    s.TypeIs v T ∧ ∀ a, v = .ref a → ∃ ob, s.heap.get? a = some ob ∧ ob.dict = none := by
  cases x with
  | str z =>
    obtain ⟨t, rfl⟩ := r
    cases (show T = "str" from ty)
    exact ⟨typeIs_str s z t, fun _ e => nomatch e⟩
  | int i =>
    obtain ⟨t, rfl⟩ := r
    cases (show T = "int" from ty)
    exact ⟨typeIs_int s i t, fun _ e => nomatch e⟩
  | ref p =>
    cases r
    rcases ty with ⟨rfl, xs, hq⟩ | ⟨rfl, o, hk, hc, hd⟩ | ⟨rfl, hk⟩ | ⟨rfl, S, n, hk⟩
    · obtain ⟨its, _, pl, _⟩ := I.list hq
      refine ⟨pl.isList.typeIs, fun a e => ?_⟩
      cases e
      obtain ⟨o, n, e, c, hd, _⟩ := pl
      exact ⟨o, e, hd⟩
    · refine ⟨⟨o, I.kIn p o hk, hc⟩, fun a e => ?_⟩
      cases e
      exact ⟨o, I.kIn _ o hk, hd⟩
    · have z : ∃ o, s.heap.get? p = some o ∧ o.ExactDict := by
        rcases hk with ⟨kvs, hk⟩ | ⟨kvs, hk⟩
        · obtain ⟨_, _, _, _, o, _, _, e, ex, _⟩ := I.hok p _ hk
          exact ⟨o, e, ex⟩
        · obtain ⟨_, _, _, _, o, _, _, e, ex, _⟩ := I.hok p _ hk
          exact ⟨o, e, ex⟩
      obtain ⟨o, e, ex⟩ := z
      refine ⟨⟨o, e, ex.1⟩, fun a e2 => ?_⟩
      cases e2
      exact ⟨o, e, ex.2.1⟩
    · obtain ⟨o, _, _, _, e, ex, _⟩ := I.hok p _ hk
      refine ⟨⟨o, e, ex.1⟩, fun a e2 => ?_⟩
      cases e2
      exact ⟨o, e, ex.2.1⟩
  | _ => exact False.elim ty
def tBM0 (K : PySem.W.Frag) (T : String) (r : V → List V → Hp → VK → Prop) (to : TE) : TE := fun σ H Q => to σ H fun x H1 => tyV K T x H1 ∧ r x [] H1 Q
def tBM (K : PySem.W.Frag) (T : String) (r : V → List V → Hp → VK → Prop) (to : TE) (t : TA) : TE := fun σ H Q => to σ H fun x H1 => tyV K T x H1 ∧ t σ H1 fun xs H2 => r x xs H2 Q
variable {o e : Expr} {es : List Expr} {to : TE} {t : TA} {name : Str} {apos cpos : Pos} {T id : String} {r : V → List V → Hp → VK → Prop}
theorem pe_bm (pa : PlainAttrs T) (slot : Slot T name id) (hty : typeOf (.builtin id) = pure (.type "method_descriptor")) (hm : MtR X id r) (ho : PE X o to) (ha : PA X (e :: es) t)
    (hbase : attributeBase o name X.env (eval o X.env) = eval o X.env := by rfl)
    (hfew : ((backTo cpos (starEach (e :: es) X.env)).all (fun x => !x.1) && (backToKw cpos (keywordEach [] X.env)).all (fun x => x.1.isSome)
      && decide ((e :: es).length + ([] : List Keyword).length + (if ([] : List Keyword).isEmpty then 0 else 1) < 30)) = true := by rfl)
    (hline : (apos.endLine == cpos.line) = true := by rfl) (hs : starEach (e :: es) X.env = (false, eval e X.env) :: starEach es X.env := by rfl) (hplain : (backTo cpos (starEach es X.env)).any (·.1) = false := by rfl) :
    PE X (.Call (.Attribute o name apos) (e :: es) [] cpos) (tBM X.K T r to t) := by
  intro pins s σ H Q I h
  refine wpAny_Call_method_late hbase hfew hline rfl (thn (ho pins s σ H _ I h) fun v s1 ⟨x, H1, I1, r1, ty, q1⟩ => ?_)
  obtain ⟨h1, h2⟩ := tyV_is I1 r1 ty
  refine ⟨T, id, pa, slot, hty, h1, h2, ?_⟩
  have hA := ha cpos pins s1 σ H1 _ I1 q1
  rw [hs] at hA ⊢
  refine Calls.callWith_builtin (by show (false || (backTo cpos (starEach es X.env)).any (·.1)) = false; rw [hplain] <;> rfl) (Calls.evalArgs_plain ?_)
  exact thn hA fun us s2 ⟨vs, H2, I2, r2, q2⟩ => hm pins s2 σ H2 x vs v us Q I2 r1 r2 q2
/- xs.append(e), list.index on a module's tuple .. are MtR facts of 06m -/
end
end L2

namespace L2
open PySem PySem.Spec PyProof.Rows

def MtM (X : Cx) (id : String) (r : V → List V → Hp → VK → Prop) : Prop :=
  ∀ (pins : List (Addr × Obj)) (s : Shared) (σ : St) (H : Hp) (x : V) (xs : List V) (v : Value) (us : List Value) (Q : VK), Inv X pins σ H s → RelV x v → Vals xs us → r x xs H Q →
    wpAny (model X.prog X.w) X.A (call (.builtin id) (v :: us)) (EP X pins σ Q) X.xe s

/-! ### lists of values -/
theorem Vals.one : ∀ {x : V} {us : List Value}, Vals [x] us → ∃ u, us = [u] ∧ RelV x u
  | _, _, .cons r .nil => ⟨_, rfl, r⟩
section
variable {X : Cx} {pins : List (Addr × Obj)} {σ : St} {H : Hp} {s : Shared} {l b : Addr} {xs ys zs : List V}

/-! ### the two steps: a tracked list is rewritten, a new list is laid -/
theorem Inv.lset {its its' : List Value} {n : Nat} {f : Array Value → Array Value} {t' : Nat} (I : Inv X pins σ H s) (hH : H l = some (.lst xs))
    (e : s.heap.get? l = some { cls := .type "list", data := .seq its.toArray n }) (hf : f its.toArray = its'.toArray) (hv : Vals ys its') (hz : ys.length ≤ sizeLine) :
    Inv X pins σ (upd H l (.lst ys)) { s with heap := s.heap.update l (Obj.mapSeq f), toks := t' } := by
  have q := PySem.IsL.update e f
  rw [hf] at q
  refine I.write (x := l) (e := l) (by rw [hH]; exact trivial) (.inl rfl) (fun b' u hb hu => (Heap.get?_update_other s.heap (Obj.mapSeq f) (Ne.symm hb)).trans hu) ⟨_, q⟩ ?_
  exact ⟨hz, its', _, hv, q⟩
theorem Inv.lstM (I : Inv X pins σ H s) (hH : H l = some (.lst xs)) : xs.length ≤ sizeLine ∧ ∃ (its : List Value) (n : Nat), Vals xs its ∧ xs.length = its.length ∧ s.heap.get? l = some { cls := .type "list", data := .seq its.toArray n } := by
  obtain ⟨z, its, n, r, e⟩ := I.hok l _ hH
  exact ⟨z, its, n, r, r.length, e⟩

theorem notLongL {n : Nat} (h : n ≤ sizeLine) : Builtin.List.listTooLong n = false := by
  unfold Builtin.List.listTooLong
  exact decide_eq_false (by omega)
end

section
variable {X : Cx}

/-! ### methods -/
def rAppend : V → List V → Hp → VK → Prop := fun x vs H Q => ∃ l xs y, x = .ref l ∧ vs = [y] ∧ H l = some (.lst xs) ∧ xs.length < sizeLine ∧ Q .non (upd H l (.lst (xs ++ [y])))
theorem mt_append : MtM X "list.append" rAppend := by
  intro pins s σ H x vs v us Q I rx rv h
  obtain ⟨l, xs, y, rfl, rfl, hH, hz, q⟩ := h
  cases rx
  obtain ⟨u, rfl, ru⟩ := rv.one
  obtain ⟨z, its, n, r, hl, e⟩ := I.lstM hH
  refine call_meets F.slot_list_append ⟨_, e, rfl⟩ F.entry_list_append (F.args_list_append_2 _ _) (PySem.list_append l its.toArray n u (by rw [List.size_toArray]; omega)) ⟨e, ?_⟩
  refine ⟨.non, _, I.lset (its' := its ++ [u]) hH e (by simp) (r.append (.cons ru .nil)) ?_, rfl, q⟩
  rw [List.length_append, List.length_singleton]
  omega

def rExtend : V → List V → Hp → VK → Prop := fun x vs H Q => ∃ l b xs zs, x = .ref l ∧ vs = [.ref b] ∧ H l = some (.lst xs) ∧ H b = some (.lst zs) ∧ xs.length + zs.length ≤ sizeLine ∧ Q .non (upd H l (.lst (xs ++ zs)))
theorem mt_extend : MtM X "list.extend" rExtend := by
  intro pins s σ H x vs v us Q I rx rv h
  obtain ⟨l, b, xs, zs, rfl, rfl, hH, hB, hz, q⟩ := h
  cases rx
  obtain ⟨u, rfl, ru⟩ := rv.one
  cases ru
  obtain ⟨z, its, n, r, hl, e⟩ := I.lstM hH
  obtain ⟨z2, its2, n2, r2, hl2, e2⟩ := I.lstM hB
  have hsz : its.toArray.size + its2.toArray.size ≤ sizeLine := by rw [List.size_toArray, List.size_toArray]; omega
  have hlong : ¬ (!its.toArray.isEmpty && Builtin.List.listTooLong (its.toArray.size + its2.toArray.size)) = true := by
    rw [notLongL hsz, Bool.and_false]
    exact Bool.false_ne_true
  refine call_meets F.slot_list_extend ⟨_, e, rfl⟩ F.entry_list_extend (F.args_list_extend_2 _ _)
    (AutoSeq1.list_extend_list_list_0 l its.toArray n b its2.toArray n2 hlong (by rw [List.size_toArray]; omega) (by omega)) ⟨e, e2, ?_⟩
  refine ⟨.non, _, I.lset (its' := its ++ its2) hH e (by simp) (r.append r2) ?_, rfl, q⟩
  rw [List.length_append]
  omega

def rPop : V → List V → Hp → VK → Prop := fun x vs H Q => ∃ l xs y, x = .ref l ∧ vs = [] ∧ H l = some (.lst xs) ∧ xs[xs.length - 1]? = some y ∧ Q y (upd H l (.lst xs.dropLast))
def rPopAt : V → List V → Hp → VK → Prop := fun x vs H Q => ∃ l xs i k y, x = .ref l ∧ vs = [.int i] ∧ H l = some (.lst xs) ∧ -(2 ^ 63) ≤ i ∧ i < 2 ^ 63 ∧ seqIndex? i xs.length = some k ∧ xs[k]? = some y ∧ Q y (upd H l (.lst (xs.eraseIdx k)))
def rReverse : V → List V → Hp → VK → Prop := fun x vs H Q => ∃ l xs, x = .ref l ∧ vs = [] ∧ H l = some (.lst xs) ∧ Q .non (upd H l (.lst xs.reverse))
def rClear : V → List V → Hp → VK → Prop := fun x vs H Q => ∃ l xs, x = .ref l ∧ vs = [] ∧ H l = some (.lst xs) ∧ Q .non (upd H l (.lst []))
/-! ### list + list, list += list, list * int -/
def rCat : R2 := fun x y H Q => ∃ l b xs zs, x = .ref l ∧ y = .ref b ∧ H l = some (.lst xs) ∧ H b = some (.lst zs) ∧ xs.length + zs.length ≤ sizeLine ∧ ∀ p, H p = none → Q (.ref p) (upd H p (.lst (xs ++ zs)))
/-- a list times an int (a negative one is nothing) -/
def rRep : R2 := fun x y H Q => ∃ l k xs, x = .ref l ∧ y = .int k ∧ H l = some (.lst xs) ∧ -(2 ^ 63) ≤ k ∧ k < 2 ^ 63 ∧ xs.length * k.toNat ≤ sizeLine ∧
  ∀ p, H p = none → Q (.ref p) (upd H p (.lst (List.replicate k.toNat xs).flatten))
/-! ### del xs[i] -/
end

/-! ### xs[a:b] = ys -/
section
variable {prog : Program} {w : World} {A : Around} {E : Value → Shared → Prop} {s : Shared}
set_option maxRecDepth 100000 in
end

section
variable {X : Cx}
end
end L2

namespace L2
open PySem PySem.Spec PyProof.Rows

/-! ### the library's walks over a list of ints, kept objects alone -/
section
variable {prog : Program} {w : World} {A : Around} {E : Value → Shared → Prop} {s : Shared} {l : Addr} {its : List Value} {ns : List Int} {Q : Value → Shared → Prop}
end

/-! ### the calls, by values (CallR of 03t; MtR of 06l) -/
section
variable {X : Cx}
/-- sum(xs) of a list of ints -/
def rSum (K : PySem.W.Frag) : List V → Hp → VK → Prop := fun vs H Q => ∃ (a : Addr) (ns : List Int), vs = [V.ref a] ∧ SqL K H a (ns.map V.int) ∧ Q (.int ns.sum) H
/-- max(xs), min(xs) of a list of ints -/
def rMax (K : PySem.W.Frag) : List V → Hp → VK → Prop := fun vs H Q => ∃ (a : Addr) (ns : List Int), vs = [V.ref a] ∧ SqL K H a (ns.map V.int) ∧ 0 < ns.length ∧ ∀ m, m ∈ ns → (∀ y, y ∈ ns → y ≤ m) → Q (.int m) H
def rMin (K : PySem.W.Frag) : List V → Hp → VK → Prop := fun vs H Q => ∃ (a : Addr) (ns : List Int), vs = [V.ref a] ∧ SqL K H a (ns.map V.int) ∧ 0 < ns.length ∧ ∀ m, m ∈ ns → (∀ y, y ∈ ns → m ≤ y) → Q (.int m) H
/-! sorted, sort (fewer than 64 items: the library's own bound) -/
def rSorted (K : PySem.W.Frag) : List V → Hp → VK → Prop := fun vs H Q => ∃ (a : Addr) (ns : List Int), vs = [V.ref a] ∧ SqL K H a (ns.map V.int) ∧ ns.length < 64 ∧
  ∀ (ns' : List Int) (p : Addr), ns'.Perm ns → ns'.Pairwise (· ≤ ·) → H p = none → Q (.ref p) (upd H p (.lst (ns'.map V.int)))
def rSortedS (K : PySem.W.Frag) : List V → Hp → VK → Prop := fun vs H Q => ∃ (a : Addr) (xs : List Str), vs = [V.ref a] ∧ SqL K H a (xs.map V.str) ∧ xs.length < 64 ∧
  ∀ (ys : List Str) (p : Addr), ys.Perm xs → sortedS ys = true → H p = none → Q (.ref p) (upd H p (.lst (ys.map V.str)))
/-- xs.sort(), ints -/
def rSort : V → List V → Hp → VK → Prop := fun x xs H Q => ∃ (a : Addr) (ns : List Int), x = V.ref a ∧ xs = [] ∧ H a = some (.lst (ns.map V.int)) ∧ ns.length < 64 ∧
  ∀ ns' : List Int, ns'.Perm ns → ns'.Pairwise (· ≤ ·) → Q .non (upd H a (.lst (ns'.map V.int)))
end

/-! ### list.index, flat items -/
section
variable {X : Cx}
def rIndex (K : PySem.W.Frag) : V → List V → Hp → VK → Prop := fun x xs H Q => ∃ (a : Addr) (ys : List V) (y : V) (j : Nat) (z : V), x = V.ref a ∧ xs = [y] ∧ SqL K H a ys ∧ flatV y = true ∧ ys.all flatV = true ∧ ys[j]? = some z ∧ eqV z y = true ∧
  (∀ (m : Nat) (z' : V), m < j → ys[m]? = some z' → eqV z' y = false) ∧ Q (.int (j : Nat)) H
end

/-! ### type(x) of an own instance; is, is not of a module's class -/
section
variable {X : Cx}
end

/-! ### any(xs), all(xs) of a list of bools -/
section
variable {X : Cx}
def rAny (K : PySem.W.Frag) : List V → Hp → VK → Prop := fun vs H Q => ∃ (a : Addr) (bs : List Bool), vs = [V.ref a] ∧ SqL K H a (bs.map V.bl) ∧ Q (.bl (bs.any id)) H
def rAll (K : PySem.W.Frag) : List V → Hp → VK → Prop := fun vs H Q => ∃ (a : Addr) (bs : List Bool), vs = [V.ref a] ∧ SqL K H a (bs.map V.bl) ∧ Q (.bl (bs.all id)) H
end

/-! ### == and != of data at any depth: none, bools, ints, texts, lists, tuples -/
mutual
inductive Dp (K : PySem.W.Frag) (H : Hp) : V → PyData → Prop
  | non : Dp K H .non .none
  | bl (b : Bool) : Dp K H (.bl b) (.bool b)
  | int (i : Int) : Dp K H (.int i) (.int i)
  | str (x : Str) : Dp K H (.str x) (.str x)
  | lst {a : Addr} {xs : List V} {ds : List PyData} : SqL K H a xs → DpAll K H xs ds → Dp K H (.ref a) (.list ds)
  | tup {a : Addr} {xs : List V} {ds : List PyData} : SqT K H a xs → DpAll K H xs ds → Dp K H (.ref a) (.tuple ds)
inductive DpAll (K : PySem.W.Frag) (H : Hp) : List V → List PyData → Prop
  | nil : DpAll K H [] []
  | cons {v : V} {vs : List V} {d : PyData} {ds : List PyData} : Dp K H v d → DpAll K H vs ds → DpAll K H (v :: vs) (d :: ds)
end
section
variable {X : Cx} {pins : List (Addr × Obj)} {σ : St} {H : Hp} {s : Shared}
mutual
theorem Dp.reads (I : Inv X pins σ H s) : ∀ (d : PyData) (v : V) (u : Value), Dp X.K H v d → RelV v u → ∃ as, Reads s.heap u d as
  | .none, _, _, h, r => by
    cases h
    cases r
    exact ⟨_, Reads.none⟩
  | .bool b, _, _, h, r => by
    cases h
    cases r
    exact ⟨_, Reads.bool b⟩
  | .int i, _, _, h, r => by
    cases h
    obtain ⟨t, rfl⟩ := r
    exact ⟨_, Reads.int i t⟩
  | .str x, _, _, h, r => by
    cases h
    obtain ⟨t, rfl⟩ := r
    exact ⟨_, Reads.str x t⟩
  | .list ds, _, _, h, r => by
    cases h with
    | lst hs ha =>
      cases r
      obtain ⟨its, rv, ⟨o, n, ho, hc, _, hd⟩, _⟩ := I.list hs
      obtain ⟨as, hr⟩ := Dp.readsAll I ds _ its ha rv
      exact ⟨_, Reads.list ho hc hd hr⟩
  | .tuple ds, _, _, h, r => by
    cases h with
    | tup hs ha =>
      cases r
      obtain ⟨its, rv, ⟨o, ho, hc, n, hd⟩, _⟩ := I.tuple hs
      obtain ⟨as, hr⟩ := Dp.readsAll I ds _ its ha rv
      exact ⟨_, Reads.tuple ho hc hd hr⟩
  | .dict _, _, _, h, _ => by cases h
theorem Dp.readsAll (I : Inv X pins σ H s) : ∀ (ds : List PyData) (vs : List V) (us : List Value), DpAll X.K H vs ds → Vals vs us → ∃ as, ReadsAll s.heap us ds as
  | [], _, _, h, r => by
    cases h
    cases r
    exact ⟨_, ReadsAll.nil⟩
  | d :: ds, _, _, h, r => by
    cases h with
    | cons h1 h2 =>
      cases r with
      | cons r1 r2 =>
        obtain ⟨as, q1⟩ := Dp.reads I d _ _ h1 r1
        obtain ⟨bs, q2⟩ := Dp.readsAll I ds _ _ h2 r2
        exact ⟨_, ReadsAll.cons q1 q2⟩
end
end
section
variable {X : Cx}
def rEqD (K : PySem.W.Frag) : R2 := fun x y H Q => ∃ d e, Dp K H x d ∧ Dp K H y e ∧ SeqAt.shaped d = true ∧ SeqAt.shaped e = true ∧ Q (.bl (PyData.eqv d e)) H
def rNeD (K : PySem.W.Frag) : R2 := fun x y H Q => ∃ d e, Dp K H x d ∧ Dp K H y e ∧ SeqAt.shaped d = true ∧ SeqAt.shaped e = true ∧ Q (.bl (!PyData.eqv d e)) H
end
end L2

namespace L2
open PySem PySem.Spec PyProof.Rows
abbrev CellAt (h : Heap) (c : Addr) (v : Option Value) : Prop := h.IsCell c v
def relS (scope sc : Scope) : Scope :=
  { scope with names := scope.names.map fun (n, k) => if (k == .free && sc.kind == .function && sc.names.lookup n == some .cell) then (n, .cell) else (n, k) }

def cloFrom (cells : List (Str × Addr)) : List (Str × NameKind) → List (Str × Addr) → List (Str × Addr)
  | [], acc => acc
  | (n, k) :: r, acc => if k == .free then cloFrom cells r ((n, (cells.lookup n).getD 0) :: acc) else cloFrom cells r acc

/-- the names of a comprehension's block: its own (with their places in N), or captured -/
structure BlkOk (N : List Str) (sc scope : Scope) (own : List (Str × Nat)) : Prop where
  kind : scope.kind = .function
  uniq : ∀ y ∈ scope.names, scope.names.lookup y.1 = some y.2
  ix : ∀ p ∈ own, N[p.2]? = some p.1
  free : ∀ y ∈ scope.names, y.2 = .free → sc.names.lookup y.1 = some .cell ∨ sc.names.lookup y.1 = some .free
  own : ∀ y ∈ scope.names, y.2 = .local ∨ y.2 = .cell → y.1 ∈ own.map (·.1) ∨ y.1 ∉ N
/-- the slots of the block's own names forgotten -/
def wipe (σ : St) : List Nat → St
  | [] => σ
  | v :: vs => (wipe σ vs).set v none
/-- the context of a block that starts at s, its iterator's objects at fp -/
abbrev Cx.blk (X : Cx) (s : Shared) (H : Hp) (scope : Scope) (cenv : Env) (fp : List Addr) : Cx := { X with s_0 := s, H_0 := H, env := cenv, outer := X.stack, ex := fp, fn := fun x => scope.names.lookup x == some .cell, pn := [], xe := fun _ _ => False }
section
variable {X : Cx} {pins : List (Addr × Obj)} {σ : St} {H : Hp} {s : Shared}
/-- a clause's tests -/
def PTs (X : Cx) (ifs : List Expr) (t : TT) : Prop :=
  ∀ (pins : List (Addr × Obj)) (s : Shared) (σ : St) (H : Hp) (Q : Bool → Hp → Prop), Inv X pins σ H s → t σ H Q →
    wpAny (model X.prog X.w) X.A (forIn ifs true fun c r => if r = true then do let ok ← isTrue c X.env (eval c X.env); pure (ForInStep.yield ok) else pure (ForInStep.yield r)) (TP X pins σ Q) X.xe s
def tYes : TT := fun _ H Q => Q true H
end

section
variable {X : Cx}
/-- [elt for target in iter if ..]: D the new list; W by the turn and a measure, Nx what a turn is to reach -/
def tLc (wi : TI) (g : TG) (tt : TT) (te : TE) (vs : List Nat) : TE := fun σ H Q => wi σ H fun J H1 => ∀ D, H1 D = none → ∃ W : Nat → Nat → Hp → Prop, (∃ m, W 0 m (upd H1 D (.lst []))) ∧ ∀ i m H, W i m H →
  (J.stop i H ∧ Q (.ref D) H) ∨ (J.go i H ∧ ∃ Nx : Hp → Prop, (∀ H', Nx H' → ∃ m', m' < m ∧ W (i + 1) m' H') ∧ ∀ x H', J.yld i H x H' → g x (wipe σ vs) H' fun σ2 H2 => wipe σ2 vs = wipe σ vs ∧ tt σ2 H2 fun b H3 =>
    if b = true then te σ2 H3 fun y H4 => ∃ acc, H4 D = some (.lst acc) ∧ acc.length < sizeLine ∧ Nx (upd H4 D (.lst (acc ++ [y]))) else Nx H3)
end

/-! ### the forms one uses -/
def blkC (N : List Str) (sc scope : Scope) (own : List (Str × Nat)) : Bool :=
  (match scope.kind with | .function => true | _ => false) && (scope.names.all fun y => decide (scope.names.lookup y.1 = some y.2)) && (own.all fun p => decide (N[p.2]? = some p.1)) &&
    (scope.names.all fun y => match y.2 with
      | .free => (match sc.names.lookup y.1 with | some .cell => true | some .free => true | _ => false)
      | .local => decide (y.1 ∈ own.map (·.1)) || decide (y.1 ∉ N)
      | .cell => decide (y.1 ∈ own.map (·.1)) || decide (y.1 ∉ N)
      | _ => true)
end L2

namespace L2
open PySem PySem.Spec PyProof.Rows

section
variable {prog : Program} {w : World} {A : Around} {R : Result → Shared → Prop} {s : Shared} {elt t0 i0 t1 i1 : Expr} {ifs0 ifs1 : List Expr} {scope : Scope} {pos : Pos} {it acc : Value} {env : Env}
end

section
variable {X : Cx}
/-- [elt for tg in iter if .. for tg1 in iter1 if ..]: behind the first clause's store and tests the second source's own loop, from which Nx is reached. vs: the block's names; vs1: those of the second target -/
def tLc2 (wi : TI) (g : TG) (tt : TT) (wi1 : TI) (g1 : TG) (tt1 : TT) (te : TE) (vs vs1 : List Nat) : TE := fun σ H Q => wi σ H fun J H1 => ∀ D, H1 D = none → ∃ W : Nat → Nat → Hp → Prop, (∃ m, W 0 m (upd H1 D (.lst []))) ∧ ∀ i m H, W i m H →
  (J.stop i H ∧ Q (.ref D) H) ∨ (J.go i H ∧ ∃ Nx : Hp → Prop, (∀ H', Nx H' → ∃ m', m' < m ∧ W (i + 1) m' H') ∧ ∀ x H', J.yld i H x H' → g x (wipe σ vs) H' fun σ2 H2 => wipe σ2 vs = wipe σ vs ∧ tt σ2 H2 fun b H3 =>
    if b = true then wi1 σ2 H3 fun J1 H4 => ∃ W1 : Nat → Nat → Hp → Prop, (∃ m, W1 0 m H4) ∧ ∀ j k H, W1 j k H →
      (J1.stop j H ∧ Nx H) ∨ (J1.go j H ∧ ∃ Nx1 : Hp → Prop, (∀ H', Nx1 H' → ∃ k', k' < k ∧ W1 (j + 1) k' H') ∧ ∀ x H', J1.yld j H x H' → g1 x (wipe σ2 vs1) H' fun σ3 H5 => wipe σ3 vs1 = wipe σ2 vs1 ∧ tt1 σ3 H5 fun b H6 =>
        if b = true then te σ3 H6 fun y H7 => ∃ acc, H7 D = some (.lst acc) ∧ acc.length < sizeLine ∧ Nx1 (upd H7 D (.lst (acc ++ [y]))) else Nx1 H6)
    else Nx H3)
end
end L2

namespace L2
open PySem PySem.Spec PyProof.Rows

/-! ### lists of pairs as tables -/
section
variable {κ : Type} [DecidableEq κ]
def valV (kvs : List (κ × V)) (k : κ) : Option V := (kvs.find? fun kv => decide (kv.1 = k)).map (·.2)
/-- in its place, or at the end -/
def putK (kvs : List (κ × V)) (k : κ) (v : V) : List (κ × V) :=
  if (kvs.any fun kv => decide (kv.1 = k)) = true then kvs.map (fun kv => if kv.1 = k then (kv.1, v) else kv) else kvs ++ [(k, v)]
def dropK (kvs : List (κ × V)) (k : κ) : List (κ × V) := kvs.filter fun kv => decide (kv.1 ≠ k)

theorem valV_pos {p : κ × V} {r : List (κ × V)} {k : κ} (e : p.1 = k) : valV (p :: r) k = some p.2 := by simp [valV, List.find?_cons, e]
theorem valV_neg {p : κ × V} {r : List (κ × V)} {k : κ} (e : ¬ p.1 = k) : valV (p :: r) k = valV r k := by simp [valV, List.find?_cons, e]
theorem valV_any (k : κ) : ∀ kvs : List (κ × V), (kvs.any fun kv => decide (kv.1 = k)) = (valV kvs k).isSome
  | [] => rfl
  | p :: r => by
    rw [List.any_cons]
    by_cases e : p.1 = k
    · simp only [valV_pos e, decide_eq_true e, Bool.true_or, Option.isSome_some]
    · rw [valV_neg e, decide_eq_false e, Bool.false_or]; exact valV_any k r
theorem valV_map (k j : κ) (y : V) : ∀ kvs : List (κ × V), valV (kvs.map fun kv => if kv.1 = k then (kv.1, y) else kv) j = (valV kvs j).map fun x => if j = k then y else x
  | [] => rfl
  | p :: r => by
    have ih := valV_map k j y r
    rw [List.map_cons]
    by_cases h : p.1 = k
    · rw [if_pos h]
      by_cases e : p.1 = j
      · rw [valV_pos (p := (p.1, y)) e, valV_pos e, Option.map_some, if_pos (e.symm.trans h)]
      · rw [valV_neg (p := (p.1, y)) e, valV_neg e, ih]
    · rw [if_neg h]
      by_cases e : p.1 = j
      · rw [valV_pos (p := p) e, valV_pos e, Option.map_some, if_neg (fun z => h (e.trans z))]
      · rw [valV_neg (p := p) e, valV_neg e, ih]
theorem valV_snoc (k j : κ) (y : V) : ∀ kvs : List (κ × V), valV kvs k = none → valV (kvs ++ [(k, y)]) j = if j = k then some y else valV kvs j
  | [], _ => by
    by_cases e : k = j
    · rw [if_pos e.symm]; exact valV_pos (p := (k, y)) e
    · rw [if_neg (fun z => e z.symm)]; exact valV_neg (p := (k, y)) e
  | p :: r, hn => by
    rw [List.cons_append]
    have hk : ¬ p.1 = k := fun z => by rw [valV_pos z] at hn; cases hn
    rw [valV_neg hk] at hn
    have ih := valV_snoc k j y r hn
    by_cases e : p.1 = j
    · rw [valV_pos e, valV_pos e, if_neg (fun z => hk (e.trans z))]
    · rw [valV_neg e, valV_neg e, ih]
theorem valV_put (kvs : List (κ × V)) (k j : κ) (y : V) : valV (putK kvs k y) j = if j = k then some y else valV kvs j := by
  unfold putK
  by_cases a : (kvs.any fun kv => decide (kv.1 = k)) = true
  · rw [if_pos a, valV_map]
    rw [valV_any] at a
    by_cases e : j = k
    · obtain ⟨x, hx⟩ := Option.isSome_iff_exists.mp a
      rw [if_pos e, e, hx, Option.map_some, if_pos rfl]
    · rw [if_neg e]
      cases valV kvs j with
      | none => rfl
      | some x => rw [Option.map_some, if_neg e]
  · rw [if_neg a]
    refine valV_snoc k j y kvs ?_
    rw [valV_any] at a
    cases q : valV kvs k with
    | none => rfl
    | some x => rw [q] at a; exact (a rfl).elim
theorem length_putK (kvs : List (κ × V)) (k : κ) (v : V) : (putK kvs k v).length ≤ kvs.length + 1 := by
  unfold putK
  split
  · rw [List.length_map]; omega
  · rw [List.length_append, List.length_cons, List.length_nil]; omega
theorem RelO.isSome_eq {o : Option V} {u : Option Value} (r : RelO o u) : o.isSome = u.isSome := by
  cases o with
  | none => cases u with
    | none => rfl
    | some _ => exact (show False from r).elim
  | some _ => cases u with
    | none => exact (show False from r).elim
    | some _ => rfl
theorem RelO.getD {o : Option V} {u : Option Value} {d : V} {d' : Value} (r : RelO o u) (rd : RelV d d') : RelV (o.getD d) (u.getD d') := by
  cases o with
  | none => cases u with
    | none => exact rd
    | some _ => exact (show False from r).elim
  | some _ => cases u with
    | none => exact (show False from r).elim
    | some _ => exact r

/-- raw tables of the same keys -/
theorem KV.val {kvs : List (κ × V)} {vs : List (κ × Value)} (r : KV kvs vs) (k : κ) : RelO (valV kvs k) (valueAt vs k) := by
  unfold KV at r
  induction r with
  | nil => exact True.intro
  | @cons p q ps qs h t ih =>
    obtain ⟨h1, h2⟩ := h
    by_cases e : p.1 = k
    · have e' : q.1 = k := h1.symm.trans e
      have b : valueAt (q :: qs) k = some q.2 := by simp [valueAt, List.find?_cons, e']
      rw [valV_pos e, b]; exact h2
    · have e' : ¬ q.1 = k := fun z => e (h1.trans z)
      have b : valueAt (q :: qs) k = valueAt qs k := by simp [valueAt, List.find?_cons, e']
      rw [valV_neg e, b]; exact ih
theorem KV.any {kvs : List (κ × V)} {vs : List (κ × Value)} (r : KV kvs vs) (k : κ) : (kvs.any fun kv => decide (kv.1 = k)) = vs.any fun kv => decide (kv.1 = k) := by
  unfold KV at r
  induction r with
  | nil => rfl
  | cons h t ih => rw [List.any_cons, List.any_cons, ih, h.1]
theorem KV.repl {kvs : List (κ × V)} {vs : List (κ × Value)} (r : KV kvs vs) (k : κ) {y : V} {u : Value} (ry : RelV y u) :
    KV (kvs.map fun kv => if kv.1 = k then (kv.1, y) else kv) (vs.map fun kv => if kv.1 = k then (kv.1, u) else kv) := by
  unfold KV at r ⊢
  induction r with
  | nil => exact .nil
  | @cons p q ps qs h t ih =>
    rw [List.map_cons, List.map_cons]
    refine .cons ?_ ih
    obtain ⟨h1, h2⟩ := h
    by_cases e : p.1 = k
    · rw [if_pos e, if_pos (h1.symm.trans e)]; exact ⟨h1, ry⟩
    · rw [if_neg e, if_neg (fun z => e (h1.trans z))]; exact ⟨h1, h2⟩
theorem KV.put {kvs : List (κ × V)} {vs : List (κ × Value)} (r : KV kvs vs) (k : κ) {y : V} {u : Value} (ry : RelV y u) : KV (putK kvs k y) (stored vs k u) := by
  unfold putK stored
  rw [r.any k]
  by_cases e : (vs.any fun kv => decide (kv.1 = k)) = true
  · rw [if_pos e, if_pos e]; exact r.repl k ry
  · rw [if_neg e, if_neg e]; exact Paired.snoc r ⟨rfl, ry⟩
theorem KV.length {kvs : List (κ × V)} {vs : List (κ × Value)} (r : KV kvs vs) : kvs.length = vs.length := Paired.length r
end


/-! ### a tracked dict, its keys ints and texts or tuples of these -/
theorem kV_is {P : Program} {w : World} {k : Key} {u : Value} (r : RelV (kV k) u) : (mixKind P w).is k u = true := by
  cases k with
  | inl i => obtain ⟨t, e⟩ := (show ∃ t, u = Value.int i t from r); subst e; exact mixKind_int P w i t
  | inr x => obtain ⟨t, e⟩ := (show ∃ t, u = Value.str x t from r); subst e; exact mixKind_str P w x t
theorem items_are {P : Program} {w : World} : ∀ {ks : List Key} {us : List Value}, Vals (ks.map kV) us → ItemsAre (mixKind P w) ks us
  | [], _, r => by rw [List.map_nil] at r; cases r; exact .nil
  | k :: ks, _, r => by
    rw [List.map_cons] at r
    cases r with
    | cons h t => exact .cons (kV_is h) (items_are t)

/-- raw entries of a dict with tuple keys -/
abbrev KT (H : Hp) : List (List Key × V) → List (List Key × Addr × Value) → Prop := Paired fun p q => p.1 = q.1 ∧ H q.2.1 = some (.tup (p.1.map kV)) ∧ RelV p.2 q.2.2
theorem KT.val {H : Hp} {kvs : List (List Key × V)} {xs : List (List Key × Addr × Value)} (r : KT H kvs xs) (k : List Key) : RelO (valV kvs k) ((atKey xs k).map (·.2)) := by
  induction r with
  | nil => exact True.intro
  | @cons p q ps qs h t ih =>
    obtain ⟨h1, _, h2⟩ := h
    by_cases e : p.1 = k
    · have e' : q.1 = k := h1.symm.trans e
      have b : atKey (q :: qs) k = some q.2 := by simp [atKey, List.find?_cons, e']
      rw [valV_pos e, b]; exact h2
    · have e' : ¬ q.1 = k := fun z => e (h1.trans z)
      have b : atKey (q :: qs) k = atKey qs k := by simp [atKey, List.find?_cons, e']
      rw [valV_neg e, b]; exact ih
theorem KT.repl {H : Hp} {kvs : List (List Key × V)} {xs : List (List Key × Addr × Value)} (r : KT H kvs xs) (k : List Key) {y : V} {u : Value} (ry : RelV y u) :
    KT H (kvs.map fun kv => if kv.1 = k then (kv.1, y) else kv) (xs.map (putAt k u)) := by
  induction r with
  | nil => exact .nil
  | @cons p q ps qs h t ih =>
    rw [List.map_cons, List.map_cons]
    refine .cons ?_ ih
    obtain ⟨h1, h2, h3⟩ := h
    unfold putAt
    by_cases e : p.1 = k
    · rw [if_pos e, if_pos (h1.symm.trans e)]; exact ⟨h1, h2, ry⟩
    · rw [if_neg e, if_neg (fun z => e (h1.trans z))]; exact ⟨h1, h2, h3⟩
theorem KT.put {H : Hp} {kvs : List (List Key × V)} {xs : List (List Key × Addr × Value)} (r : KT H kvs xs) (k : List Key) {b : Addr} {y : V} {u : Value} (hb : H b = some (.tup (k.map kV))) (ry : RelV y u) :
    KT H (putK kvs k y) (storedH xs k b u) := by
  have e : (kvs.any fun kv => decide (kv.1 = k)) = (atKey xs k).isSome := by
    rw [valV_any, (r.val k).isSome_eq, Option.isSome_map]
  unfold putK storedH
  rw [e]
  by_cases q : (atKey xs k).isSome = true
  · rw [if_pos q, if_pos q]; exact r.repl k ry
  · rw [if_neg q, if_neg q]; exact Paired.snoc r ⟨rfl, hb, ry⟩
theorem KT.keeps {H H' : Hp} {kvs : List (List Key × V)} {xs : List (List Key × Addr × Value)} (r : KT H kvs xs) (ht : ∀ b ys, H b = some (.tup ys) → H' b = some (.tup ys)) : KT H' kvs xs :=
  Paired.mapP r fun _ _ z => ⟨z.1, ht _ _ z.2.1, z.2.2⟩

section
variable {P : Program} {w : World} {H : Hp} {h : Heap} {a : Addr}
theorem rd_of {u : HO} (ok : HOk P w H h) (e : Rd H a u) : ObjOk P w H h a u := e.ok ok
theorem dk_rd {kvs : List (Key × V)} (ok : HOk P w H h) (e : Rd H a (.dK kvs)) : kvs.length ≤ sizeLine ∧ (a == sysModules) = false ∧ ∃ vs, KV kvs vs ∧ h.DictOf (mixKind P w) a vs :=
  show ObjOk P w H h a (.dK kvs) from rd_of ok e
theorem dk_of {kvs : List (Key × V)} (ok : HOk P w H h) (e : H a = some (.dK kvs)) : kvs.length ≤ sizeLine ∧ (a == sysModules) = false ∧ ∃ vs, KV kvs vs ∧ h.DictOf (mixKind P w) a vs := dk_rd ok (.inl e)
/-- a tracked tuple of ints and texts is a key -/
theorem key_of {ks : List Key} (ok : HOk P w H h) (e : H a = some (.tup (ks.map kV))) : (tupleKind (mixKind P w)).is h ks a := by
  obtain ⟨_, its, r, o, h1, h2, n, h3⟩ := (show ObjOk P w H h a (.tup (ks.map kV)) from ok a _ e)
  exact ⟨o, its.toArray, n, h1, h2, h3, by simpa using items_are r⟩
theorem dt_rd {kvs : List (List Key × V)} (ok : HOk P w H h) (e : Rd H a (.dT kvs)) : kvs.length ≤ sizeLine ∧ (a == sysModules) = false ∧
    ∃ xs, KT H kvs xs ∧ h.DictOfH (tupleKind (mixKind P w)) a xs := by
  obtain ⟨z, y, xs, r, o, es, ep, h1, h2, h3, h4, h5⟩ := (show ObjOk P w H h a (.dT kvs) from rd_of ok e)
  refine ⟨z, y, xs, r, o, es, ep, h1, h2, h3, h4, fun x hx => ?_, h5⟩
  have all : ∀ {l : List (List Key × V)} {m : List (List Key × Addr × Value)}, KT H l m → ∀ x ∈ m, (tupleKind (mixKind P w)).is h x.1 x.2.1 := by
    intro l m q
    induction q with
    | nil => intro x hx; exact nomatch hx
    | @cons p q ps qs hq t ih =>
      intro x hx
      rcases List.mem_cons.mp hx with e | hx
      · subst e
        exact key_of ok (by rw [← hq.1]; exact hq.2.1)
      · exact ih x hx
  exact all r x hx
theorem dt_of {kvs : List (List Key × V)} (ok : HOk P w H h) (e : H a = some (.dT kvs)) : kvs.length ≤ sizeLine ∧ (a == sysModules) = false ∧
    ∃ xs, KT H kvs xs ∧ h.DictOfH (tupleKind (mixKind P w)) a xs := dt_rd ok (.inl e)
end

/-- what the dict at a holds at the key y -/
def DGet (H : Hp) (a : Addr) (y : V) (r : Option V) : Prop :=
  (∃ kvs k, Rd H a (.dK kvs) ∧ y = kV k ∧ r = valV kvs k) ∨ ∃ kvs k b, Rd H a (.dT kvs) ∧ y = .ref b ∧ H b = some (.tup (k.map kV)) ∧ r = valV kvs k
/-- the heap behind a[y] = v -/
def DPut (H : Hp) (a : Addr) (y v : V) (H' : Hp) : Prop :=
  (∃ kvs k, H a = some (.dK kvs) ∧ y = kV k ∧ kvs.length < sizeLine ∧ H' = upd H a (.dK (putK kvs k v))) ∨
  ∃ kvs k b, H a = some (.dT kvs) ∧ y = .ref b ∧ H b = some (.tup (k.map kV)) ∧ kvs.length < sizeLine ∧ H' = upd H a (.dT (putK kvs k v))
theorem DGet.k {H : Hp} {a : Addr} {kvs : List (Key × V)} {k : Key} (e : H a = some (.dK kvs)) : DGet H a (kV k) (valV kvs k) := .inl ⟨kvs, k, .inl e, rfl, rfl⟩
theorem DPut.k {H : Hp} {a : Addr} {kvs : List (Key × V)} {k : Key} {v : V} (e : H a = some (.dK kvs)) (hl : kvs.length < sizeLine) : DPut H a (kV k) v (upd H a (.dK (putK kvs k v))) := .inl ⟨kvs, k, e, rfl, hl, rfl⟩
section
variable {X : Cx} {pins : List (Addr × Obj)} {σ : St} {H : Hp} {s : Shared} {a : Addr} {y v : V} {u r : Value} {o : Option V} {A : Around} {E : Value → Shared → Prop}

theorem Inv.big (I : Inv X pins σ H s) : sysModules < s.heap.objs.size := by
  have h : mainGlobals < s.heap.objs.size := (I.mod.glob.keeps I.bk).lt
  exact Nat.lt_trans (by decide) h

/-- a dict's object is replaced -/
theorem d_write {h' : Heap} {t' : Nat} {ob : HO} (I : Inv X pins σ H s) (mu : Mut (H a)) (hs : Heap.SameBut a s.heap h') (he : ∃ q, h'.get? a = some q) (new : ObjOk X.prog X.w (upd H a ob) h' a ob) :
    Inv X pins σ (upd H a ob) { s with heap := h', toks := t' } :=
  I.write (x := a) (e := a) mu (.inl rfl) (fun b q hb z => (hs.2 b hb).trans z) he new
theorem dk_new {P : Program} {w : World} {H' : Hp} {h' : Heap} {kvs : List (Key × V)} {vs : List (Key × Value)} (z : kvs.length ≤ sizeLine) (hd : (a == sysModules) = false) (rel : KV kvs vs) (dd : h'.DictOf (mixKind P w) a vs) :
    ObjOk P w H' h' a (.dK kvs) := ⟨z, hd, vs, rel, dd⟩
/-- d[y] = v -/
theorem d_setItem {H' : Hp} {Q : Unit → Shared → Prop} (hu : A.units + 1 < cLine) (I : Inv X pins σ H s) (g : DPut H a y v H') (ry : RelV y u) (rv : RelV v r) (h : ∀ s', Inv X pins σ H' s' → Q () s') :
    wpAny (model X.prog X.w) A (setItem (.ref a) u r) Q E s := by
  rcases g with ⟨kvs, k, e, ey, l, eH⟩ | ⟨kvs, k, b, e, ey, eb, l, eH⟩
  · subst ey eH
    obtain ⟨z, hd, vs, rel, dd⟩ := dk_of I.hok e
    have hz : vs.length ≤ sizeLine := by rw [← rel.length]; exact z
    have hl : (putK kvs k v).length ≤ sizeLine := by have := length_putK kvs k v; omega
    refine wpAny_setItem_pairs (hsz := hz) (kV_is ry) dd fun h' dd' hs => h _ ?_
    have he : ∃ q, h'.get? a = some q := let ⟨q, _, _, hq, _⟩ := dd'; ⟨q, hq⟩
    exact d_write I (by rw [e]; exact True.intro) hs he (dk_new hl hd (rel.put k rv) dd')
  · subst ey eH
    cases (show u = Value.ref b from ry)
    obtain ⟨z, hd, xs, rel, dd⟩ := dt_of I.hok e
    have hz : xs.length ≤ sizeLine := by rw [← Paired.length rel]; exact z
    have hl : (putK kvs k v).length ≤ sizeLine := by have := length_putK kvs k v; omega
    refine wpAny_setItem_heap (hsz := hz) (tupleKind_room_in1 hu) (key_of I.hok eb) dd fun h' dd' hs => h _ ?_
    obtain ⟨q, es, ep, hq, h2, h3, h4, _, h5⟩ := dd'
    refine d_write I (by rw [e]; exact True.intro) hs ⟨q, hq⟩ ⟨hl, hd, _, (rel.put k eb rv).keeps fun c ys ec => ?_, q, es, ep, hq, h2, h3, h4, h5⟩
    rw [upd_ne (ne_of ec e (fun z => nomatch z))]
    exact ec
end

section
variable {X : Cx} {pins : List (Addr × Obj)} {σ : St} {H : Hp} {s : Shared} {a : Addr} {kvs : List (Key × V)} {k : Key} {u : Value} {A : Around} {E : Value → Shared → Prop}
end


/-! ### readings and rules -/
/-- the element of a subscription, not a slice -/
def NoSl (i : Expr) : Prop := ∀ ov iv, subscripted i false ov iv = operate [ov, iv] (getItem ov iv)
/-- d[y] -/
def tDGet (td ty : TE) : TE := fun σ H Q => td σ H fun x H1 => ty σ H1 fun y H2 => ∃ a v, x = .ref a ∧ DGet H2 a y (some v) ∧ Q v H2
/-- y in d, y not in d -/
def tDIn (ty td : TE) : TE := fun σ H Q => ty σ H fun y H1 => td σ H1 fun x H2 => ∃ a o, x = .ref a ∧ DGet H2 a y o ∧ Q (.bl o.isSome) H2
def tDNotIn (ty td : TE) : TE := fun σ H Q => ty σ H fun y H1 => td σ H1 fun x H2 => ∃ a o, x = .ref a ∧ DGet H2 a y o ∧ Q (.bl (!o.isSome)) H2
/-- d[y] = v -/
def sDPut (td ty tv : TE) : TS := fun D σ H => tv σ H fun v H1 => td σ H1 fun x H2 => ty σ H2 fun y H3 => ∃ a H4, x = .ref a ∧ DPut H3 a y v H4 ∧ D.nx σ H4
/-- d[y] op= v -/
def sDAug (td ty tv : TE) (rd : V → V → Hp → VK → Prop) : TS := fun D σ H => td σ H fun x H1 => ty σ H1 fun y H2 => ∃ a v, x = .ref a ∧ DGet H2 a y (some v) ∧
  tv σ H2 fun y2 H3 => rd v y2 H3 fun z H4 => ∃ H5, DPut H4 a y z H5 ∧ D.nx σ H5
/-- del d[y] -/
def sDDel (td ty : TE) : TS := fun D σ H => td σ H fun x H1 => ty σ H1 fun y H2 => ∃ a kvs k, x = .ref a ∧ H2 a = some (.dK kvs) ∧ y = kV k ∧ (valV kvs k).isSome = true ∧ D.nx σ (upd H2 a (.dK (dropK kvs k)))

section
variable {X : Cx} {o i e value : Expr} {pos pos' tpos : Pos} {td ty tv : TE}
theorem ps_dput (hu : X.A.units + 1 < cLine) (ho : PE X o td) (hi : PE X i ty) (hv : PE X value tv) (hs : swapsWith value (some (.Subscript o i pos')) pos.line X.env = pure false) :
    PS X (.Assign [.Subscript o i pos'] value pos) (sDPut td ty tv) := by
  intro pins s σ H D I h
  refine wpAny_Assign_Subscript (thn (hv pins s σ H _ I h) fun r s1 ⟨v, H1, I1, rv, q1⟩ => thn (ho pins s1 σ H1 _ I1 q1) fun u s2 ⟨x, H2, I2, rx, q2⟩ => thn (hi pins s2 σ H2 _ I2 q2) fun iv s3 ⟨y, H3, I3, ry, a, H4, ex, g, q3⟩ => ?_) hs
  subst ex
  obtain rfl : u = Value.ref a := rx
  exact d_setItem hu I3 g ry rv fun s4 I4 => ⟨σ, H4, I4, q3⟩
end


/-! ### displays -/
theorem dk_empty {P : Program} {w : World} {H : Hp} (h : Heap) (hb : sysModules < h.objs.size) : ObjOk P w H (h.push { cls := .type "dict", data := .dict #[] }) h.objs.size (.dK []) :=
  ⟨Nat.zero_le _, beq_eq_false_iff_ne.mpr (Ne.symm (Nat.ne_of_lt hb)), [], .nil, Heap.DictOf.new h⟩
/-- {}, to be a dict of the kind that is wanted -/
def tDNewK : TE := fun _ H Q => ∀ p, H p = none → Q (.ref p) (upd H p (.dK []))
def tDNewT : TE := fun _ H Q => ∀ p, H p = none → Q (.ref p) (upd H p (.dT []))
section
variable {X : Cx} {pos : Pos}
theorem pe_dnewK : PE X (.Dict [] [] pos) tDNewK := fun pins s σ H Q I h =>
  wpAny_Dict_empty ⟨.ref s.heap.objs.size, _, I.laid (a := s.heap.objs.size) (o := .dK []) (t' := s.toks) (fun _ _ q => Heap.get?_push_of_some _ q) (Nat.le_refl _) (dk_empty s.heap I.big), rfl, h _ (I.hok.fresh (Nat.le_refl _))⟩
end

/-- the pairs of a display, from the left -/
def tPairs : List (TE × TE) → St → Hp → (List (V × V) → Hp → Prop) → Prop
  | [], _, H, Q => Q [] H
  | (tk, tv) :: r, σ, H, Q => tk σ H fun x H1 => tv σ H1 fun y H2 => tPairs r σ H2 fun ps H3 => Q ((x, y) :: ps) H3
abbrev VV : List (V × V) → List (Value × Value) → Prop := Paired fun p q => RelV p.1 q.1 ∧ RelV p.2 q.2
def PPs (X : Cx) (pos : Pos) (keys : List (Option Expr)) (values : List Expr) (trs : List (TE × TE)) : Prop :=
  ∀ (pins : List (Addr × Obj)) (s : Shared) (σ : St) (H : Hp) (Q : List (V × V) → Hp → Prop), Inv X pins σ H s → tPairs trs σ H Q →
    wpAny (model X.prog X.w) X.A (evalPairs (pairTrees keys values X.env pos)) (fun vs s' => ∃ ps H', Inv X pins σ H' s' ∧ VV ps vs ∧ Q ps H') X.xe s
def mergeK (kvs more : List (Key × V)) : List (Key × V) := more.foldl (fun acc kv => putK acc kv.1 kv.2) kvs
/-- {k: v, ..} with keys ints and texts; the new dict stands empty while the pairs are made -/
def tDisp (trs : List (TE × TE)) : TE := fun σ H Q => ∀ p, H p = none → tPairs trs σ (upd H p (.dK [])) fun ps H2 => H2 p = some (.dK []) ∧ ∃ kvs : List (Key × V), ps = kvs.map (fun kv => (kV kv.1, kv.2)) ∧ kvs.length ≤ 15 ∧ Q (.ref p) (upd H2 p (.dK (mergeK [] kvs)))
/-! ### methods -/
/-- a method call o.m(e) of a built-in, with one argument: what must be seen of the text -/
structure M1 (X : Cx) (o : Expr) (m : Str) (apos : Pos) (e : Expr) (cpos : Pos) : Prop where
  base : attributeBase o m X.env (eval o X.env) = eval o X.env
  few : ((backTo cpos (starEach [e] X.env)).all (fun x => !x.1) && (backToKw cpos (keywordEach [] X.env)).all (fun x => x.1.isSome)
    && decide (([e] : List Expr).length + ([] : List Keyword).length + (if ([] : List Keyword).isEmpty then 0 else 1) < 30)) = true
  line : (apos.endLine == cpos.line) = true
  trees : backTo cpos (starEach [e] X.env) = [(false, eval e X.env)]
structure M2 (X : Cx) (o : Expr) (m : Str) (apos : Pos) (e f : Expr) (cpos : Pos) : Prop where
  base : attributeBase o m X.env (eval o X.env) = eval o X.env
  few : ((backTo cpos (starEach [e, f] X.env)).all (fun x => !x.1) && (backToKw cpos (keywordEach [] X.env)).all (fun x => x.1.isSome)
    && decide (([e, f] : List Expr).length + ([] : List Keyword).length + (if ([] : List Keyword).isEmpty then 0 else 1) < 30)) = true
  line : (apos.endLine == cpos.line) = true
  trees : backTo cpos (starEach [e, f] X.env) = [(false, eval e X.env), (false, eval f X.env)]

/-- a is a dict, whatever its keys -/
def IsD (H : Hp) (a : Addr) : Prop := (∃ kvs, Rd H a (.dK kvs)) ∨ ∃ kvs, Rd H a (.dT kvs)
theorem isD_at {X : Cx} {pins : List (Addr × Obj)} {σ : St} {H : Hp} {s : Shared} {a : Addr} (I : Inv X pins σ H s) (d : IsD H a) :
    s.TypeIs (.ref a) "dict" ∧ (∀ b, Value.ref a = .ref b → ∃ ob, s.heap.get? b = some ob ∧ ob.dict = none) ∧ (a == sysModules) = false := by
  rcases d with ⟨kvs, e⟩ | ⟨kvs, e⟩
  · obtain ⟨_, hd, vs, _, dd⟩ := dk_rd I.hok e
    refine ⟨dd.typeIs, fun b q => ?_, hd⟩
    cases q
    obtain ⟨ob, _, _, h1, h2, _⟩ := dd
    exact ⟨ob, h1, h2.2.1⟩
  · obtain ⟨_, hd, xs, _, dd⟩ := dt_rd I.hok e
    refine ⟨dd.typeIs, fun b q => ?_, hd⟩
    cases q
    obtain ⟨ob, _, _, h1, h2, _⟩ := dd
    exact ⟨ob, h1, h2.2.1⟩

section
variable {X : Cx} {pins : List (Addr × Obj)} {σ : St} {H : Hp} {s : Shared} {a : Addr} {y d : V} {u r : Value} {o : Option V} {A : Around} {E : Value → Shared → Prop}
/-- d.get(y, x) -/
theorem d_get2 {Q : Value → Shared → Prop} (hu : A.units + 1 < cLine) (I : Inv X pins σ H s) (g : DGet H a y o) (ry : RelV y u) (rd : RelV d r) (h : ∀ w' s', Inv X pins σ H s' → RelV (o.getD d) w' → Q w' s') :
    wpAny (model X.prog X.w) A (call (.builtin "dict.get") [.ref a, u, r]) Q E s := by
  rcases g with ⟨kvs, k, e, ey, l⟩ | ⟨kvs, k, b, e, ey, eb, l⟩
  · subst ey
    obtain ⟨z, hd, vs, rel, dd⟩ := dk_rd I.hok e
    refine call_meetsIn PySem.F.slot_dict_get dd.typeIs PySem.F.entry_dict_get (PySem.F.args_dict_get_3 _ _ _) (meets_dict_get_default (mixKind X.prog X.w) a (kV_is ry) hd r) ⟨_, dd.mapOf, h _ _ (I.tok _) ?_⟩
    rw [l]
    exact (rel.val k).getD rd
  · subst ey
    cases (show u = Value.ref b from ry)
    obtain ⟨z, hd, xs, rel, dd⟩ := dt_rd I.hok e
    refine call_meetsIn PySem.F.slot_dict_get dd.typeIs PySem.F.entry_dict_get (PySem.F.args_dict_get_3 _ _ _) (meetsH_dict_get_default (tupleKind (mixKind X.prog X.w)) a b hd r) ⟨tupleKind_room_in1 hu, k, xs, key_of I.hok eb, dd, h _ _ (I.tok _) ?_⟩
    rw [l]
    exact (rel.val k).getD rd
end

def tDGet1 (td ty : TE) : TE := fun σ H Q => td σ H fun x H1 => ∃ a, x = .ref a ∧ IsD H1 a ∧ ty σ H1 fun y H2 => ∃ o, DGet H2 a y o ∧ Q (o.getD .non) H2
def tDGet2 (td ty tx : TE) : TE := fun σ H Q => td σ H fun x H1 => ∃ a, x = .ref a ∧ IsD H1 a ∧ ty σ H1 fun y H2 => tx σ H2 fun z H3 => ∃ o, DGet H3 a y o ∧ Q (o.getD z) H3
/-- d.pop(k): there; d.pop(k, x): there or not -/
def tDPop1 (td ty : TE) : TE := fun σ H Q => td σ H fun x H1 => ∃ a, x = .ref a ∧ IsD H1 a ∧ ty σ H1 fun y H2 => ∃ kvs k v, H2 a = some (.dK kvs) ∧ y = kV k ∧ valV kvs k = some v ∧ Q v (upd H2 a (.dK (dropK kvs k)))
def tDPop2 (td ty tx : TE) : TE := fun σ H Q => td σ H fun x H1 => ∃ a, x = .ref a ∧ IsD H1 a ∧ ty σ H1 fun y H2 => tx σ H2 fun z H3 => ∃ kvs k, H3 a = some (.dK kvs) ∧ y = kV k ∧
  (∀ v, valV kvs k = some v → Q v (upd H3 a (.dK (dropK kvs k)))) ∧ (valV kvs k = none → Q z H3)
section
variable {X : Cx} {o e f : Expr} {apos cpos : Pos} {td ty tx : TE}
theorem pe_dget2 (hu : X.A.units + 1 < cLine) (ho : PE X o td) (he : PE X e ty) (hf : PE X f tx) (m : M2 X o "get" apos e f cpos) : PE X (.Call (.Attribute o "get" apos) [e, f] [] cpos) (tDGet2 td ty tx) := by
  intro pins s σ H Q I h
  refine wpAny_Call_method m.base m.few m.line PySem.F.plainAttrs_dict PySem.F.slot_dict_get PySem.F.type_dict_get (thn (ho pins s σ H _ I h) fun u s1 ⟨x, H1, I1, rx, a, ex, d, q1⟩ => ?_)
  subst ex
  obtain rfl : u = Value.ref a := rx
  obtain ⟨t1, t2, _⟩ := isD_at I1 d
  refine ⟨t1, t2, ?_⟩
  rw [m.trees]
  refine Calls.callWith_builtin rfl (Calls.evalArgs_plain (Calls.spliced_cons (thn (he pins s1 σ H1 _ I1 q1) fun iv s2 ⟨y, H2, I2, ry, q2⟩ =>
    Calls.spliced_cons (thn (hf pins s2 σ H2 _ I2 q2) fun fv s3 ⟨z, H3, I3, rz, ov, g, q3⟩ => Calls.spliced_nil ?_))))
  exact d_get2 hu I3 g ry rz fun w' s4 I4 rw' => ⟨_, H3, I4, rw', q3⟩
end

/-! ### dict(d): a copy -/
section
variable {X : Cx} {pins : List (Addr × Obj)} {σ : St} {H : Hp} {s : Shared} {a : Addr} {kvs : List (Key × V)} {A : Around} {E : Value → Shared → Prop}
end


section
variable {X : Cx} {pins : List (Addr × Obj)} {σ : St} {H : Hp} {s : Shared} {a : Addr} {y : V} {u : Value} {A : Around} {E : Value → Shared → Prop}
end
end L2

namespace L2
open PySem PySem.Spec PyProof.Rows

section
variable {prog : Program} {w : World} {A : Around} {E : Value → Shared → Prop}
end

section
variable {X : Cx}
end
end L2

namespace L2
open PySem PySem.Spec PyProof.Rows

section
variable {X : Cx} {pins : List (Addr × Obj)} {σ : St} {H : Hp} {s : Shared} {h' : Heap}
/-! ### locking a thing while a statement runs -/
end
/-- the statement runs while the thing at d is locked (read, not written); d and what stands there are the reading's choice -/
def tLock (t : TS) : TS := fun D σ H => ∃ d u, H d = some u ∧ Mut (some u) ∧ ∀ od, t ⟨fun σ' H' => H' d = some (.frz od u) ∧ D.nx σ' (upd H' d u), fun v H' => H' d = some (.frz od u) ∧ D.rt v (upd H' d u), fun σ' H' => H' d = some (.frz od u) ∧ D.bk σ' (upd H' d u), fun σ' H' => H' d = some (.frz od u) ∧ D.ct σ' (upd H' d u)⟩ σ (upd H d (.frz od u))
def tLockE (t : TE) : TE := fun σ H Q => ∃ d u, H d = some u ∧ Mut (some u) ∧ ∀ od, t σ (upd H d (.frz od u)) fun v H' => H' d = some (.frz od u) ∧ Q v (upd H' d u)
section
variable {X : Cx}
/-! ### one iterator just laid -/
end

/-! ### range with a step -/
/-- lo, lo + c, .. (n of them) -/
def Itc (lo c : Int) (n : Nat) : It := ⟨fun i _ => i < n, fun i H x H' => H' = H ∧ x = .int (lo + (i : Nat) * c), fun i _ => n ≤ i⟩
/-- range(i, j, c): small bounds, n items -/
def RgC (i j c : Int) (n : Nat) : Prop := c ≠ 0 ∧ c.natAbs < 1073741824 ∧ Builtin.Range.small i j c = true ∧ Builtin.Range.rangeSize i j c = n
def iRng3 (ta : TA) : TI := fun σ H R => ta σ H fun vs H1 => ∃ (i j c : Int) (n : Nat), vs = [.int i, .int j, .int c] ∧ RgC i j c n ∧ R (Itc i c n) H1
section
variable {X : Cx} {tg : Expr}
end
/-! ### reversed(list) -/
/-- the list at a (n items at the start, which the loop leaves there), from its end -/
def Itv (K : PySem.W.Frag) (a : Addr) (n : Nat) : It :=
  ⟨fun i H => i < n ∧ ∃ (xs : List V) (x : V), SqL K H a xs ∧ xs[n - 1 - i]? = some x, fun i H x H' => H' = H ∧ ∀ xs, SqL K H a xs → xs[n - 1 - i]? = some x, fun i _ => n ≤ i⟩
def iRev (K : PySem.W.Frag) (ta : TA) : TI := fun σ H R => ta σ H fun vs H1 => ∃ (a : Addr) (xs : List V), vs = [.ref a] ∧ SqL K H1 a xs ∧ R (Itv K a xs.length) H1
section
variable {X : Cx} {tg : Expr}
end

/-! ### a str -/
def Its (x : Str) : It := ⟨fun i _ => i < x.cps.size, fun i H v H' => H' = H ∧ ∃ c, x.cps[i]? = some c ∧ v = .str ⟨#[c]⟩, fun i _ => x.cps.size ≤ i⟩
def iStr (te : TE) : TI := fun σ H R => te σ H fun v H1 => ∃ x, v = .str x ∧ R (Its x) H1
/-! ### a dict's keys: any dict's entries -/
section
variable {prog : Program} {w : World} {A : Around} {E : Value → Shared → Prop} {s : Shared}
end

/-! ### a locked dict -/
section
variable {X : Cx} {pins : List (Addr × Obj)} {σ : St} {H : Hp} {s : Shared} {d : Addr} {o : Obj}
end

/-- the keys of the locked dict at d, in their order -/
def Itk (d : Addr) (o : Obj) (kvs : List (Key × V)) : It :=
  ⟨fun i H => H d = some (.frz o (.dK kvs)) ∧ i < kvs.length, fun i H x H' => H' = H ∧ ∃ k v, kvs[i]? = some (k, v) ∧ x = kV k, fun i H => H d = some (.frz o (.dK kvs)) ∧ kvs.length ≤ i⟩
/-- .. of tuple keys: the key's own tuple -/
def Itkt (d : Addr) (o : Obj) (kvs : List (List Key × V)) : It :=
  ⟨fun i H => H d = some (.frz o (.dT kvs)) ∧ i < kvs.length, fun i H x H' => H' = H ∧ ∃ (k : List Key) (v : V) (q : Addr), kvs[i]? = some (k, v) ∧ x = .ref q ∧ H q = some (.tup (k.map kV)), fun i H => H d = some (.frz o (.dT kvs)) ∧ kvs.length ≤ i⟩
/-- the values -/
def Itd (d : Addr) (o : Obj) (kvs : List (Key × V)) : It :=
  ⟨fun i H => H d = some (.frz o (.dK kvs)) ∧ i < kvs.length, fun i H x H' => H' = H ∧ ∃ k, kvs[i]? = some (k, x), fun i H => H d = some (.frz o (.dK kvs)) ∧ kvs.length ≤ i⟩
/-- the pairs, each a new tuple -/
def Iti (d : Addr) (o : Obj) (kvs : List (Key × V)) : It :=
  ⟨fun i H => H d = some (.frz o (.dK kvs)) ∧ i < kvs.length, fun i H x H' => ∃ T k v, kvs[i]? = some (k, v) ∧ x = .ref T ∧ H T = none ∧ H' = upd H T (.tup [kV k, v]), fun i H => H d = some (.frz o (.dK kvs)) ∧ kvs.length ≤ i⟩
section
variable {P : Program} {w : World} {K : PySem.W.Frag} {tg : Expr} {d : Addr} {o : Obj} {es : Array DictEntry} {ep : Nat}
end

/-! ### for k in d, d.keys(), d.values(), d.items() -/
/-- the dict is locked (tLock, or by the caller) -/
def iKeys (td : TE) : TI := fun σ H R => td σ H fun x H1 => ∃ d o, x = .ref d ∧ ((∃ kvs, H1 d = some (.frz o (.dK kvs)) ∧ R (Itk d o kvs) H1) ∨ ∃ kvs, H1 d = some (.frz o (.dT kvs)) ∧ R (Itkt d o kvs) H1)
def iVals (td : TE) : TI := fun σ H R => td σ H fun x H1 => ∃ d o kvs, x = .ref d ∧ H1 d = some (.frz o (.dK kvs)) ∧ R (Itd d o kvs) H1
def iItems (td : TE) : TI := fun σ H R => td σ H fun x H1 => ∃ d o kvs, x = .ref d ∧ H1 d = some (.frz o (.dK kvs)) ∧ R (Iti d o kvs) H1
def iKeysM (td : TE) : TI := fun σ H R => td σ H fun x H1 => ∃ d o kvs, x = .ref d ∧ H1 d = some (.frz o (.dK kvs)) ∧ R (Itk d o kvs) H1
section
variable {X : Cx} {tg e : Expr} {td : TE} {apos cpos : Pos}
end

/-! ### enumerate(list) -/
/-- the list at a as it stands at each turn, each item in a new pair -/
def Ite (K : PySem.W.Frag) (a : Addr) : It :=
  ⟨fun i H => ∃ (xs : List V) (x : V), SqL K H a xs ∧ xs[i]? = some x, fun i H v H' => ∃ T x, v = .ref T ∧ H T = none ∧ H' = upd H T (.tup [.int (i : Nat), x]) ∧ ∀ xs, SqL K H a xs → xs[i]? = some x, fun i H => ∃ xs : List V, SqL K H a xs ∧ xs.length ≤ i⟩
def iEnum (K : PySem.W.Frag) (ta : TA) : TI := fun σ H R => ta σ H fun vs H1 => ∃ a xs, vs = [.ref a] ∧ SqL K H1 a xs ∧ R (Ite K a) H1
/-! ### zip(list, list) -/
/-- the lists at a and b as they stand at each turn, the items in new pairs -/
def Itz (K : PySem.W.Frag) (a b : Addr) : It :=
  ⟨fun i H => ∃ (xs ys : List V) (x y : V), SqL K H a xs ∧ SqL K H b ys ∧ xs[i]? = some x ∧ ys[i]? = some y,
    fun i H v H' => ∃ T x y, v = .ref T ∧ H T = none ∧ H' = upd H T (.tup [x, y]) ∧ (∀ xs, SqL K H a xs → xs[i]? = some x) ∧ ∀ ys, SqL K H b ys → ys[i]? = some y,
    fun i H => ∃ xs ys : List V, SqL K H a xs ∧ SqL K H b ys ∧ (xs.length ≤ i ∨ ys.length ≤ i)⟩
def iZip (K : PySem.W.Frag) (ta : TA) : TI := fun σ H R => ta σ H fun vs H1 => ∃ a b xs ys, vs = [.ref a, .ref b] ∧ SqL K H1 a xs ∧ SqL K H1 b ys ∧ R (Itz K a b) H1
end L2

section 
namespace Bits
open PySem PyProof.Rows

end Bits
end 

section 
namespace TL
open PySem PySem.Builtin PySem.Builtin.Str PySem.StrLaws

abbrev tl (x : Str) : List Nat := x.cps.toList
/-! ### the list functions -/
/-- S stands at the head of l -/
def pre (S l : List Nat) : Bool := l.take S.length == S
/-- l cut at each S from the left; k signs are still to be passed over -/
def spl (S : List Nat) : Nat → List Nat → List Nat → List (List Nat)
  | _, acc, [] => [acc]
  | 0, acc, c :: r => if pre S (c :: r) = true then acc :: spl S (S.length - 1) [] r else spl S 0 (acc ++ [c]) r
  | k + 1, acc, _ :: r => spl S k acc r
/-- what stands before the first S, and behind it -/
def par (S : List Nat) : List Nat → List Nat → Option (List Nat × List Nat)
  | _, [] => none
  | acc, c :: r => if pre S (c :: r) = true then some (acc, (c :: r).drop S.length) else par S (acc ++ [c]) r

/-! ### the model's split and partition are these -/
/-! ### computing spl and par -/
/-- joined lists -/
def joinL (S : List Nat) : List (List Nat) → List Nat
  | [] => []
  | [p] => p
  | p :: q :: r => p ++ (S ++ joinL S (q :: r))
/-! ### digits -/
/-- the signs of a number -/
def numL (n : Nat) : List Nat := (Nat.toDigits 10 n).map Char.toNat
/-! ### words: x.split() -/
def wstep (st : List (List Nat) × List Nat) (c : Nat) : List (List Nat) × List Nat :=
  if Unicode.isSpace c = true then (if st.2 = [] then st else (st.1 ++ [st.2], [])) else (st.1, st.2 ++ [c])
def wfin (st : List (List Nat) × List Nat) : List (List Nat) := if st.2 = [] then st.1 else st.1 ++ [st.2]
end TL
end 

namespace L2
open PySem PySem.Spec PyProof.Rows

/-- a new list of texts, tracked -/
def rNewStrs (ys : List Str) : Hp → VK → Prop := fun H Q => ∀ p, H p = none → Q (.ref p) (upd H p (.lst (ys.map V.str)))

section
variable {X : Cx} {pins : List (Addr × Obj)} {σ : St} {H : Hp} {s : Shared} {Q : VK}
end

section
variable {X : Cx}

/-! ### of a text alone -/
/-! ### of a text and a text -/
end

section
variable {X : Cx} {o e : Expr} {to te : TE}
def tM0 (r : V → List V → Hp → VK → Prop) (to : TE) : TE := fun σ H Q => to σ H fun x H1 => (∃ a, x = .str a) ∧ r x [] H1 Q
def tM1 (r : V → List V → Hp → VK → Prop) (to te : TE) : TE := fun σ H Q => to σ H fun x H1 => (∃ a, x = .str a) ∧ te σ H1 fun y H2 => r x [y] H2 Q
end
end L2

namespace L2
open PySem PySem.Spec PyProof.Rows

section
variable {X : Cx}
end

/-! ### slices of a text -/
/-- a part, clipped, as the text's slice reckons it -/
def clipS (n d : Nat) : Option Int → Int
  | none => (d : Int)
  | some i => max 0 (min (if i < 0 then i + (n : Int) else i) (n : Int))
/-- z[lo:hi] -/
def cutS (z : Str) (lo hi : Option Int) : Str :=
  ⟨((z.cps.toList.drop (HT.sIx z.length 0 lo)).take (HT.sIx z.length z.length hi - HT.sIx z.length 0 lo)).toArray⟩
def rSlS : V → Option Int → Option Int → Hp → VK → Prop := fun x lo hi H Q => ∃ z, x = .str z ∧ z.length ≤ sizeLine ∧ Q (.str (cutS z lo hi)) H
end L2

namespace Att
open PySem PySem.W PySem.Calls PyProof.Rows

/-! ### the script -/
/-! ### the attachment: holds_open's last premise (the goal 'hc' behind k_head) from a wpAny of the law's body -/
/-! ### rules over ANY heap (no ledger) from facts about the written part K: the library's own take a ledger (News) for what they write -/
section
variable {prog : Program} {w : World} {A : Around} {E : Value → Shared → Prop} {s : Shared} {K : Frag}

/-! the whole heap as the ledger: makes every rule that writes through a ledger a rule over any heap -/
def noObjs (h : Heap) : Heap := { h with objs := #[] }
def ledger (h : Heap) (L d : Addr) : List (Addr × Obj) := (List.range h.objs.size).filterMap fun a => if a = L ∨ a = d then none else (h.get? a).map fun o => (a, o)
end
end Att

namespace L2
open PySem PySem.Spec PyProof.Rows

/-- nothing is tracked but the script, known to the object (or it is an object of the module) -/
def Only (H : Hp) : Prop := ∀ b, H b = none ∨ ∃ o xs, H b = some (.frz o (.lst xs))

end L2

namespace L2
open PySem PySem.Spec PyProof.Rows

abbrev KOf {K : PySem.W.Frag} {h : Heap} (_ : K.In h) : PySem.W.Frag := K

end L2

/- THE LAST THEOREM (shape; LID, My.* are yours):
   My.Adr: a structure of the addresses that your layer names (classes, functions); My.Txt K t: a structure (Prop) of the equations over K;
   My.txt_mk : {K} {implicit addresses ..} (e1 : nsIn K mainGlobals "law" = some (some (.ref f))) (e2 : K.lookup f = some ⟨oc, od, .func (fnOf "law" "law" params body scope dV kV doc pm an cdv ct), sl⟩) (e3 : codeIn K cdv "law" = true) .. : ∃ t, My.Txt K t

set_option maxRecDepth 100000 in
set_option maxHeartbeats 0 in
(the tactic k_is has no namespace: write k_is) -/

/-! SHORT WORDS over the layer: a def of the text, its body, what a loop and a test want. -/
namespace L2
open PySem PySem.Spec PyProof.Rows

/-! ### the text by places -/
/-- the j-th statement of a class's body -/
def inClass (s : Stmt) (j : Nat) : Stmt := match s with
  | .ClassDef _ _ _ body _ _ _ _ _ _ _ => body.getD j (.Pass ⟨0, 0, 0, 0⟩)
  | _ => .Pass ⟨0, 0, 0, 0⟩
def defArgs (s : Stmt) : Arguments := match s with
  | .FunctionDef _ a _ _ _ _ _ _ _ _ => a
  | _ => { posonlyargs := [], args := [], vararg := none, kwonlyargs := [], kw_defaults := [], kwarg := none, defaults := [] }
def defBody (s : Stmt) : List Stmt := match s with
  | .FunctionDef _ _ b _ _ _ _ _ _ _ => b
  | _ => []
def defScope (s : Stmt) : Scope := match s with
  | .FunctionDef _ _ _ _ _ _ sc _ _ _ => sc
  | _ => { kind := .function, names := [], isGenerator := false, isCoroutine := false }

/-! ### no exception leaves a def -/
abbrev CX0 : CXT := fun _ _ _ _ _ _ => False
abbrev E0 : XK := fun _ _ _ => False
theorem pass0 {X : Cx} : Passes CX0 X E0 := fun _ _ _ _ _ _ _ h => h.elim

/-! ### a def (or method) of the text as it stands behind the top -/
structure Fun (K : PySem.W.Frag) (x qual : Str) (st : Stmt) (f : Addr) (fd : FuncData) : Prop where
  ex : ∃ (oc : Value) (od : Option Addr) (kV doc pm : Value) (an : Option Addr) (cdv ct : Value) (osl : Array (Option Value)),
    fd = PySem.W.fnOf x qual (defArgs st) (defBody st) (defScope st) .none kV doc pm an cdv ct ∧ K.lookup f = some ⟨oc, od, .func fd, osl⟩ ∧ PySem.W.codeIn K cdv qual = true
  kp : PySem.W.keepIn K (.ref f) = true
section
variable {P : Program} {w : World} {K : PySem.W.Frag} {mg : Str → Option Value} {base : Heap}
/-- THE RULE for a def: its body as a term of rules, and the reading of that term -/
theorem Fun.ok {x qual : Str} {st : Stmt} {f : Addr} {fd : FuncData} {N ps : List Str} {k : Nat} {sp : Sp} (F : Fun K x qual st f fd) (S : FnScope N ps (defScope st)) (len : ∀ vs H Q E, sp vs H Q E → vs.length = ps.length)
    (hbody : ∀ (cdv : Value) (A : Around) (outer : List Env) (s : Shared) (H : Hp) (vs : List V) (Q : VK) (E : XK), Room k (A.deeper (envOfC qual (defScope st) s.heap.objs.size f cdv)) → sp vs H Q E →
      ∃ t, PSs (cxOf CX0 P w K mg base N qual (defScope st) f cdv A outer s H E).nox (defBody st) t ∧ t { nx := fun _ H' => Q .non H', rt := Q } (start N vs) H) : FnOk P w K mg base CX0 (k + 1) f fd ps sp := by
  obtain ⟨oc, od, kV, doc, pm, an, cdv, ct, osl, rfl, lk, hcd⟩ := F.ex
  refine fn_of lk hcd S len fun A outer s H vs Q E hr hsp => ?_
  obtain ⟨t, h, q⟩ := hbody cdv A outer s H vs Q E hr hsp
  exact ⟨t, h.nox, q⟩
/-- how its arguments bind (no defaults): h is «fun _ _ _ _ _ _ us hl => match us, hl with | [_, _], _ => rfl», one _ a parameter -/
theorem Fun.binds {x qual : Str} {st : Stmt} {f : Addr} {fd : FuncData} {ps : List Str} (F : Fun K x qual st f fd)
    (h : ∀ (kV doc pm : Value) (an : Option Addr) (cdv ct : Value) (us : List Value), us.length = ps.length → bindArgs (PySem.W.fnOf x qual (defArgs st) (defBody st) (defScope st) .none kV doc pm an cdv ct) ⟨us, []⟩ = pure (ps.zip us)) : Binds K fd ps [] := by
  obtain ⟨oc, od, kV, doc, pm, an, cdv, ct, osl, rfl, lk, hcd⟩ := F.ex
  exact .all (h kV doc pm an cdv ct)
theorem fun_mk {x qual : Str} {st : Stmt} {f : Addr} {oc : Value} {od an : Option Addr} {osl : Array (Option Value)} {kV doc pm cdv ct : Value} (l : K.lookup f = some ⟨oc, od, .func (PySem.W.fnOf x qual (defArgs st) (defBody st) (defScope st) .none kV doc pm an cdv ct), osl⟩)
    (c : PySem.W.codeIn K cdv qual = true) (k : PySem.W.keepIn K (.ref f) = true) : Fun K x qual st f (PySem.W.fnOf x qual (defArgs st) (defBody st) (defScope st) .none kV doc pm an cdv ct) := ⟨⟨oc, od, kV, doc, pm, an, cdv, ct, osl, rfl, l, c⟩, k⟩
end
theorem hu_of {A : Around} {k : Nat} (hr : Room k A) : A.units + 1 < cLine := Nat.lt_of_le_of_lt (Nat.add_le_add_left (by decide : 1 ≤ 64) _) hr.units
/-! ### expressions in short: the name that stands in the i-th slot -/
section
variable {X : Cx}
theorem pv (i : Nat) {x : Str} {pos : Pos} (hN : X.N[i]? = some x := by rfl) (hv : Vis X.env.scope x := by first | exact Or.inl rfl | exact Or.inr (Or.inl rfl) | exact Or.inr (Or.inr rfl)) (hd : (x == ("__debug__" : Str)) = false := by decide)
    (hcd : (x == ("__classdict__" : Str)) = false := by decide) : PE X (.Name x pos) (tVar i) := pe_var hN hv hd hcd
end

/-! ### tests -/
theorem iteF {A B : Prop} (h : B) : if false = true then A else B := by
  rw [if_neg Bool.false_ne_true]
  exact h
theorem iteT {A B : Prop} (h : A) : if true = true then A else B := by
  rw [if_pos rfl]
  exact h
theorem ite2 {c A B : Prop} [Decidable c] (h1 : c → A) (h2 : ¬ c → B) : if c then A else B := by
  by_cases h : c
  · rw [if_pos h]
    exact h1 h
  · rw [if_neg h]
    exact h2 h
/-! ### heaps -/
/-- all that was tracked is as it was -/
def Same (H H' : Hp) : Prop := ∀ b o, H b = some o → H' b = some o
theorem Same.refl (H : Hp) : Same H H := fun _ _ h => h
theorem Same.trans {H H1 H2 : Hp} (a : Same H H1) (b : Same H1 H2) : Same H H2 := fun c o h => b c o (a c o h)
theorem Same.seq {K : PySem.W.Frag} {H H' : Hp} {a : Addr} {xs : List V} (e : Same H H') (h : SqL K H a xs) : SqL K H' a xs := by
  rcases h with (h | ⟨o, h⟩) | h
  · exact .inl (.inl (e _ _ h))
  · exact .inl (.inr ⟨o, e _ _ h⟩)
  · exact .inr h

/-! ### a dict's pairs: keys that differ -/
section
variable {κ : Type} [DecidableEq κ]
end
/-! ### lists -/
end L2

section
set_option Elab.async false
set_option linter.all false
set_option maxRecDepth 100000
set_option maxHeartbeats 2000000
namespace L2
open PySem PySem.Spec PyProof.Rows
open PySem.W (WData Codec OpenSpec Well WellAll ReadsW ReadsAllW)
/-! ### an answer as data -/
mutual
/-- x stands for the datum d, lists and tuples all the way -/
inductive Dw (K : PySem.W.Frag) (H : Hp) : V → WData → Prop
  | non : Dw K H .non .none
  | bl (b : Bool) : Dw K H (.bl b) (.bool b)
  | int (i : Int) : Dw K H (.int i) (.int i)
  | str (x : Str) : Dw K H (.str x) (.str x)
  | byt (b : Array UInt8) : Dw K H (.byt b) (.bytes b.toList)
  | lst {a : Addr} {xs : List V} {ds : List WData} : SqL K H a xs → DwAll K H xs ds → Dw K H (.ref a) (.list ds)
  | tup {a : Addr} {xs : List V} {ds : List WData} : SqT K H a xs → DwAll K H xs ds → Dw K H (.ref a) (.tuple ds)
inductive DwAll (K : PySem.W.Frag) (H : Hp) : List V → List WData → Prop
  | nil : DwAll K H [] []
  | cons {v : V} {vs : List V} {d : WData} {ds : List WData} : Dw K H v d → DwAll K H vs ds → DwAll K H (v :: vs) (d :: ds)
end
theorem dw_ints {K : PySem.W.Frag} {H : Hp} : ∀ ns : List Int, DwAll K H (ns.map V.int) (ns.map WData.int)
  | [] => .nil
  | n :: r => .cons (.int n) (dw_ints r)
theorem ints_dw {K : PySem.W.Frag} {H : Hp} : ∀ (ns : List Int) (xs : List V), DwAll K H xs (ns.map WData.int) → xs = ns.map V.int
  | [], xs, h => by
    cases h
    rfl
  | n :: r, xs, h => by
    cases h with
    | cons h1 h2 =>
      cases h1
      rw [ints_dw r _ h2] <;> rfl
section
variable {P : Program} {w : World} {K : PySem.W.Frag} {H : Hp} {h : Heap} {R : PySem.W.WRecords} {cl : Str → Option Addr}
theorem sqL_at {a : Addr} {xs : List V} (hok : HOk P w H h) (KX : K.In h) (q : SqL K H a xs) : ∃ (its : List Value) (o : Obj) (n : Nat), Vals xs its ∧ h.get? a = some o ∧ o.cls = .type "list" ∧ o.data = .seq its.toArray n := by
  rcases q with q | ⟨o, its, n, e, hc, _, hd, _, hv⟩
  · obtain ⟨_, its, n, hv, e⟩ := (show ObjOk P w H h a (.lst xs) from q.ok hok)
    exact ⟨its, _, n, hv, e, rfl, rfl⟩
  · exact ⟨its.toList, o, n, hv, KX _ _ e, hc, by simp [hd]⟩
theorem sqT_at {a : Addr} {xs : List V} (hok : HOk P w H h) (KX : K.In h) (q : SqT K H a xs) : ∃ (its : List Value) (o : Obj) (n : Nat), Vals xs its ∧ h.get? a = some o ∧ o.cls = .type "tuple" ∧ o.data = .seq its.toArray n := by
  rcases q with q | ⟨o, its, n, e, hc, hd, _, hv⟩
  · obtain ⟨_, its, hv, o, e, hc, n, hd⟩ := (show ObjOk P w H h a (.tup xs) from q.ok hok)
    exact ⟨its, o, n, hv, e, hc, hd⟩
  · exact ⟨its.toList, o, n, hv, KX _ _ e, hc, by simp [hd]⟩
mutual
theorem Dw.reads (hok : HOk P w H h) (KX : K.In h) : ∀ (d : WData) (v : V) (u : Value), Dw K H v d → RelV v u → ∃ as, ReadsW R cl h u d as
  | .none, _, _, x, r => by
    cases x
    cases r
    exact ⟨_, ReadsW.none⟩
  | .bool b, _, _, x, r => by
    cases x
    cases r
    exact ⟨_, ReadsW.bool b⟩
  | .int i, _, _, x, r => by
    cases x
    obtain ⟨t, rfl⟩ := r
    exact ⟨_, ReadsW.int i t⟩
  | .str s, _, _, x, r => by
    cases x
    obtain ⟨t, rfl⟩ := r
    exact ⟨_, ReadsW.str s t⟩
  | .bytes b, _, _, x, r => by
    cases x
    obtain ⟨t, rfl⟩ := r
    exact ⟨_, ReadsW.bytes _ t⟩
  | .list ds, _, _, x, r => by
    cases x with
    | lst hs ha =>
      cases r
      obtain ⟨its, o, n, rv, ho, hc, hd⟩ := sqL_at hok KX hs
      obtain ⟨as, hr⟩ := Dw.readsAll hok KX ds _ its ha rv
      exact ⟨_, ReadsW.list ho hc hd hr⟩
  | .tuple ds, _, _, x, r => by
    cases x with
    | tup hs ha =>
      cases r
      obtain ⟨its, o, n, rv, ho, hc, hd⟩ := sqT_at hok KX hs
      obtain ⟨as, hr⟩ := Dw.readsAll hok KX ds _ its ha rv
      exact ⟨_, ReadsW.tuple ho hc hd hr⟩
  | .float _, _, _, x, _ => by cases x
  | .dict _, _, _, x, _ => by cases x
  | .bytearray _, _, _, x, _ => by cases x
  | .set _, _, _, x, _ => by cases x
  | .frozenset _, _, _, x, _ => by cases x
  | .obj _ _, _, _, x, _ => by cases x
theorem Dw.readsAll (hok : HOk P w H h) (KX : K.In h) : ∀ (ds : List WData) (vs : List V) (us : List Value), DwAll K H vs ds → Vals vs us → ∃ as, ReadsAllW R cl h us ds as
  | [], _, _, x, r => by
    cases x
    cases r
    exact ⟨_, ReadsAllW.nil⟩
  | d :: ds, _, _, x, r => by
    cases x with
    | cons h1 h2 =>
      cases r with
      | cons r1 r2 =>
        obtain ⟨as, q1⟩ := Dw.reads hok KX d _ _ h1 r1
        obtain ⟨bs, q2⟩ := Dw.readsAll hok KX ds _ _ h2 r2
        exact ⟨_, ReadsAllW.cons q1 q2⟩
end
end
/-! ### the arguments -/
mutual
/-- data that a codec tells -/
def plW : WData → Bool
  | .none => true
  | .bool _ => true
  | .int _ => true
  | .str _ => true
  | .bytes _ => true
  | .list xs => plWs xs
  | .tuple xs => plWs xs
  | _ => false
def plWs : List WData → Bool
  | [] => true
  | x :: r => plW x && plWs r
end
theorem plWs_map {α : Type} {f : α → WData} (h : ∀ a, plW (f a) = true) : ∀ l : List α, plWs (l.map f) = true
  | [] => rfl
  | x :: r => by
    show (plW (f x) && plWs (r.map f)) = true
    rw [h x, plWs_map h r] <;> rfl
theorem pl_enc : ∀ (c : Codec) (a : c.denote), plW (c.enc a) = true
  | .unit, _ => rfl
  | .bool, _ => rfl
  | .int _ _, _ => rfl
  | .nat _ _, _ => rfl
  | .u8, _ => rfl
  | .bytes _ _, _ => rfl
  | .text _ _ _ _, _ => rfl
  | .list _ _ c, a => plWs_map (fun x => pl_enc c x) a
  | .pair c d, a => by
    show (plW (c.enc a.1) && (plW (d.enc a.2) && true)) = true
    rw [pl_enc c a.1, pl_enc d a.2] <;> rfl
  | .triple c d e, a => by
    show (plW (c.enc a.1) && (plW (d.enc a.2.1) && (plW (e.enc a.2.2) && true))) = true
    rw [pl_enc c a.1, pl_enc d a.2.1, pl_enc e a.2.2] <;> rfl
  | .option c, none => rfl
  | .option c, some x => pl_enc c x
theorem pl_encAll : ∀ (cs : List Codec) (a : Codec.denoteAll cs), plWs (Codec.encAll cs a) = true
  | [], _ => rfl
  | c :: cs, a => by
    show (plW (c.enc a.1) && plWs (Codec.encAll cs a.2)) = true
    rw [pl_enc c a.1, pl_encAll cs a.2] <;> rfl
theorem weight_mem : ∀ {xs : List WData} {d : WData}, d ∈ xs → d.weight ≤ WData.weightAll xs
  | [], d, h => absurd h (by simp)
  | x :: r, d, h => by
    show d.weight ≤ x.weight + 1 + WData.weightAll r
    rcases List.mem_cons.mp h with e | m
    · rw [e]
      omega
    · have z := weight_mem m
      omega
def toV : Value → V
  | .none => .non
  | .bool b => .bl b
  | .int i _ => .int i
  | .str x _ => .str x
  | .bytes b _ => .byt b
  | .ref a => .ref a
  | _ => .non
/-- a value of the arguments, its objects among A -/
def OkU (A : List Addr) : Value → Prop
  | .none => True
  | .bool _ => True
  | .int _ _ => True
  | .str _ _ => True
  | .bytes _ _ => True
  | .ref a => a ∈ A
  | _ => False
theorem OkU.mono {A B : List Addr} (h : ∀ a ∈ A, a ∈ B) : ∀ {u : Value}, OkU A u → OkU B u := fun {u} x => by
  cases u with
  | ref a => exact h a x
  | none => trivial
  | bool b => trivial
  | int i t => trivial
  | str s t => trivial
  | bytes b t => trivial
  | _ => exact False.elim x
theorem relV_toV {A : List Addr} {u : Value} (x : OkU A u) : RelV (toV u) u := by
  cases u with
  | ref a => rfl
  | none => rfl
  | bool b => rfl
  | int i t => exact ⟨t, rfl⟩
  | str s t => exact ⟨t, rfl⟩
  | bytes b t => exact ⟨t, rfl⟩
  | _ => exact False.elim x
theorem vals_toV {A : List Addr} : ∀ {vs : List Value}, (∀ u ∈ vs, OkU A u) → Vals (vs.map toV) vs
  | [], _ => .nil
  | u :: r, h => .cons (relV_toV (h u (List.mem_cons_self ..))) (vals_toV fun x hx => h x (List.mem_cons_of_mem _ hx))
/-- an object of the arguments -/
def ArgOb (h : Heap) (A : List Addr) (a : Addr) : Prop := ∃ vs : List Value, vs.length ≤ sizeLine ∧ (∀ u ∈ vs, OkU A u) ∧
  (h.get? a = some { cls := .type "list", data := .seq vs.toArray } ∨ h.get? a = some { cls := .type "tuple", data := .seq vs.toArray })
theorem ArgOb.mono {h : Heap} {A B : List Addr} {a : Addr} (k : ∀ a ∈ A, a ∈ B) (x : ArgOb h A a) : ArgOb h B a := by
  obtain ⟨vs, h1, h2, h3⟩ := x
  exact ⟨vs, h1, fun u hu => (h2 u hu).mono k, h3⟩
theorem wellAll_len {P : Params} {h : Heap} : ∀ {vs : List Value} {ds : List WData}, WellAll P h vs ds → vs.length = ds.length
  | _, _, .nil => rfl
  | _, _, .cons _ b => by
    show _ + 1 = _ + 1
    rw [wellAll_len b]
theorem well_list {P : Params} {h : Heap} {v : Value} {ds : List WData} (x : Well P h v (.list ds)) : ∃ (a : Addr) (vs : List Value), v = .ref a ∧ h.get? a = some { cls := .type "list", data := .seq vs.toArray } ∧ WellAll P h vs ds := by
  cases x with
  | list ho hall => exact ⟨_, _, rfl, ho, hall⟩
theorem well_tuple {P : Params} {h : Heap} {v : Value} {ds : List WData} (x : Well P h v (.tuple ds)) : ∃ (a : Addr) (vs : List Value), v = .ref a ∧ h.get? a = some { cls := .type "tuple", data := .seq vs.toArray } ∧ WellAll P h vs ds := by
  cases x with
  | tuple ho hall => exact ⟨_, _, rfl, ho, hall⟩
theorem well_cons {P : Params} {h : Heap} {us : List Value} {d : WData} {ds : List WData} (x : WellAll P h us (d :: ds)) : ∃ (v : Value) (vs : List Value), us = v :: vs ∧ Well P h v d ∧ WellAll P h vs ds := by
  cases x with
  | cons a b => exact ⟨_, _, rfl, a, b⟩
theorem line_of {n : Nat} (h : n ≤ 1048576) : n ≤ sizeLine := Nat.le_trans h (by decide)
section
variable {P : Params} {h : Heap}
mutual
theorem area_one : ∀ (d : WData) (v : Value), Well P h v d → plW d = true → d.weight ≤ 1048576 → ∃ A : List Addr, OkU A v ∧ ∀ a ∈ A, ArgOb h A a
  | .none, _, x, _, _ => by
    cases x
    exact ⟨[], trivial, fun a m => absurd m (by simp)⟩
  | .bool b, _, x, _, _ => by
    cases x
    exact ⟨[], trivial, fun a m => absurd m (by simp)⟩
  | .int i, _, x, _, _ => by
    cases x
    exact ⟨[], trivial, fun a m => absurd m (by simp)⟩
  | .str s, _, x, _, _ => by
    cases x
    exact ⟨[], trivial, fun a m => absurd m (by simp)⟩
  | .bytes b, _, x, _, _ => by
    cases x
    exact ⟨[], trivial, fun a m => absurd m (by simp)⟩
  | .list ds, _, x, p, z => by
    obtain ⟨a, vs, rfl, ho, hall⟩ := well_list x
    have z2 : WData.weightAll ds ≤ 1048576 := z
    obtain ⟨A, h1, h2⟩ := area_all ds _ hall p fun d hd => Nat.le_trans (weight_mem hd) z2
    have k : ∀ b ∈ A, b ∈ a :: A := fun b hb => List.mem_cons_of_mem _ hb
    refine ⟨a :: A, List.mem_cons_self .., fun b hb => ?_⟩
    rcases List.mem_cons.mp hb with e | m
    · rw [e]
      exact ⟨vs, line_of (by rw [wellAll_len hall]; exact Nat.le_trans (PySem.W.length_le_weightAllW ds) z2), fun u hu => (h1 u hu).mono k, .inl ho⟩
    · exact (h2 b m).mono k
  | .tuple ds, _, x, p, z => by
    obtain ⟨a, vs, rfl, ho, hall⟩ := well_tuple x
    have z2 : WData.weightAll ds ≤ 1048576 := z
    obtain ⟨A, h1, h2⟩ := area_all ds _ hall p fun d hd => Nat.le_trans (weight_mem hd) z2
    have k : ∀ b ∈ A, b ∈ a :: A := fun b hb => List.mem_cons_of_mem _ hb
    refine ⟨a :: A, List.mem_cons_self .., fun b hb => ?_⟩
    rcases List.mem_cons.mp hb with e | m
    · rw [e]
      exact ⟨vs, line_of (by rw [wellAll_len hall]; exact Nat.le_trans (PySem.W.length_le_weightAllW ds) z2), fun u hu => (h1 u hu).mono k, .inr ho⟩
    · exact (h2 b m).mono k
  | .float _, _, _, p, _ => Bool.noConfusion (show false = true from p)
  | .dict _, _, _, p, _ => Bool.noConfusion (show false = true from p)
  | .bytearray _, _, _, p, _ => Bool.noConfusion (show false = true from p)
  | .set _, _, _, p, _ => Bool.noConfusion (show false = true from p)
  | .frozenset _, _, _, p, _ => Bool.noConfusion (show false = true from p)
  | .obj _ _, _, _, p, _ => Bool.noConfusion (show false = true from p)
theorem area_all : ∀ (ds : List WData) (vs : List Value), WellAll P h vs ds → plWs ds = true → (∀ d ∈ ds, d.weight ≤ 1048576) → ∃ A : List Addr, (∀ u ∈ vs, OkU A u) ∧ ∀ a ∈ A, ArgOb h A a
  | [], _, x, _, _ => by
    cases x
    exact ⟨[], fun u m => absurd m (by simp), fun a m => absurd m (by simp)⟩
  | d :: ds, _, x, p, z => by
    obtain ⟨v, vs, rfl, x1, x2⟩ := well_cons x
    have q : plW d = true ∧ plWs ds = true := Bool.and_eq_true_iff.mp p
    obtain ⟨A, a1, a2⟩ := area_one d v x1 q.1 (z d (List.mem_cons_self ..))
    obtain ⟨B, b1, b2⟩ := area_all ds vs x2 q.2 fun e he => z e (List.mem_cons_of_mem _ he)
    have kA : ∀ b ∈ A, b ∈ A ++ B := fun b hb => List.mem_append.mpr (.inl hb)
    have kB : ∀ b ∈ B, b ∈ A ++ B := fun b hb => List.mem_append.mpr (.inr hb)
    refine ⟨A ++ B, fun u hu => ?_, fun b hb => ?_⟩
    · rcases List.mem_cons.mp hu with e | m
      · rw [e]
        exact a1.mono kA
      · exact (b1 u m).mono kB
    · rcases List.mem_append.mp hb with m | m
      · exact (a2 b m).mono kA
      · exact (b2 b m).mono kB
end
end
/-- what is tracked of an argument's object -/
def hoOf (o : Obj) : Option HO := match o.data with
  | .seq vs _ => if (o.cls == Value.type "list") = true then some (.frz o (.lst (vs.toList.map toV))) else some (.frz o (.tup (vs.toList.map toV)))
  | _ => none
def argH (K : PySem.W.Frag) (h : Heap) (A : List Addr) : Hp := fun b => if b ∈ A then (if (K.lookup b).isNone = true then (h.get? b).bind hoOf else none) else none
/-- nothing is tracked but what is known to the object -/
def OnlyF (H : Hp) : Prop := ∀ b, H b = none ∨ ∃ o u, H b = some (.frz o u)
theorem hoOf_lst (vs : List Value) : hoOf { cls := .type "list", data := .seq vs.toArray } = some (.frz { cls := .type "list", data := .seq vs.toArray } (.lst (vs.map toV))) := by
  show (if (Value.type "list" == Value.type "list") = true then some (HO.frz { cls := .type "list", data := .seq vs.toArray } (.lst (vs.toArray.toList.map toV))) else some (HO.frz { cls := .type "list", data := .seq vs.toArray } (.tup (vs.toArray.toList.map toV)))) = _
  rw [if_pos (beq_self_eq_true _)]
theorem hoOf_tup (vs : List Value) : hoOf { cls := .type "tuple", data := .seq vs.toArray } = some (.frz { cls := .type "tuple", data := .seq vs.toArray } (.tup (vs.map toV))) := by
  show (if (Value.type "tuple" == Value.type "list") = true then some (HO.frz { cls := .type "tuple", data := .seq vs.toArray } (.lst (vs.toArray.toList.map toV))) else some (HO.frz { cls := .type "tuple", data := .seq vs.toArray } (.tup (vs.toArray.toList.map toV)))) = _
  rw [if_neg (by decide)]
section
variable {P : Program} {w : World} {K : PySem.W.Frag} {h : Heap} {A : List Addr}
theorem argH_at {b : Addr} {o : Obj} (hb : b ∈ A) (hk : K.lookup b = none) (e : h.get? b = some o) : argH K h A b = hoOf o := by
  unfold argH
  rw [if_pos hb, hk, if_pos (show (none : Option Obj).isNone = true from rfl), e] <;> rfl
theorem of_argH {b : Addr} {u : HO} (q : argH K h A b = some u) : b ∈ A ∧ K.lookup b = none := by
  unfold argH at q
  by_cases hb : b ∈ A
  · rw [if_pos hb] at q
    cases hk : K.lookup b with
    | none => exact ⟨hb, rfl⟩
    | some o =>
      rw [hk, if_neg (by simp)] at q
      cases q
  · rw [if_neg hb] at q
    cases q
/-- what stands tracked -/
theorem argH_is (ar : ∀ a ∈ A, ArgOb h A a) {b : Addr} {u : HO} (q : argH K h A b = some u) : K.lookup b = none ∧ ∃ vs : List Value, vs.length ≤ sizeLine ∧ (∀ u ∈ vs, OkU A u) ∧
    ((h.get? b = some { cls := .type "list", data := .seq vs.toArray } ∧ u = .frz { cls := .type "list", data := .seq vs.toArray } (.lst (vs.map toV))) ∨
     (h.get? b = some { cls := .type "tuple", data := .seq vs.toArray } ∧ u = .frz { cls := .type "tuple", data := .seq vs.toArray } (.tup (vs.map toV)))) := by
  obtain ⟨hb, hk⟩ := of_argH q
  obtain ⟨vs, h1, h2, h3⟩ := ar b hb
  refine ⟨hk, vs, h1, h2, ?_⟩
  rcases h3 with e | e
  · rw [argH_at hb hk e, hoOf_lst] at q
    exact .inl ⟨e, (Option.some.inj q).symm⟩
  · rw [argH_at hb hk e, hoOf_tup] at q
    exact .inr ⟨e, (Option.some.inj q).symm⟩
theorem argH_only (ar : ∀ a ∈ A, ArgOb h A a) : OnlyF (argH K h A) := fun b => by
  cases q : argH K h A b with
  | none => exact .inl rfl
  | some u =>
    obtain ⟨_, vs, _, _, ⟨_, e⟩ | ⟨_, e⟩⟩ := argH_is ar q
    · exact .inr ⟨_, _, by rw [e]⟩
    · exact .inr ⟨_, _, by rw [e]⟩
theorem argH_ok (ar : ∀ a ∈ A, ArgOb h A a) : HOk P w (argH K h A) h := fun b u q => by
  obtain ⟨_, vs, h1, h2, ⟨e, rfl⟩ | ⟨e, rfl⟩⟩ := argH_is ar q
  · exact ⟨e, by rw [List.length_map]; exact h1, vs, _, vals_toV h2, e⟩
  · exact ⟨e, by rw [List.length_map]; exact h1, vs, vals_toV h2, _, e, rfl, _, rfl⟩
theorem seq_inj {c c' : Value} {vs us : List Value} (e : (some { cls := c, data := .seq vs.toArray } : Option Obj) = some { cls := c', data := .seq us.toArray }) : c = c' ∧ vs = us := by
  have e1 := Option.some.inj e
  have e2 : c = c' := congrArg Obj.cls e1
  have e3 : Data.seq vs.toArray = Data.seq us.toArray := congrArg Obj.data e1
  injection e3 with e4
  refine ⟨e2, ?_⟩
  have e5 := congrArg Array.toList e4
  simpa using e5
/-- a list argument -/
theorem argL (KX : K.In h) (ar : ∀ a ∈ A, ArgOb h A a) {a : Addr} {vs : List Value} (ha : a ∈ A) (e : h.get? a = some { cls := .type "list", data := .seq vs.toArray }) : (∀ u ∈ vs, OkU A u) ∧ SqL K (argH K h A) a (vs.map toV) := by
  obtain ⟨us, h1, h2, h3⟩ := ar a ha
  have hu : us = vs := by
    rcases h3 with q | q
    · rw [e] at q
      exact (seq_inj q).2.symm
    · rw [e] at q
      exact absurd (Value.type.inj (seq_inj q).1) (by decide)
  subst hu
  refine ⟨h2, ?_⟩
  cases hk : K.lookup a with
  | none => exact .inl (.inr ⟨_, by rw [argH_at ha hk e, hoOf_lst]⟩)
  | some o =>
    have e2 := KX a o hk
    rw [e] at e2
    obtain rfl := Option.some.inj e2
    exact .inr ⟨_, us.toArray, _, hk, rfl, rfl, rfl, by rw [List.size_toArray]; exact h1, by simpa using vals_toV h2⟩
theorem argT (KX : K.In h) (ar : ∀ a ∈ A, ArgOb h A a) {a : Addr} {vs : List Value} (ha : a ∈ A) (e : h.get? a = some { cls := .type "tuple", data := .seq vs.toArray }) : (∀ u ∈ vs, OkU A u) ∧ SqT K (argH K h A) a (vs.map toV) := by
  obtain ⟨us, h1, h2, h3⟩ := ar a ha
  have hu : us = vs := by
    rcases h3 with q | q
    · rw [e] at q
      exact absurd (Value.type.inj (seq_inj q).1) (by decide)
    · rw [e] at q
      exact (seq_inj q).2.symm
  subst hu
  refine ⟨h2, ?_⟩
  cases hk : K.lookup a with
  | none => exact .inl (.inr ⟨_, by rw [argH_at ha hk e, hoOf_tup]⟩)
  | some o =>
    have e2 := KX a o hk
    rw [e] at e2
    obtain rfl := Option.some.inj e2
    exact .inr ⟨_, us.toArray, _, hk, rfl, rfl, by rw [List.size_toArray]; exact h1, by simpa using vals_toV h2⟩
mutual
theorem dw_one {Pm : Params} (KX : K.In h) (ar : ∀ a ∈ A, ArgOb h A a) : ∀ (d : WData) (v : Value), Well Pm h v d → plW d = true → OkU A v → Dw K (argH K h A) (toV v) d
  | .none, _, x, _, _ => by
    cases x
    exact .non
  | .bool b, _, x, _, _ => by
    cases x
    exact .bl b
  | .int i, _, x, _, _ => by
    cases x
    exact .int i
  | .str s, _, x, _, _ => by
    cases x
    exact .str s
  | .bytes b, _, x, _, _ => by
    cases x
    have z := Dw.byt (K := K) (H := argH K h A) b.toArray
    exact z
  | .list ds, _, x, p, hu => by
    obtain ⟨a, vs, rfl, ho, hall⟩ := well_list x
    obtain ⟨h2, hs⟩ := argL KX ar hu ho
    exact .lst hs (dw_all KX ar ds _ hall p h2)
  | .tuple ds, _, x, p, hu => by
    obtain ⟨a, vs, rfl, ho, hall⟩ := well_tuple x
    obtain ⟨h2, hs⟩ := argT KX ar hu ho
    exact .tup hs (dw_all KX ar ds _ hall p h2)
  | .float _, _, _, p, _ => Bool.noConfusion (show false = true from p)
  | .dict _, _, _, p, _ => Bool.noConfusion (show false = true from p)
  | .bytearray _, _, _, p, _ => Bool.noConfusion (show false = true from p)
  | .set _, _, _, p, _ => Bool.noConfusion (show false = true from p)
  | .frozenset _, _, _, p, _ => Bool.noConfusion (show false = true from p)
  | .obj _ _, _, _, p, _ => Bool.noConfusion (show false = true from p)
theorem dw_all {Pm : Params} (KX : K.In h) (ar : ∀ a ∈ A, ArgOb h A a) : ∀ (ds : List WData) (vs : List Value), WellAll Pm h vs ds → plWs ds = true → (∀ u ∈ vs, OkU A u) → DwAll K (argH K h A) (vs.map toV) ds
  | [], _, x, _, _ => by
    cases x
    exact .nil
  | d :: ds, _, x, p, hu => by
    obtain ⟨v, vs, rfl, x1, x2⟩ := well_cons x
    have q : plW d = true ∧ plWs ds = true := Bool.and_eq_true_iff.mp p
    exact .cons (dw_one KX ar d v x1 q.1 (hu _ (List.mem_cons_self ..))) (dw_all KX ar ds vs x2 q.2 fun u m => hu u (List.mem_cons_of_mem _ m))
end
end
/-! ### the call -/
theorem spec_call {P : Program} {w : World} {K : PySem.W.Frag} {mg mb : Str → Option Value} {CX : CXT} {k : Nat} {fa : Addr} {fd : FuncData} {ps : List Str} {sp : Sp} {s₁ : Shared} {vals : List Value} {ds : List WData} {R : PySem.W.WRecords} {cl : Str → Option Addr} {d0 : WData}
    (KX : K.In s₁.heap) (hns : s₁.heap.Ns mainGlobals mg) (hb : s₁.heap.Ns builtinsNs mb) (hbb : ∀ x : Str, x ≠ "__name__" → mb x = bootBuiltins x) (hlim : s₁.heap.NoLimit) (hg : s₁.gens = #[])
    (hwl : WellAll w.params s₁.heap vals ds) (hpl : plWs ds = true) (hwt : ∀ d ∈ ds, d.weight ≤ 1048576) (hr : Room k callerA)
    (F : ∀ base : Heap, K.In base → base.Ns mainGlobals mg → FnOk P w K mg base CX k fa fd ps sp) (hbind : ∀ (s : Shared) (us : List Value), us.length = ps.length → BindsTo s fd ⟨us, []⟩ (ps.zip us)) (hlen : ds.length = ps.length)
    (hsp : ∀ (H : Hp) (xs : List V), OnlyF H → DwAll K H xs ds → sp xs H (fun v H' => Dw K H' v d0) fun _ _ _ => False)
    (hCX : ∀ H e s', CX [] H s₁ (fun _ _ _ => False) e s' → False) :
    codeAny (model P w) callerA (.call (.ref fa) ⟨vals, []⟩) (fun r s' => ∃ u as, r = .ok (.ret u) ∧ ReadsW R cl s'.heap u d0 as ∧ OldK s₁.heap s'.heap ∧ s'.os = s₁.os ∧ AllBare s'.gens) s₁ := by
  obtain ⟨A, ho, ar⟩ := area_all ds vals hwl hpl hwt
  have hO : OnlyF (argH K s₁.heap A) := argH_only ar
  have hok : HOk P w (argH K s₁.heap A) s₁.heap := argH_ok ar
  have hS := dw_all KX ar ds vals hwl hpl ho
  have hV := vals_toV ho
  have hK : ∀ b u, argH K s₁.heap A b = some u → K.lookup b = none := fun b u q => (argH_is ar q).1
  have noA : ∀ {b : Addr} {o : Obj} {es : Array DictEntry} {ep : Nat}, s₁.heap.get? b = some o → o.data = .dict es ep → argH K s₁.heap A b = none := fun {b o es ep} e d => by
    cases q : argH K s₁.heap A b with
    | none => rfl
    | some u =>
      obtain ⟨_, vs, _, _, ⟨e2, _⟩ | ⟨e2, _⟩⟩ := argH_is ar q
      · rw [e2] at e
        cases e
        have d' : Data.seq vs.toArray _ = Data.dict es ep := d
        cases d'
      · rw [e2] at e
        cases e
        have d' : Data.seq vs.toArray _ = Data.dict es ep := d
        cases d'
  generalize argH K s₁.heap A = H at hO hok hS hK noA
  have base_of : ∀ {b : Addr} {o : Obj}, s₁.heap.get? b = some o → H b = none → (hidT s₁.heap H).get? b = some o := fun e n => hidT_get e n
  have nsK : ∀ {b : Addr} {m : Str → Option Value}, s₁.heap.Ns b m → (hidT s₁.heap H).Ns b m := fun {b m} ⟨o, es, ep, e, d, r⟩ => ⟨o, es, ep, base_of e (noA e d), d, r⟩
  have nK : ∀ b o, K.lookup b = some o → H b = none := fun b o e => by
    cases q : H b with
    | none => rfl
    | some u =>
      rw [hK b u q] at e
      cases e
  have hKb : K.In (hidT s₁.heap H) := fun b o e => base_of (KX b o e) (nK b o e)
  have hM : Mod K mg (hidT s₁.heap H) := ⟨hKb, nsK hns, ⟨mb, nsK hb, hbb⟩, let ⟨mc, h1, h2⟩ := hlim; ⟨mc, nsK h1, h2⟩⟩
  have e0 : Env0 P w K mg (hidT s₁.heap H) callerA [] s₁ H := ⟨rfl, hM, fun b o e => of_hidT e, Nat.le_of_eq (hidT_size _ _), trivial, fun b hb => absurd (show b ∈ ([] : List Addr) from hb) (by simp), hok, .of_eq hg⟩
  have hl : vals.length = ps.length := by rw [wellAll_len hwl]; exact hlen
  refine codeAny_mono ((F _ hKb (nsK hns)).run callerA [] s₁ H ⟨vals, []⟩ vals (vals.map toV) _ _ hr e0 (hbind s₁ vals hl) hV (hsp H _ hO hS)) fun r s' x => ?_
  cases r with
  | error e => exact (hCX H e s' x).elim
  | ok fl =>
    cases fl with
    | next => exact False.elim x
    | brk => exact False.elim x
    | cont => exact False.elim x
    | ret u =>
      obtain ⟨v, H', os, bare, un, hok', r', q⟩ := x
      have kept : ∀ b o, s₁.heap.get? b = some o → s'.heap.get? b = some o := fun b o e => by
        cases q2 : H b with
        | none => exact un.keep b o e q2 (by intro z; exact absurd (show b ∈ ([] : List Addr) from z) (by simp)) (by simp)
        | some u2 =>
          rcases hO b with z | ⟨ob, u3, z⟩
          · rw [q2] at z
            cases z
          · have z2 := un.frzs b ob _ z
            obtain ⟨e1, _⟩ := hok b _ z
            obtain ⟨e2, _⟩ := hok' b _ z2
            rw [e] at e1
            cases e1
            exact e2
      have KX' : K.In s'.heap := fun b o e => kept b o (KX b o e)
      obtain ⟨as, hrd⟩ := Dw.reads (R := R) (cl := cl) hok' KX' d0 v u q r'
      exact ⟨u, as, rfl, hrd, OldK.of_keep kept, os, bare⟩
/-! ### the row -/
theorem layable_weight {ds : List WData} (h : WData.layableAll ds = true) : ∀ d ∈ ds, d.weight ≤ 1048576 := fun d hd =>
  (PySem.W.layableW_iff.mp (List.all_eq_true.mp h d hd)).2.2
theorem encAll_len : ∀ (cs : List Codec) (a : Codec.denoteAll cs), (Codec.encAll cs a).length = cs.length
  | [], _ => rfl
  | c :: cs, a => by
    show (Codec.encAll cs a.2).length + 1 = cs.length + 1
    rw [encAll_len cs a.2]
/-- the goal that k_headS leaves (case hc), from the promise of the row's def: whatever the arguments that the codecs let and the row asks for, the def gives what stands for enc (f ..) -/
theorem walk_spec {r : OpenSpec} {k : Nat} {q : Program} {loose : List Str} {XP : (Str → Option Value) → Heap → Prop} {YP : World → Heap → Prop} {d : DefRec} {K : Params → PySem.W.Frag} {CX : World → CXT} {ps : List Str} {sp : World → Sp}
    (hwell : r.wellSaid = true) (hdf : d.params.defaults = []) (hlen : r.args.length = ps.length) (hr : Room k callerA)
    (hY : ∀ (w : World) (h : Heap), YP w h → (K w.params).In h)
    (F : ∀ (w : World) (mg : Str → Option Value) (fa : Addr) (h : Heap), YP w h → (K w.params).In h → h.Ns mainGlobals mg → mg d.name = some (.ref fa) →
      ∃ fd : FuncData, (∀ (s : Shared) (us : List Value), us.length = ps.length → BindsTo s fd ⟨us, []⟩ (ps.zip us)) ∧
        ∀ base : Heap, (K w.params).In base → base.Ns mainGlobals mg → FnOk r.prog w (K w.params) mg base (CX w) k fa fd ps (sp w))
    (hsp : ∀ (w : World) (H : Hp) (xs : List V) (a : Codec.denoteAll r.args), OnlyF H → Codec.withinAll r.args a = true → Codec.app r.args r.asked a = true → DwAll (K w.params) H xs (Codec.encAll r.args a) →
      sp w xs H (fun v H' => Dw (K w.params) H' v (r.ret.enc (Codec.app r.args r.f a))) fun _ _ _ => False)
    (hCX : ∀ (w : World) (H : Hp) (s : Shared) (e : Value) (s' : Shared), CX w [] H s (fun _ _ _ => False) e s' → False) :
    PySem.W.WalkOS q loose XP YP r d [] (fun f vs => PySem.call f vs) := by
  intro w s_0 s₁ mg mb G Y fa o pm cd doc dV kV ho hd hcd hD hmg hg args vals as hpre hlay hrd hwl hlo
  obtain ⟨a, e1, e2⟩ := PySem.W.os_pre_some hpre
  obtain ⟨e3, hwi⟩ := Codec.encAll_of_decAll r.args args a e1
  subst e3
  have KX := hY w _ Y
  obtain ⟨fd, hb, hF⟩ := F w mg fa _ Y KX G.T.g hmg
  refine PySem.W.enter_call (codeAny_mono (spec_call (R := []) (cl := classAt s_0.heap) (d0 := r.ret.enc (Codec.app r.args r.f a)) KX G.T.g G.T.b G.T.builtins G.T.nolimit hg hwl (pl_encAll _ _) (layable_weight hlay) hr hF hb (by rw [encAll_len]; exact hlen)
    (fun H xs hO hS => hsp w H xs a hO hwi e2 hS) fun H e s' => hCX w H s₁ e s') fun r' s' hq => ?_)
  obtain ⟨u, as', rfl, h1, h2, h3, h4⟩ := hq
  exact ⟨.inl ⟨u, _, as', rfl, fun _ => rfl, h1, (OpenSpec.post_iff hwell hwi _ _).mpr rfl, fun z => Bool.noConfusion (show false = true from z)⟩, h2, h3, h4⟩
/-- the same where the promise hangs on the written part alone -/
theorem walk_specK {r : OpenSpec} {k : Nat} {q : Program} {loose : List Str} {XP : (Str → Option Value) → Heap → Prop} {YP : World → Heap → Prop} {d : DefRec} {K : Params → PySem.W.Frag} {CX : CXT} {ps : List Str} {sp : PySem.W.Frag → Sp}
    (hwell : r.wellSaid = true) (hdf : d.params.defaults = []) (hlen : r.args.length = ps.length) (hr : Room k callerA)
    (hY : ∀ (w : World) (h : Heap), YP w h → (K w.params).In h)
    (F : ∀ (w : World) (mg : Str → Option Value) (fa : Addr) (h : Heap), YP w h → (K w.params).In h → h.Ns mainGlobals mg → mg d.name = some (.ref fa) →
      ∃ fd : FuncData, (∀ (s : Shared) (us : List Value), us.length = ps.length → BindsTo s fd ⟨us, []⟩ (ps.zip us)) ∧
        ∀ base : Heap, (K w.params).In base → base.Ns mainGlobals mg → FnOk r.prog w (K w.params) mg base CX k fa fd ps (sp (K w.params)))
    (hsp : ∀ (K : PySem.W.Frag) (H : Hp) (xs : List V) (a : Codec.denoteAll r.args), OnlyF H → Codec.withinAll r.args a = true → Codec.app r.args r.asked a = true → DwAll K H xs (Codec.encAll r.args a) →
      sp K xs H (fun v H' => Dw K H' v (r.ret.enc (Codec.app r.args r.f a))) fun _ _ _ => False)
    (hCX : ∀ (H : Hp) (s : Shared) (e : Value) (s' : Shared), CX [] H s (fun _ _ _ => False) e s' → False) :
    PySem.W.WalkOS q loose XP YP r d [] (fun f vs => PySem.call f vs) :=
  walk_spec (K := K) (CX := fun _ => CX) (sp := fun w => sp (K w.params)) hwell hdf hlen hr hY F (fun w H xs a h1 h2 h3 h4 => hsp (K w.params) H xs a h1 h2 h3 h4) fun _ H s e s' => hCX H s e s'
end L2
-- rests on (row put in by the clerk, for the bench that shows a file only what it spells): KE.SpHead KE.OsShapes
end
section
section
set_option maxHeartbeats 4000000
set_option maxRecDepth 100000
namespace L2
open PySem PySem.Spec PyProof.Rows
/-- the two numbers of a pair that stands in the heap -/
def pairOf (H : Hp) (t : Addr) : Int × Int := match H t with
  | some (.tup [.int a, .int b]) => (a, b)
  | _ => (0, 0)
theorem pairOf_at {H : Hp} {t : Addr} {a b : Int} (h : H t = some (.tup [.int a, .int b])) : pairOf H t = (a, b) := by
  unfold pairOf
  rw [h]
def rSortedP : List V → Hp → VK → Prop := fun xs H Q => ∃ (l : Addr) (ts : List Addr), xs = [.ref l] ∧ H l = some (.lst (ts.map V.ref)) ∧ (∀ t ∈ ts, ∃ a b : Int, H t = some (.tup [.int a, .int b])) ∧
  ∀ (p : Addr) (ts' : List Addr), H p = none → ts'.Perm ts → ts'.Pairwise (fun x y => (pairOf H x).1 ≤ (pairOf H y).1) → Q (.ref p) (upd H p (.lst (ts'.map V.ref)))
theorem vals_refs : ∀ {ts : List Addr} {us : List Value}, Vals (ts.map V.ref) us → us = ts.map Value.ref
  | [], _, h => by
    cases h
    rfl
  | t :: ts, _, h => by
    cases h with
    | cons r rs =>
      obtain rfl := vals_refs rs
      cases r
      rfl
theorem refs_vals : ∀ (ts : List Addr), Vals (ts.map V.ref) (ts.map Value.ref)
  | [] => .nil
  | _ :: ts => .cons rfl (refs_vals ts)
section
variable {X : Cx}
theorem call_sortedP : CallR X (.builtin "sorted") rSortedP := by
  intro pins s σ H xs us Q I rx h
  obtain ⟨l, ts, rfl, hl, ht, q⟩ := h
  cases rx with
  | cons r1 r2 =>
  cases r2
  cases r1
  obtain ⟨its, rv, pl, hz⟩ := I.list (SqL.of (K := X.K) hl)
  obtain rfl := vals_refs rv
  -- each pair in the heap
  have tup : ∀ t ∈ ts, ∃ (a b : Int) (ta tb : Tok) (o : Obj) (n : Nat), H t = some (.tup [.int a, .int b]) ∧ s.heap.get? t = some o ∧ o.cls = .type "tuple" ∧ o.data = .seq #[.int a ta, .int b tb] n := by
    intro t hmem
    obtain ⟨a, b, hab⟩ := ht t hmem
    obtain ⟨its2, r, ⟨o, ho, hc, n, hd⟩, _⟩ := I.tuple (SqT.of (K := X.K) hab)
    cases r with
    | cons r1 r2 =>
    cases r2 with
    | cons r2 r3 =>
    cases r3
    obtain ⟨ta, rfl⟩ := r1
    obtain ⟨tb, rfl⟩ := r2
    exact ⟨a, b, ta, tb, o, n, hab, ho, hc, hd⟩
  have key : ∀ t ∈ ts, PyProof.Rows.G.tupKeyC s.heap (fun _ => false) (.ref t) = some [Sum.inl (pairOf H t).1, Sum.inl (pairOf H t).2] := by
    intro t hmem
    obtain ⟨a, b, ta, tb, o, n, hab, ho, hc, hd⟩ := tup t hmem
    have e1 : PyProof.Rows.G.isTupObj s.heap (.ref t) = true := by
      simp only [PyProof.Rows.G.isTupObj, ho, hc]
      rfl
    rw [PyProof.Rows.G.tupKeyC, if_pos e1, pairOf_at hab]
    simp only [tupKey, ho, hd]
    rfl
  have tups : ∀ (us : List Addr), (∀ t ∈ us, t ∈ ts) → ∃ fs, TupsOf s.heap (fun _ => false) (us.map Value.ref) fs := by
    intro us
    induction us with
    | nil => exact fun _ => ⟨[], .nil⟩
    | cons t us ih =>
      intro hm
      obtain ⟨fs, hfs⟩ := ih fun x hx => hm x (List.mem_cons_of_mem _ hx)
      obtain ⟨a, b, ta, tb, o, n, hab, ho, hc, hd⟩ := tup t (hm t (List.mem_cons_self ..))
      exact ⟨.int a ta :: fs, .cons ⟨t, o, _, n, rfl, ho, hc, hd, rfl, fun _ => ⟨a, ta, rfl⟩, fun z => absurd z (by decide)⟩ hfs⟩
  obtain ⟨fs, hfs⟩ := tups ts fun t h => h
  refine PyProof.Rows.G.sorted_tups (shape := fun _ => false) (vs := ts.map Value.ref) (fs := fs) pl.isList hfs (fun v hv => ?_) (by rw [List.length_map]; rw [List.length_map] at hz; exact hz) fun st' hp hs _ => ?_
  · obtain ⟨t, hm, rfl⟩ := List.mem_map.mp hv
    exact ⟨_, key t hm⟩
  · -- what came out
    have hp' : (arrOf st').toList.Perm (pairsOf (ts.map Value.ref)).toList := Array.perm_iff_toList_perm.mp hp
    rw [pairsOf_toList] at hp'
    have h2 : ((arrOf st').toList.map (·.2)).Perm (ts.map Value.ref) := by
      have := hp'.map (·.2)
      have e : ((ts.map Value.ref).zip (ts.map Value.ref)).map (·.2) = ts.map Value.ref := by
        rw [List.map_snd_zip (by simp)]
      rw [e] at this
      exact this
    obtain ⟨ts', hperm, hts⟩ : ∃ ts' : List Addr, ts'.Perm ts ∧ (arrOf st').toList.map (·.2) = ts'.map Value.ref := by
      let g : Value → Addr := fun v => match v with | .ref a => a | _ => 0
      refine ⟨((arrOf st').toList.map (·.2)).map g, ?_, ?_⟩
      · have := h2.map g
        have e : (ts.map Value.ref).map g = ts := by
          rw [List.map_map]
          conv => rhs; rw [← List.map_id ts]
          rfl
        rw [e] at this
        exact this
      · conv => lhs; rw [← List.map_id ((arrOf st').toList.map (·.2))]
        rw [List.map_map (l := (arrOf st').toList.map (·.2))]
        refine List.map_congr_left fun v hv => ?_
        obtain ⟨t, _, rfl⟩ := List.mem_map.mp (h2.mem_iff.mp hv)
        rfl
    have hsz : (pairsOf (ts.map Value.ref)).size = (arrOf st').size := hp.size_eq.symm
    rw [hsz] at hs
    have pself : ∀ p ∈ (arrOf st').toList, ∃ t ∈ ts, p = (Value.ref t, Value.ref t) := fun p hm => by
      have := hp'.mem_iff.mp hm
      obtain ⟨e, hm2⟩ := mem_zip_self this
      obtain ⟨t, ht, et⟩ := List.mem_map.mp hm2
      exact ⟨t, ht, by rw [← et] at e; cases p; simp_all⟩
    have keys : KeysOf (PyProof.Rows.G.tupKindC s.heap fun _ => false) (arrOf st') := fun p hm => by
      obtain ⟨t, ht, rfl⟩ := pself p hm
      exact ⟨_, key t ht⟩
    have pw := keyLe_of_sorted keys hs
    have pw2 : (ts'.map Value.ref).Pairwise (fun x y => ∀ s t : Addr, s ∈ ts → t ∈ ts → x = .ref s → y = .ref t → (pairOf H s).1 ≤ (pairOf H t).1) := by
      rw [← hts, List.pairwise_map]
      refine List.Pairwise.imp_of_mem ?_ pw
      rintro p q hp hq ⟨a, b, ha, hb, hab⟩ s1 t1 hs1 ht1 e1 e2
      obtain ⟨s2, hs2, rfl⟩ := pself p hp
      obtain ⟨t2, ht2, rfl⟩ := pself q hq
      cases e1
      cases e2
      have ka := (key s1 hs1).symm.trans ha
      have kb := (key t1 ht1).symm.trans hb
      cases ka
      cases kb
      have h3 : lexLt itemOrd [Sum.inl (pairOf H t1).1, Sum.inl (pairOf H t1).2] [Sum.inl (pairOf H s1).1, Sum.inl (pairOf H s1).2] = false := hab
      have h4 := (lex_false.mp h3).1
      have h5 := of_decide_eq_false (show decide ((pairOf H t1).1 < (pairOf H s1).1) = false from h4)
      omega
    have pw3 : ts'.Pairwise (fun x y => (pairOf H x).1 ≤ (pairOf H y).1) := by
      rw [List.pairwise_map] at pw2
      exact List.Pairwise.imp_of_mem (fun {a b} ha hb h => h a b (hperm.mem_iff.mp ha) (hperm.mem_iff.mp hb) rfl rfl) pw2
    obtain ⟨ep, hat⟩ := sortedAll_at s.heap (ts.map Value.ref) ((arrOf st').map (·.2))
    have hout : (arrOf st').map (·.2) = (ts'.map Value.ref).toArray := by
      rw [← hts]
      exact Array.toList_inj.mp (Array.toList_map ..)
    rw [hout] at hat ⊢
    refine ⟨.ref (s.heap.objs.size + 1), _, I.laid (t' := s.toks) (o := .lst (ts'.map V.ref)) (fun b ob z => sortedAll_old z) (Nat.le_succ _) ⟨?_, ts'.map Value.ref, ep, refs_vals ts', hat⟩, rfl, q _ ts' (I.hok.fresh (Nat.le_succ _)) hperm pw3⟩
    rw [List.length_map, hperm.length_eq]
    rw [List.length_map] at hz
    exact hz
/-- a << n, the number below 2^m -/
theorem op_shlB : OpR X (binaryOp .LShift) (rI (fun i j => 0 ≤ j ∧ (i.natAbs < 2 ^ 100000) ∧ j ≤ 100000) fun i j => .int (i * 2 ^ j.toNat)) := opI fun i j _ _ _ _ _ hc q =>
  lshift_int hc.1 (by
    have h : Builtin.Int.intBits i ≤ 100000 := intBits_le_iff.mpr hc.2.1
    have e : (2 : Int) ^ 27 = 134217728 := by decide
    have := hc.2.2
    omega) q
theorem or_sum (a : Nat) : ∀ b : Nat, a ||| b = (a &&& b) + (a ^^^ b) := by
  induction a using Nat.strongRecOn with
  | _ a ih =>
    intro b
    by_cases h : a = 0
    · subst h
      simp
    · have := ih (a / 2) (by omega) (b / 2)
      rw [← Nat.or_div_two, ← Nat.and_div_two, ← Nat.xor_div_two] at this
      have o := @Nat.or_mod_two_eq_one a b
      have n := @Nat.and_mod_two_eq_one a b
      have x := @Nat.xor_mod_two_eq_one a b
      omega
theorem and_nat (a b : Nat) : Builtin.bitAnd (a : Int) (b : Int) = ((a &&& b : Nat) : Int) := by
  unfold Builtin.bitAnd
  rw [decide_eq_true (Int.natCast_nonneg a), decide_eq_true (Int.natCast_nonneg b)]
  rfl
theorem or_nat (a b : Nat) : Builtin.bitOr (a : Int) (b : Int) = ((a ||| b : Nat) : Int) := by
  have n1 : Builtin.bitNot (a : Int) = -(a : Int) - 1 := rfl
  have n2 : Builtin.bitNot (b : Int) = -(b : Int) - 1 := rfl
  unfold Builtin.bitOr Builtin.bitAnd
  rw [decide_eq_false (show ¬ 0 ≤ Builtin.bitNot (a : Int) by rw [n1]; omega), decide_eq_false (show ¬ 0 ≤ Builtin.bitNot (b : Int) by rw [n2]; omega)]
  have m1 : (Builtin.bitNot (Builtin.bitNot (a : Int))).toNat = a := by
    rw [n1]
    show (-(-(a : Int) - 1) - 1).toNat = a
    omega
  have m2 : (Builtin.bitNot (Builtin.bitNot (b : Int))).toNat = b := by
    rw [n2]
    show (-(-(b : Int) - 1) - 1).toNat = b
    omega
  dsimp only
  rw [m1, m2]
  show -(-(((a ||| b : Nat) : Int)) - 1) - 1 = _
  omega
theorem xor_nat (a b : Nat) : Builtin.bitXor (a : Int) (b : Int) = ((a ^^^ b : Nat) : Int) := by
  have := or_sum a b
  unfold Builtin.bitXor
  rw [or_nat, and_nat]
  omega
end
end L2
namespace LL
open PySem PyProof.Rows
open PySem.SeqAt
open PySem.AutoSeq1 (wpAny_loadPart')
open PySem.MeetsSeq PySem.MeetsSeq2 PySem.MeetsSeq3
theorem neKind (p q : Addr) (c1 c2 : Nat) (d1 d2 : Option Addr) (z1 z2 : Array (Option Value)) (k1 k2 : Str) (t1 t2 : Tok) (v1 v2 : Value) (hv : k1 = k2 → v1 = v2) :
    Meets (Builtin.«tuple.__ne__» ⟨[.ref p, .ref q], []⟩)
      (fun _ R s => s.heap.get? p = some { cls := .type "tuple", dict := d1, data := .seq #[.str k1 t1, v1] c1, slots := z1 } ∧ s.heap.get? q = some { cls := .type "tuple", dict := d2, data := .seq #[.str k2 t2, v2] c2, slots := z2 } ∧ R (.ok (.ret (.bool (!decide (k1 = k2))))) s) :=
  .of_wp fun prog w A R s h => by
    obtain ⟨hp, g, d, tk, os⟩ := s; obtain ⟨e1, e2, h⟩ := h
    have f2 := AutoSeq1.sub_tuple_tuple
    wp_walk using wpAny_loadPart' e1, wpAny_loadPart' e2, wpAny_forIn_list _ (fun rest b s' => b.1 = none ∧ s' = ⟨hp, g, d, tk, os⟩ ∧ (rest = [(.str k1 t1, .str k2 t2), (v1, v2)] ∨ (k1 = k2 ∧ (rest = [(v1, v2)] ∨ rest = [])))) _
    case turn =>
      rintro ⟨y, x⟩ rest b s' ⟨hb', rfl, hc⟩
      rcases hc with hc | ⟨hk, hc | hc⟩
      · injection hc with hyx hrest
        injection hyx with hy hx
        subst hy hx hrest
        refine wpAny_bind (EqAt.str_str k1 t1 k2 t2 prog w _ _ ?_)
        by_cases hk : k1 = k2
        · have e : (k1 == k2) = true := by rw [hk]; exact beq_self_eq_true k2
          rw [e]
          wp_walk
          exact ⟨rfl, rfl, .inr ⟨hk, .inl rfl⟩⟩
        · have e : (k1 == k2) = false := beq_eq_false_iff_ne.mpr hk
          rw [decide_eq_false hk] at h
          rw [e]
          wp_walk
          exact ⟨_, rfl, h⟩
      · injection hc with hyx hrest
        injection hyx with hy hx
        subst hy hx hrest
        have hvv := hv hk
        subst hvv
        refine wpAny_bind (EqAt.same y prog w _ _ ?_)
        wp_walk
        exact ⟨rfl, rfl, .inr ⟨hk, .inr rfl⟩⟩
      · cases hc
    case fin =>
      rintro ⟨b1, b2⟩ s' ⟨hb', rfl, hc⟩
      simp only at hb'
      subst hb'
      rcases hc with hc | ⟨hk, hc | hc⟩
      · cases hc
      · cases hc
      · rw [decide_eq_true hk] at h
        wp_walk
        exact ⟨_, rfl, h⟩
    case h =>
      exact ⟨rfl, rfl, .inl rfl⟩
theorem neKindAt {prog : Program} {w : World} {A : Around} {E : Value → Shared → Prop} {s : Shared} {p q : Addr} {k1 k2 : Str} {t1 t2 : Tok} {v1 v2 : Value} {Q : Value → Shared → Prop} (h1 : IsTup s.heap p #[.str k1 t1, v1]) (h2 : IsTup s.heap q #[.str k2 t2, v2]) (hv : k1 = k2 → v1 = v2)
    (ro : A.units < cLine) (h : Q (.bool (!decide (k1 = k2))) s) : wpAny (model prog w) A (compareOp .NotEq (.ref p) (.ref q)) Q E s := by
  obtain ⟨⟨x1, d1, y1, z1⟩, o1, a1, c1, b1⟩ := id h1
  obtain ⟨⟨x2, d2, y2, z2⟩, o2, a2, c2, b2⟩ := id h2
  simp only at a1 b1 a2 b2
  subst a1 b1 a2 b2
  exact richCompare_meets_room (op := .NotEq) ⟨_, o1, rfl⟩ ⟨_, o2, rfl⟩ PySem.F.slot_tuple_ne PySem.F.entry_tuple_ne (PySem.F.args_tuple_ne_2 _ _) (neKind p q c1 c2 d1 d2 z1 z2 k1 k2 t1 t2 v1 v2 hv)
    ⟨o1, o2, show Value.bool (!decide (k1 = k2)) ≠ Value.notImplemented ∧ Q (.bool (!decide (k1 = k2))) s from ⟨(fun x => nomatch x), h⟩⟩ ro
end LL
namespace L2
open PySem PySem.Spec PyProof.Rows
/-- != of two pairs that begin with texts, the second items the same thing where the texts are the same -/
def rNeK (K : PySem.W.Frag) : R2 := fun x y H Q => ∃ (a b : Addr) (k1 k2 : Str) (v1 v2 : V), x = .ref a ∧ y = .ref b ∧ SqT K H a [.str k1, v1] ∧ SqT K H b [.str k2, v2] ∧ (k1 = k2 → ∃ e, v1 = .ref e ∧ v2 = .ref e) ∧ Q (.bl (!decide (k1 = k2))) H
theorem op_neK {X : Cx} (hu : X.A.units < cLine) : OpR X (compareOp .NotEq) (rNeK X.K) := by
  intro pins s σ H x y v u Q I rx ry h
  obtain ⟨a, b, k1, k2, v1, v2, rfl, rfl, ha, hb, hv, q⟩ := h
  cases rx
  cases ry
  obtain ⟨its, r1, p1, _⟩ := I.tuple ha
  obtain ⟨its2, r2, p2, _⟩ := I.tuple hb
  cases r1 with
  | cons ra r1 =>
  cases r1 with
  | cons rb r1 =>
  cases r1
  cases r2 with
  | cons rc r2 =>
  cases r2 with
  | cons rd r2 =>
  cases r2
  obtain ⟨t1, rfl⟩ := ra
  obtain ⟨t2, rfl⟩ := rc
  refine LL.neKindAt p1 p2 (fun e => ?_) hu ⟨.bl _, H, I, rfl, q⟩
  obtain ⟨z, rfl, rfl⟩ := hv e
  cases rb
  cases rd
  rfl
end L2
end

end
section
namespace Wt
def digI (c : Int) : Int := if 48 ≤ c ∧ c ≤ 57 then c - 48 else if 1632 ≤ c ∧ c ≤ 1641 then c - 1632 else if 1776 ≤ c ∧ c ≤ 1785 then c - 1776 else if 2406 ≤ c ∧ c ≤ 2415 then c - 2406 else if 65296 ≤ c ∧ c ≤ 65305 then c - 65296 else -1
def low (c : Int) : Int :=
  if 65 ≤ c ∧ c ≤ 90 then c + 32
  else if 192 ≤ c ∧ c ≤ 214 then c + 32
  else if 216 ≤ c ∧ c ≤ 222 then c + 32
  else if 376 ≤ c ∧ c ≤ 376 then c - 121
  else if 383 ≤ c ∧ c ≤ 383 then c - 268
  else if 913 ≤ c ∧ c ≤ 929 then c + 32
  else if 931 ≤ c ∧ c ≤ 937 then c + 32
  else if 962 ≤ c ∧ c ≤ 962 then c + 1
  else if 1024 ≤ c ∧ c ≤ 1039 then c + 80
  else if 1040 ≤ c ∧ c ≤ 1071 then c + 32
  else if 8490 ≤ c ∧ c ≤ 8490 then c - 8383
  else if 65313 ≤ c ∧ c ≤ 65338 then c + 32 else c
theorem low_cases (c : Int) : (c < 65 ∧ low c = c) ∨ (65 ≤ c ∧ c ≤ 90 ∧ low c = c + 32) ∨ (91 ≤ c ∧ c ≤ 191 ∧ low c = c) ∨ (192 ≤ c ∧ c ≤ 214 ∧ low c = c + 32) ∨ (215 ≤ c ∧ c ≤ 215 ∧ low c = c) ∨ (216 ≤ c ∧ c ≤ 222 ∧ low c = c + 32) ∨ (223 ≤ c ∧ c ≤ 375 ∧ low c = c) ∨ (376 ≤ c ∧ c ≤ 376 ∧ low c = c - 121) ∨ (377 ≤ c ∧ c ≤ 382 ∧ low c = c) ∨ (383 ≤ c ∧ c ≤ 383 ∧ low c = c - 268) ∨ (384 ≤ c ∧ c ≤ 912 ∧ low c = c) ∨ (913 ≤ c ∧ c ≤ 929 ∧ low c = c + 32) ∨ (930 ≤ c ∧ c ≤ 930 ∧ low c = c) ∨ (931 ≤ c ∧ c ≤ 937 ∧ low c = c + 32) ∨ (938 ≤ c ∧ c ≤ 961 ∧ low c = c) ∨ (962 ≤ c ∧ c ≤ 962 ∧ low c = c + 1) ∨ (963 ≤ c ∧ c ≤ 1023 ∧ low c = c) ∨ (1024 ≤ c ∧ c ≤ 1039 ∧ low c = c + 80) ∨ (1040 ≤ c ∧ c ≤ 1071 ∧ low c = c + 32) ∨ (1072 ≤ c ∧ c ≤ 8489 ∧ low c = c) ∨ (8490 ≤ c ∧ c ≤ 8490 ∧ low c = c - 8383) ∨ (8491 ≤ c ∧ c ≤ 65312 ∧ low c = c) ∨ (65313 ≤ c ∧ c ≤ 65338 ∧ low c = c + 32) ∨ (65339 ≤ c ∧ low c = c) := by
  by_cases h0 : c < 65
  · exact Or.inl ⟨by omega, by rw [low, if_neg (show ¬ (65 ≤ c ∧ c ≤ 90) by omega), if_neg (show ¬ (192 ≤ c ∧ c ≤ 214) by omega), if_neg (show ¬ (216 ≤ c ∧ c ≤ 222) by omega), if_neg (show ¬ (376 ≤ c ∧ c ≤ 376) by omega), if_neg (show ¬ (383 ≤ c ∧ c ≤ 383) by omega), if_neg (show ¬ (913 ≤ c ∧ c ≤ 929) by omega), if_neg (show ¬ (931 ≤ c ∧ c ≤ 937) by omega), if_neg (show ¬ (962 ≤ c ∧ c ≤ 962) by omega), if_neg (show ¬ (1024 ≤ c ∧ c ≤ 1039) by omega), if_neg (show ¬ (1040 ≤ c ∧ c ≤ 1071) by omega), if_neg (show ¬ (8490 ≤ c ∧ c ≤ 8490) by omega), if_neg (show ¬ (65313 ≤ c ∧ c ≤ 65338) by omega)]⟩
  by_cases h1 : c < 91
  · exact Or.inr (Or.inl ⟨by omega, by omega, by rw [low, if_pos (show 65 ≤ c ∧ c ≤ 90 by omega)]⟩)
  by_cases h2 : c < 192
  · exact Or.inr (Or.inr (Or.inl ⟨by omega, by omega, by rw [low, if_neg (show ¬ (65 ≤ c ∧ c ≤ 90) by omega), if_neg (show ¬ (192 ≤ c ∧ c ≤ 214) by omega), if_neg (show ¬ (216 ≤ c ∧ c ≤ 222) by omega), if_neg (show ¬ (376 ≤ c ∧ c ≤ 376) by omega), if_neg (show ¬ (383 ≤ c ∧ c ≤ 383) by omega), if_neg (show ¬ (913 ≤ c ∧ c ≤ 929) by omega), if_neg (show ¬ (931 ≤ c ∧ c ≤ 937) by omega), if_neg (show ¬ (962 ≤ c ∧ c ≤ 962) by omega), if_neg (show ¬ (1024 ≤ c ∧ c ≤ 1039) by omega), if_neg (show ¬ (1040 ≤ c ∧ c ≤ 1071) by omega), if_neg (show ¬ (8490 ≤ c ∧ c ≤ 8490) by omega), if_neg (show ¬ (65313 ≤ c ∧ c ≤ 65338) by omega)]⟩))
  by_cases h3 : c < 215
  · exact Or.inr (Or.inr (Or.inr (Or.inl ⟨by omega, by omega, by rw [low, if_neg (show ¬ (65 ≤ c ∧ c ≤ 90) by omega), if_pos (show 192 ≤ c ∧ c ≤ 214 by omega)]⟩)))
  by_cases h4 : c < 216
  · exact Or.inr (Or.inr (Or.inr (Or.inr (Or.inl ⟨by omega, by omega, by rw [low, if_neg (show ¬ (65 ≤ c ∧ c ≤ 90) by omega), if_neg (show ¬ (192 ≤ c ∧ c ≤ 214) by omega), if_neg (show ¬ (216 ≤ c ∧ c ≤ 222) by omega), if_neg (show ¬ (376 ≤ c ∧ c ≤ 376) by omega), if_neg (show ¬ (383 ≤ c ∧ c ≤ 383) by omega), if_neg (show ¬ (913 ≤ c ∧ c ≤ 929) by omega), if_neg (show ¬ (931 ≤ c ∧ c ≤ 937) by omega), if_neg (show ¬ (962 ≤ c ∧ c ≤ 962) by omega), if_neg (show ¬ (1024 ≤ c ∧ c ≤ 1039) by omega), if_neg (show ¬ (1040 ≤ c ∧ c ≤ 1071) by omega), if_neg (show ¬ (8490 ≤ c ∧ c ≤ 8490) by omega), if_neg (show ¬ (65313 ≤ c ∧ c ≤ 65338) by omega)]⟩))))
  by_cases h5 : c < 223
  · exact Or.inr (Or.inr (Or.inr (Or.inr (Or.inr (Or.inl ⟨by omega, by omega, by rw [low, if_neg (show ¬ (65 ≤ c ∧ c ≤ 90) by omega), if_neg (show ¬ (192 ≤ c ∧ c ≤ 214) by omega), if_pos (show 216 ≤ c ∧ c ≤ 222 by omega)]⟩)))))
  by_cases h6 : c < 376
  · exact Or.inr (Or.inr (Or.inr (Or.inr (Or.inr (Or.inr (Or.inl ⟨by omega, by omega, by rw [low, if_neg (show ¬ (65 ≤ c ∧ c ≤ 90) by omega), if_neg (show ¬ (192 ≤ c ∧ c ≤ 214) by omega), if_neg (show ¬ (216 ≤ c ∧ c ≤ 222) by omega), if_neg (show ¬ (376 ≤ c ∧ c ≤ 376) by omega), if_neg (show ¬ (383 ≤ c ∧ c ≤ 383) by omega), if_neg (show ¬ (913 ≤ c ∧ c ≤ 929) by omega), if_neg (show ¬ (931 ≤ c ∧ c ≤ 937) by omega), if_neg (show ¬ (962 ≤ c ∧ c ≤ 962) by omega), if_neg (show ¬ (1024 ≤ c ∧ c ≤ 1039) by omega), if_neg (show ¬ (1040 ≤ c ∧ c ≤ 1071) by omega), if_neg (show ¬ (8490 ≤ c ∧ c ≤ 8490) by omega), if_neg (show ¬ (65313 ≤ c ∧ c ≤ 65338) by omega)]⟩))))))
  by_cases h7 : c < 377
  · exact Or.inr (Or.inr (Or.inr (Or.inr (Or.inr (Or.inr (Or.inr (Or.inl ⟨by omega, by omega, by rw [low, if_neg (show ¬ (65 ≤ c ∧ c ≤ 90) by omega), if_neg (show ¬ (192 ≤ c ∧ c ≤ 214) by omega), if_neg (show ¬ (216 ≤ c ∧ c ≤ 222) by omega), if_pos (show 376 ≤ c ∧ c ≤ 376 by omega)]⟩)))))))
  by_cases h8 : c < 383
  · exact Or.inr (Or.inr (Or.inr (Or.inr (Or.inr (Or.inr (Or.inr (Or.inr (Or.inl ⟨by omega, by omega, by rw [low, if_neg (show ¬ (65 ≤ c ∧ c ≤ 90) by omega), if_neg (show ¬ (192 ≤ c ∧ c ≤ 214) by omega), if_neg (show ¬ (216 ≤ c ∧ c ≤ 222) by omega), if_neg (show ¬ (376 ≤ c ∧ c ≤ 376) by omega), if_neg (show ¬ (383 ≤ c ∧ c ≤ 383) by omega), if_neg (show ¬ (913 ≤ c ∧ c ≤ 929) by omega), if_neg (show ¬ (931 ≤ c ∧ c ≤ 937) by omega), if_neg (show ¬ (962 ≤ c ∧ c ≤ 962) by omega), if_neg (show ¬ (1024 ≤ c ∧ c ≤ 1039) by omega), if_neg (show ¬ (1040 ≤ c ∧ c ≤ 1071) by omega), if_neg (show ¬ (8490 ≤ c ∧ c ≤ 8490) by omega), if_neg (show ¬ (65313 ≤ c ∧ c ≤ 65338) by omega)]⟩))))))))
  by_cases h9 : c < 384
  · exact Or.inr (Or.inr (Or.inr (Or.inr (Or.inr (Or.inr (Or.inr (Or.inr (Or.inr (Or.inl ⟨by omega, by omega, by rw [low, if_neg (show ¬ (65 ≤ c ∧ c ≤ 90) by omega), if_neg (show ¬ (192 ≤ c ∧ c ≤ 214) by omega), if_neg (show ¬ (216 ≤ c ∧ c ≤ 222) by omega), if_neg (show ¬ (376 ≤ c ∧ c ≤ 376) by omega), if_pos (show 383 ≤ c ∧ c ≤ 383 by omega)]⟩)))))))))
  by_cases h10 : c < 913
  · exact Or.inr (Or.inr (Or.inr (Or.inr (Or.inr (Or.inr (Or.inr (Or.inr (Or.inr (Or.inr (Or.inl ⟨by omega, by omega, by rw [low, if_neg (show ¬ (65 ≤ c ∧ c ≤ 90) by omega), if_neg (show ¬ (192 ≤ c ∧ c ≤ 214) by omega), if_neg (show ¬ (216 ≤ c ∧ c ≤ 222) by omega), if_neg (show ¬ (376 ≤ c ∧ c ≤ 376) by omega), if_neg (show ¬ (383 ≤ c ∧ c ≤ 383) by omega), if_neg (show ¬ (913 ≤ c ∧ c ≤ 929) by omega), if_neg (show ¬ (931 ≤ c ∧ c ≤ 937) by omega), if_neg (show ¬ (962 ≤ c ∧ c ≤ 962) by omega), if_neg (show ¬ (1024 ≤ c ∧ c ≤ 1039) by omega), if_neg (show ¬ (1040 ≤ c ∧ c ≤ 1071) by omega), if_neg (show ¬ (8490 ≤ c ∧ c ≤ 8490) by omega), if_neg (show ¬ (65313 ≤ c ∧ c ≤ 65338) by omega)]⟩))))))))))
  by_cases h11 : c < 930
  · exact Or.inr (Or.inr (Or.inr (Or.inr (Or.inr (Or.inr (Or.inr (Or.inr (Or.inr (Or.inr (Or.inr (Or.inl ⟨by omega, by omega, by rw [low, if_neg (show ¬ (65 ≤ c ∧ c ≤ 90) by omega), if_neg (show ¬ (192 ≤ c ∧ c ≤ 214) by omega), if_neg (show ¬ (216 ≤ c ∧ c ≤ 222) by omega), if_neg (show ¬ (376 ≤ c ∧ c ≤ 376) by omega), if_neg (show ¬ (383 ≤ c ∧ c ≤ 383) by omega), if_pos (show 913 ≤ c ∧ c ≤ 929 by omega)]⟩)))))))))))
  by_cases h12 : c < 931
  · exact Or.inr (Or.inr (Or.inr (Or.inr (Or.inr (Or.inr (Or.inr (Or.inr (Or.inr (Or.inr (Or.inr (Or.inr (Or.inl ⟨by omega, by omega, by rw [low, if_neg (show ¬ (65 ≤ c ∧ c ≤ 90) by omega), if_neg (show ¬ (192 ≤ c ∧ c ≤ 214) by omega), if_neg (show ¬ (216 ≤ c ∧ c ≤ 222) by omega), if_neg (show ¬ (376 ≤ c ∧ c ≤ 376) by omega), if_neg (show ¬ (383 ≤ c ∧ c ≤ 383) by omega), if_neg (show ¬ (913 ≤ c ∧ c ≤ 929) by omega), if_neg (show ¬ (931 ≤ c ∧ c ≤ 937) by omega), if_neg (show ¬ (962 ≤ c ∧ c ≤ 962) by omega), if_neg (show ¬ (1024 ≤ c ∧ c ≤ 1039) by omega), if_neg (show ¬ (1040 ≤ c ∧ c ≤ 1071) by omega), if_neg (show ¬ (8490 ≤ c ∧ c ≤ 8490) by omega), if_neg (show ¬ (65313 ≤ c ∧ c ≤ 65338) by omega)]⟩))))))))))))
  by_cases h13 : c < 938
  · exact Or.inr (Or.inr (Or.inr (Or.inr (Or.inr (Or.inr (Or.inr (Or.inr (Or.inr (Or.inr (Or.inr (Or.inr (Or.inr (Or.inl ⟨by omega, by omega, by rw [low, if_neg (show ¬ (65 ≤ c ∧ c ≤ 90) by omega), if_neg (show ¬ (192 ≤ c ∧ c ≤ 214) by omega), if_neg (show ¬ (216 ≤ c ∧ c ≤ 222) by omega), if_neg (show ¬ (376 ≤ c ∧ c ≤ 376) by omega), if_neg (show ¬ (383 ≤ c ∧ c ≤ 383) by omega), if_neg (show ¬ (913 ≤ c ∧ c ≤ 929) by omega), if_pos (show 931 ≤ c ∧ c ≤ 937 by omega)]⟩)))))))))))))
  by_cases h14 : c < 962
  · exact Or.inr (Or.inr (Or.inr (Or.inr (Or.inr (Or.inr (Or.inr (Or.inr (Or.inr (Or.inr (Or.inr (Or.inr (Or.inr (Or.inr (Or.inl ⟨by omega, by omega, by rw [low, if_neg (show ¬ (65 ≤ c ∧ c ≤ 90) by omega), if_neg (show ¬ (192 ≤ c ∧ c ≤ 214) by omega), if_neg (show ¬ (216 ≤ c ∧ c ≤ 222) by omega), if_neg (show ¬ (376 ≤ c ∧ c ≤ 376) by omega), if_neg (show ¬ (383 ≤ c ∧ c ≤ 383) by omega), if_neg (show ¬ (913 ≤ c ∧ c ≤ 929) by omega), if_neg (show ¬ (931 ≤ c ∧ c ≤ 937) by omega), if_neg (show ¬ (962 ≤ c ∧ c ≤ 962) by omega), if_neg (show ¬ (1024 ≤ c ∧ c ≤ 1039) by omega), if_neg (show ¬ (1040 ≤ c ∧ c ≤ 1071) by omega), if_neg (show ¬ (8490 ≤ c ∧ c ≤ 8490) by omega), if_neg (show ¬ (65313 ≤ c ∧ c ≤ 65338) by omega)]⟩))))))))))))))
  by_cases h15 : c < 963
  · exact Or.inr (Or.inr (Or.inr (Or.inr (Or.inr (Or.inr (Or.inr (Or.inr (Or.inr (Or.inr (Or.inr (Or.inr (Or.inr (Or.inr (Or.inr (Or.inl ⟨by omega, by omega, by rw [low, if_neg (show ¬ (65 ≤ c ∧ c ≤ 90) by omega), if_neg (show ¬ (192 ≤ c ∧ c ≤ 214) by omega), if_neg (show ¬ (216 ≤ c ∧ c ≤ 222) by omega), if_neg (show ¬ (376 ≤ c ∧ c ≤ 376) by omega), if_neg (show ¬ (383 ≤ c ∧ c ≤ 383) by omega), if_neg (show ¬ (913 ≤ c ∧ c ≤ 929) by omega), if_neg (show ¬ (931 ≤ c ∧ c ≤ 937) by omega), if_pos (show 962 ≤ c ∧ c ≤ 962 by omega)]⟩)))))))))))))))
  by_cases h16 : c < 1024
  · exact Or.inr (Or.inr (Or.inr (Or.inr (Or.inr (Or.inr (Or.inr (Or.inr (Or.inr (Or.inr (Or.inr (Or.inr (Or.inr (Or.inr (Or.inr (Or.inr (Or.inl ⟨by omega, by omega, by rw [low, if_neg (show ¬ (65 ≤ c ∧ c ≤ 90) by omega), if_neg (show ¬ (192 ≤ c ∧ c ≤ 214) by omega), if_neg (show ¬ (216 ≤ c ∧ c ≤ 222) by omega), if_neg (show ¬ (376 ≤ c ∧ c ≤ 376) by omega), if_neg (show ¬ (383 ≤ c ∧ c ≤ 383) by omega), if_neg (show ¬ (913 ≤ c ∧ c ≤ 929) by omega), if_neg (show ¬ (931 ≤ c ∧ c ≤ 937) by omega), if_neg (show ¬ (962 ≤ c ∧ c ≤ 962) by omega), if_neg (show ¬ (1024 ≤ c ∧ c ≤ 1039) by omega), if_neg (show ¬ (1040 ≤ c ∧ c ≤ 1071) by omega), if_neg (show ¬ (8490 ≤ c ∧ c ≤ 8490) by omega), if_neg (show ¬ (65313 ≤ c ∧ c ≤ 65338) by omega)]⟩))))))))))))))))
  by_cases h17 : c < 1040
  · exact Or.inr (Or.inr (Or.inr (Or.inr (Or.inr (Or.inr (Or.inr (Or.inr (Or.inr (Or.inr (Or.inr (Or.inr (Or.inr (Or.inr (Or.inr (Or.inr (Or.inr (Or.inl ⟨by omega, by omega, by rw [low, if_neg (show ¬ (65 ≤ c ∧ c ≤ 90) by omega), if_neg (show ¬ (192 ≤ c ∧ c ≤ 214) by omega), if_neg (show ¬ (216 ≤ c ∧ c ≤ 222) by omega), if_neg (show ¬ (376 ≤ c ∧ c ≤ 376) by omega), if_neg (show ¬ (383 ≤ c ∧ c ≤ 383) by omega), if_neg (show ¬ (913 ≤ c ∧ c ≤ 929) by omega), if_neg (show ¬ (931 ≤ c ∧ c ≤ 937) by omega), if_neg (show ¬ (962 ≤ c ∧ c ≤ 962) by omega), if_pos (show 1024 ≤ c ∧ c ≤ 1039 by omega)]⟩)))))))))))))))))
  by_cases h18 : c < 1072
  · exact Or.inr (Or.inr (Or.inr (Or.inr (Or.inr (Or.inr (Or.inr (Or.inr (Or.inr (Or.inr (Or.inr (Or.inr (Or.inr (Or.inr (Or.inr (Or.inr (Or.inr (Or.inr (Or.inl ⟨by omega, by omega, by rw [low, if_neg (show ¬ (65 ≤ c ∧ c ≤ 90) by omega), if_neg (show ¬ (192 ≤ c ∧ c ≤ 214) by omega), if_neg (show ¬ (216 ≤ c ∧ c ≤ 222) by omega), if_neg (show ¬ (376 ≤ c ∧ c ≤ 376) by omega), if_neg (show ¬ (383 ≤ c ∧ c ≤ 383) by omega), if_neg (show ¬ (913 ≤ c ∧ c ≤ 929) by omega), if_neg (show ¬ (931 ≤ c ∧ c ≤ 937) by omega), if_neg (show ¬ (962 ≤ c ∧ c ≤ 962) by omega), if_neg (show ¬ (1024 ≤ c ∧ c ≤ 1039) by omega), if_pos (show 1040 ≤ c ∧ c ≤ 1071 by omega)]⟩))))))))))))))))))
  by_cases h19 : c < 8490
  · exact Or.inr (Or.inr (Or.inr (Or.inr (Or.inr (Or.inr (Or.inr (Or.inr (Or.inr (Or.inr (Or.inr (Or.inr (Or.inr (Or.inr (Or.inr (Or.inr (Or.inr (Or.inr (Or.inr (Or.inl ⟨by omega, by omega, by rw [low, if_neg (show ¬ (65 ≤ c ∧ c ≤ 90) by omega), if_neg (show ¬ (192 ≤ c ∧ c ≤ 214) by omega), if_neg (show ¬ (216 ≤ c ∧ c ≤ 222) by omega), if_neg (show ¬ (376 ≤ c ∧ c ≤ 376) by omega), if_neg (show ¬ (383 ≤ c ∧ c ≤ 383) by omega), if_neg (show ¬ (913 ≤ c ∧ c ≤ 929) by omega), if_neg (show ¬ (931 ≤ c ∧ c ≤ 937) by omega), if_neg (show ¬ (962 ≤ c ∧ c ≤ 962) by omega), if_neg (show ¬ (1024 ≤ c ∧ c ≤ 1039) by omega), if_neg (show ¬ (1040 ≤ c ∧ c ≤ 1071) by omega), if_neg (show ¬ (8490 ≤ c ∧ c ≤ 8490) by omega), if_neg (show ¬ (65313 ≤ c ∧ c ≤ 65338) by omega)]⟩)))))))))))))))))))
  by_cases h20 : c < 8491
  · exact Or.inr (Or.inr (Or.inr (Or.inr (Or.inr (Or.inr (Or.inr (Or.inr (Or.inr (Or.inr (Or.inr (Or.inr (Or.inr (Or.inr (Or.inr (Or.inr (Or.inr (Or.inr (Or.inr (Or.inr (Or.inl ⟨by omega, by omega, by rw [low, if_neg (show ¬ (65 ≤ c ∧ c ≤ 90) by omega), if_neg (show ¬ (192 ≤ c ∧ c ≤ 214) by omega), if_neg (show ¬ (216 ≤ c ∧ c ≤ 222) by omega), if_neg (show ¬ (376 ≤ c ∧ c ≤ 376) by omega), if_neg (show ¬ (383 ≤ c ∧ c ≤ 383) by omega), if_neg (show ¬ (913 ≤ c ∧ c ≤ 929) by omega), if_neg (show ¬ (931 ≤ c ∧ c ≤ 937) by omega), if_neg (show ¬ (962 ≤ c ∧ c ≤ 962) by omega), if_neg (show ¬ (1024 ≤ c ∧ c ≤ 1039) by omega), if_neg (show ¬ (1040 ≤ c ∧ c ≤ 1071) by omega), if_pos (show 8490 ≤ c ∧ c ≤ 8490 by omega)]⟩))))))))))))))))))))
  by_cases h21 : c < 65313
  · exact Or.inr (Or.inr (Or.inr (Or.inr (Or.inr (Or.inr (Or.inr (Or.inr (Or.inr (Or.inr (Or.inr (Or.inr (Or.inr (Or.inr (Or.inr (Or.inr (Or.inr (Or.inr (Or.inr (Or.inr (Or.inr (Or.inl ⟨by omega, by omega, by rw [low, if_neg (show ¬ (65 ≤ c ∧ c ≤ 90) by omega), if_neg (show ¬ (192 ≤ c ∧ c ≤ 214) by omega), if_neg (show ¬ (216 ≤ c ∧ c ≤ 222) by omega), if_neg (show ¬ (376 ≤ c ∧ c ≤ 376) by omega), if_neg (show ¬ (383 ≤ c ∧ c ≤ 383) by omega), if_neg (show ¬ (913 ≤ c ∧ c ≤ 929) by omega), if_neg (show ¬ (931 ≤ c ∧ c ≤ 937) by omega), if_neg (show ¬ (962 ≤ c ∧ c ≤ 962) by omega), if_neg (show ¬ (1024 ≤ c ∧ c ≤ 1039) by omega), if_neg (show ¬ (1040 ≤ c ∧ c ≤ 1071) by omega), if_neg (show ¬ (8490 ≤ c ∧ c ≤ 8490) by omega), if_neg (show ¬ (65313 ≤ c ∧ c ≤ 65338) by omega)]⟩)))))))))))))))))))))
  by_cases h22 : c < 65339
  · exact Or.inr (Or.inr (Or.inr (Or.inr (Or.inr (Or.inr (Or.inr (Or.inr (Or.inr (Or.inr (Or.inr (Or.inr (Or.inr (Or.inr (Or.inr (Or.inr (Or.inr (Or.inr (Or.inr (Or.inr (Or.inr (Or.inr (Or.inl ⟨by omega, by omega, by rw [low, if_neg (show ¬ (65 ≤ c ∧ c ≤ 90) by omega), if_neg (show ¬ (192 ≤ c ∧ c ≤ 214) by omega), if_neg (show ¬ (216 ≤ c ∧ c ≤ 222) by omega), if_neg (show ¬ (376 ≤ c ∧ c ≤ 376) by omega), if_neg (show ¬ (383 ≤ c ∧ c ≤ 383) by omega), if_neg (show ¬ (913 ≤ c ∧ c ≤ 929) by omega), if_neg (show ¬ (931 ≤ c ∧ c ≤ 937) by omega), if_neg (show ¬ (962 ≤ c ∧ c ≤ 962) by omega), if_neg (show ¬ (1024 ≤ c ∧ c ≤ 1039) by omega), if_neg (show ¬ (1040 ≤ c ∧ c ≤ 1071) by omega), if_neg (show ¬ (8490 ≤ c ∧ c ≤ 8490) by omega), if_pos (show 65313 ≤ c ∧ c ≤ 65338 by omega)]⟩))))))))))))))))))))))
  exact Or.inr (Or.inr (Or.inr (Or.inr (Or.inr (Or.inr (Or.inr (Or.inr (Or.inr (Or.inr (Or.inr (Or.inr (Or.inr (Or.inr (Or.inr (Or.inr (Or.inr (Or.inr (Or.inr (Or.inr (Or.inr (Or.inr (Or.inr (⟨by omega, by rw [low, if_neg (show ¬ (65 ≤ c ∧ c ≤ 90) by omega), if_neg (show ¬ (192 ≤ c ∧ c ≤ 214) by omega), if_neg (show ¬ (216 ≤ c ∧ c ≤ 222) by omega), if_neg (show ¬ (376 ≤ c ∧ c ≤ 376) by omega), if_neg (show ¬ (383 ≤ c ∧ c ≤ 383) by omega), if_neg (show ¬ (913 ≤ c ∧ c ≤ 929) by omega), if_neg (show ¬ (931 ≤ c ∧ c ≤ 937) by omega), if_neg (show ¬ (962 ≤ c ∧ c ≤ 962) by omega), if_neg (show ¬ (1024 ≤ c ∧ c ≤ 1039) by omega), if_neg (show ¬ (1040 ≤ c ∧ c ≤ 1071) by omega), if_neg (show ¬ (8490 ≤ c ∧ c ≤ 8490) by omega), if_neg (show ¬ (65313 ≤ c ∧ c ≤ 65338) by omega)]⟩)))))))))))))))))))))))
theorem fold_props (n : Nat) : Sc05.fold n =
    if (65 ≤ n ∧ n ≤ 90) ∨ (192 ≤ n ∧ n ≤ 214) ∨ (216 ≤ n ∧ n ≤ 222) ∨ (913 ≤ n ∧ n ≤ 929) ∨ (931 ≤ n ∧ n ≤ 937) ∨ (1040 ≤ n ∧ n ≤ 1071) ∨ (65313 ≤ n ∧ n ≤ 65338) then n + 32
    else if 1024 ≤ n ∧ n ≤ 1039 then n + 80
    else if n = 376 then 255 else if n = 383 then 115 else if n = 8490 then 107 else if n = 962 then 963 else n := by
  simp only [Sc05.fold, Sc05.among, List.any_cons, List.any_nil, Bool.or_false, Bool.or_eq_true, Bool.and_eq_true, decide_eq_true_eq]
theorem fold_low {c : Int} (h0 : 0 ≤ c) : ((Sc05.fold c.toNat : Nat) : Int) = low c := by
  obtain ⟨n, rfl⟩ := Int.eq_ofNat_of_zero_le h0
  rw [Int.toNat_natCast]
  have e := fold_props n
  generalize Sc05.fold n = m at e ⊢
  unfold low
  repeat' split
  all_goals (repeat (split at e <;> try omega))
theorem low_le {c : Int} (h0 : 0 ≤ c) (h1 : c ≤ 4294967295) : 0 ≤ low c ∧ low c ≤ 4294967295 := by
  have := low_cases c
  omega
def upp (c : Int) : Int :=
  if 97 ≤ c ∧ c ≤ 122 then c - 32
  else if 224 ≤ c ∧ c ≤ 246 then c - 32
  else if 248 ≤ c ∧ c ≤ 254 then c - 32
  else if 255 ≤ c ∧ c ≤ 255 then c + 121
  else if 383 ≤ c ∧ c ≤ 383 then c - 300
  else if 945 ≤ c ∧ c ≤ 961 then c - 32
  else if 962 ≤ c ∧ c ≤ 962 then c - 31
  else if 963 ≤ c ∧ c ≤ 969 then c - 32
  else if 1072 ≤ c ∧ c ≤ 1103 then c - 32
  else if 1104 ≤ c ∧ c ≤ 1119 then c - 80
  else if 65345 ≤ c ∧ c ≤ 65370 then c - 32 else c
theorem upp_cases (c : Int) : (c < 97 ∧ upp c = c) ∨ (97 ≤ c ∧ c ≤ 122 ∧ upp c = c - 32) ∨ (123 ≤ c ∧ c ≤ 223 ∧ upp c = c) ∨ (224 ≤ c ∧ c ≤ 246 ∧ upp c = c - 32) ∨ (247 ≤ c ∧ c ≤ 247 ∧ upp c = c) ∨ (248 ≤ c ∧ c ≤ 254 ∧ upp c = c - 32) ∨ (255 ≤ c ∧ c ≤ 255 ∧ upp c = c + 121) ∨ (256 ≤ c ∧ c ≤ 382 ∧ upp c = c) ∨ (383 ≤ c ∧ c ≤ 383 ∧ upp c = c - 300) ∨ (384 ≤ c ∧ c ≤ 944 ∧ upp c = c) ∨ (945 ≤ c ∧ c ≤ 961 ∧ upp c = c - 32) ∨ (962 ≤ c ∧ c ≤ 962 ∧ upp c = c - 31) ∨ (963 ≤ c ∧ c ≤ 969 ∧ upp c = c - 32) ∨ (970 ≤ c ∧ c ≤ 1071 ∧ upp c = c) ∨ (1072 ≤ c ∧ c ≤ 1103 ∧ upp c = c - 32) ∨ (1104 ≤ c ∧ c ≤ 1119 ∧ upp c = c - 80) ∨ (1120 ≤ c ∧ c ≤ 65344 ∧ upp c = c) ∨ (65345 ≤ c ∧ c ≤ 65370 ∧ upp c = c - 32) ∨ (65371 ≤ c ∧ upp c = c) := by
  by_cases h0 : c < 97
  · exact Or.inl ⟨by omega, by rw [upp, if_neg (show ¬ (97 ≤ c ∧ c ≤ 122) by omega), if_neg (show ¬ (224 ≤ c ∧ c ≤ 246) by omega), if_neg (show ¬ (248 ≤ c ∧ c ≤ 254) by omega), if_neg (show ¬ (255 ≤ c ∧ c ≤ 255) by omega), if_neg (show ¬ (383 ≤ c ∧ c ≤ 383) by omega), if_neg (show ¬ (945 ≤ c ∧ c ≤ 961) by omega), if_neg (show ¬ (962 ≤ c ∧ c ≤ 962) by omega), if_neg (show ¬ (963 ≤ c ∧ c ≤ 969) by omega), if_neg (show ¬ (1072 ≤ c ∧ c ≤ 1103) by omega), if_neg (show ¬ (1104 ≤ c ∧ c ≤ 1119) by omega), if_neg (show ¬ (65345 ≤ c ∧ c ≤ 65370) by omega)]⟩
  by_cases h1 : c < 123
  · exact Or.inr (Or.inl ⟨by omega, by omega, by rw [upp, if_pos (show 97 ≤ c ∧ c ≤ 122 by omega)]⟩)
  by_cases h2 : c < 224
  · exact Or.inr (Or.inr (Or.inl ⟨by omega, by omega, by rw [upp, if_neg (show ¬ (97 ≤ c ∧ c ≤ 122) by omega), if_neg (show ¬ (224 ≤ c ∧ c ≤ 246) by omega), if_neg (show ¬ (248 ≤ c ∧ c ≤ 254) by omega), if_neg (show ¬ (255 ≤ c ∧ c ≤ 255) by omega), if_neg (show ¬ (383 ≤ c ∧ c ≤ 383) by omega), if_neg (show ¬ (945 ≤ c ∧ c ≤ 961) by omega), if_neg (show ¬ (962 ≤ c ∧ c ≤ 962) by omega), if_neg (show ¬ (963 ≤ c ∧ c ≤ 969) by omega), if_neg (show ¬ (1072 ≤ c ∧ c ≤ 1103) by omega), if_neg (show ¬ (1104 ≤ c ∧ c ≤ 1119) by omega), if_neg (show ¬ (65345 ≤ c ∧ c ≤ 65370) by omega)]⟩))
  by_cases h3 : c < 247
  · exact Or.inr (Or.inr (Or.inr (Or.inl ⟨by omega, by omega, by rw [upp, if_neg (show ¬ (97 ≤ c ∧ c ≤ 122) by omega), if_pos (show 224 ≤ c ∧ c ≤ 246 by omega)]⟩)))
  by_cases h4 : c < 248
  · exact Or.inr (Or.inr (Or.inr (Or.inr (Or.inl ⟨by omega, by omega, by rw [upp, if_neg (show ¬ (97 ≤ c ∧ c ≤ 122) by omega), if_neg (show ¬ (224 ≤ c ∧ c ≤ 246) by omega), if_neg (show ¬ (248 ≤ c ∧ c ≤ 254) by omega), if_neg (show ¬ (255 ≤ c ∧ c ≤ 255) by omega), if_neg (show ¬ (383 ≤ c ∧ c ≤ 383) by omega), if_neg (show ¬ (945 ≤ c ∧ c ≤ 961) by omega), if_neg (show ¬ (962 ≤ c ∧ c ≤ 962) by omega), if_neg (show ¬ (963 ≤ c ∧ c ≤ 969) by omega), if_neg (show ¬ (1072 ≤ c ∧ c ≤ 1103) by omega), if_neg (show ¬ (1104 ≤ c ∧ c ≤ 1119) by omega), if_neg (show ¬ (65345 ≤ c ∧ c ≤ 65370) by omega)]⟩))))
  by_cases h5 : c < 255
  · exact Or.inr (Or.inr (Or.inr (Or.inr (Or.inr (Or.inl ⟨by omega, by omega, by rw [upp, if_neg (show ¬ (97 ≤ c ∧ c ≤ 122) by omega), if_neg (show ¬ (224 ≤ c ∧ c ≤ 246) by omega), if_pos (show 248 ≤ c ∧ c ≤ 254 by omega)]⟩)))))
  by_cases h6 : c < 256
  · exact Or.inr (Or.inr (Or.inr (Or.inr (Or.inr (Or.inr (Or.inl ⟨by omega, by omega, by rw [upp, if_neg (show ¬ (97 ≤ c ∧ c ≤ 122) by omega), if_neg (show ¬ (224 ≤ c ∧ c ≤ 246) by omega), if_neg (show ¬ (248 ≤ c ∧ c ≤ 254) by omega), if_pos (show 255 ≤ c ∧ c ≤ 255 by omega)]⟩))))))
  by_cases h7 : c < 383
  · exact Or.inr (Or.inr (Or.inr (Or.inr (Or.inr (Or.inr (Or.inr (Or.inl ⟨by omega, by omega, by rw [upp, if_neg (show ¬ (97 ≤ c ∧ c ≤ 122) by omega), if_neg (show ¬ (224 ≤ c ∧ c ≤ 246) by omega), if_neg (show ¬ (248 ≤ c ∧ c ≤ 254) by omega), if_neg (show ¬ (255 ≤ c ∧ c ≤ 255) by omega), if_neg (show ¬ (383 ≤ c ∧ c ≤ 383) by omega), if_neg (show ¬ (945 ≤ c ∧ c ≤ 961) by omega), if_neg (show ¬ (962 ≤ c ∧ c ≤ 962) by omega), if_neg (show ¬ (963 ≤ c ∧ c ≤ 969) by omega), if_neg (show ¬ (1072 ≤ c ∧ c ≤ 1103) by omega), if_neg (show ¬ (1104 ≤ c ∧ c ≤ 1119) by omega), if_neg (show ¬ (65345 ≤ c ∧ c ≤ 65370) by omega)]⟩)))))))
  by_cases h8 : c < 384
  · exact Or.inr (Or.inr (Or.inr (Or.inr (Or.inr (Or.inr (Or.inr (Or.inr (Or.inl ⟨by omega, by omega, by rw [upp, if_neg (show ¬ (97 ≤ c ∧ c ≤ 122) by omega), if_neg (show ¬ (224 ≤ c ∧ c ≤ 246) by omega), if_neg (show ¬ (248 ≤ c ∧ c ≤ 254) by omega), if_neg (show ¬ (255 ≤ c ∧ c ≤ 255) by omega), if_pos (show 383 ≤ c ∧ c ≤ 383 by omega)]⟩))))))))
  by_cases h9 : c < 945
  · exact Or.inr (Or.inr (Or.inr (Or.inr (Or.inr (Or.inr (Or.inr (Or.inr (Or.inr (Or.inl ⟨by omega, by omega, by rw [upp, if_neg (show ¬ (97 ≤ c ∧ c ≤ 122) by omega), if_neg (show ¬ (224 ≤ c ∧ c ≤ 246) by omega), if_neg (show ¬ (248 ≤ c ∧ c ≤ 254) by omega), if_neg (show ¬ (255 ≤ c ∧ c ≤ 255) by omega), if_neg (show ¬ (383 ≤ c ∧ c ≤ 383) by omega), if_neg (show ¬ (945 ≤ c ∧ c ≤ 961) by omega), if_neg (show ¬ (962 ≤ c ∧ c ≤ 962) by omega), if_neg (show ¬ (963 ≤ c ∧ c ≤ 969) by omega), if_neg (show ¬ (1072 ≤ c ∧ c ≤ 1103) by omega), if_neg (show ¬ (1104 ≤ c ∧ c ≤ 1119) by omega), if_neg (show ¬ (65345 ≤ c ∧ c ≤ 65370) by omega)]⟩)))))))))
  by_cases h10 : c < 962
  · exact Or.inr (Or.inr (Or.inr (Or.inr (Or.inr (Or.inr (Or.inr (Or.inr (Or.inr (Or.inr (Or.inl ⟨by omega, by omega, by rw [upp, if_neg (show ¬ (97 ≤ c ∧ c ≤ 122) by omega), if_neg (show ¬ (224 ≤ c ∧ c ≤ 246) by omega), if_neg (show ¬ (248 ≤ c ∧ c ≤ 254) by omega), if_neg (show ¬ (255 ≤ c ∧ c ≤ 255) by omega), if_neg (show ¬ (383 ≤ c ∧ c ≤ 383) by omega), if_pos (show 945 ≤ c ∧ c ≤ 961 by omega)]⟩))))))))))
  by_cases h11 : c < 963
  · exact Or.inr (Or.inr (Or.inr (Or.inr (Or.inr (Or.inr (Or.inr (Or.inr (Or.inr (Or.inr (Or.inr (Or.inl ⟨by omega, by omega, by rw [upp, if_neg (show ¬ (97 ≤ c ∧ c ≤ 122) by omega), if_neg (show ¬ (224 ≤ c ∧ c ≤ 246) by omega), if_neg (show ¬ (248 ≤ c ∧ c ≤ 254) by omega), if_neg (show ¬ (255 ≤ c ∧ c ≤ 255) by omega), if_neg (show ¬ (383 ≤ c ∧ c ≤ 383) by omega), if_neg (show ¬ (945 ≤ c ∧ c ≤ 961) by omega), if_pos (show 962 ≤ c ∧ c ≤ 962 by omega)]⟩)))))))))))
  by_cases h12 : c < 970
  · exact Or.inr (Or.inr (Or.inr (Or.inr (Or.inr (Or.inr (Or.inr (Or.inr (Or.inr (Or.inr (Or.inr (Or.inr (Or.inl ⟨by omega, by omega, by rw [upp, if_neg (show ¬ (97 ≤ c ∧ c ≤ 122) by omega), if_neg (show ¬ (224 ≤ c ∧ c ≤ 246) by omega), if_neg (show ¬ (248 ≤ c ∧ c ≤ 254) by omega), if_neg (show ¬ (255 ≤ c ∧ c ≤ 255) by omega), if_neg (show ¬ (383 ≤ c ∧ c ≤ 383) by omega), if_neg (show ¬ (945 ≤ c ∧ c ≤ 961) by omega), if_neg (show ¬ (962 ≤ c ∧ c ≤ 962) by omega), if_pos (show 963 ≤ c ∧ c ≤ 969 by omega)]⟩))))))))))))
  by_cases h13 : c < 1072
  · exact Or.inr (Or.inr (Or.inr (Or.inr (Or.inr (Or.inr (Or.inr (Or.inr (Or.inr (Or.inr (Or.inr (Or.inr (Or.inr (Or.inl ⟨by omega, by omega, by rw [upp, if_neg (show ¬ (97 ≤ c ∧ c ≤ 122) by omega), if_neg (show ¬ (224 ≤ c ∧ c ≤ 246) by omega), if_neg (show ¬ (248 ≤ c ∧ c ≤ 254) by omega), if_neg (show ¬ (255 ≤ c ∧ c ≤ 255) by omega), if_neg (show ¬ (383 ≤ c ∧ c ≤ 383) by omega), if_neg (show ¬ (945 ≤ c ∧ c ≤ 961) by omega), if_neg (show ¬ (962 ≤ c ∧ c ≤ 962) by omega), if_neg (show ¬ (963 ≤ c ∧ c ≤ 969) by omega), if_neg (show ¬ (1072 ≤ c ∧ c ≤ 1103) by omega), if_neg (show ¬ (1104 ≤ c ∧ c ≤ 1119) by omega), if_neg (show ¬ (65345 ≤ c ∧ c ≤ 65370) by omega)]⟩)))))))))))))
  by_cases h14 : c < 1104
  · exact Or.inr (Or.inr (Or.inr (Or.inr (Or.inr (Or.inr (Or.inr (Or.inr (Or.inr (Or.inr (Or.inr (Or.inr (Or.inr (Or.inr (Or.inl ⟨by omega, by omega, by rw [upp, if_neg (show ¬ (97 ≤ c ∧ c ≤ 122) by omega), if_neg (show ¬ (224 ≤ c ∧ c ≤ 246) by omega), if_neg (show ¬ (248 ≤ c ∧ c ≤ 254) by omega), if_neg (show ¬ (255 ≤ c ∧ c ≤ 255) by omega), if_neg (show ¬ (383 ≤ c ∧ c ≤ 383) by omega), if_neg (show ¬ (945 ≤ c ∧ c ≤ 961) by omega), if_neg (show ¬ (962 ≤ c ∧ c ≤ 962) by omega), if_neg (show ¬ (963 ≤ c ∧ c ≤ 969) by omega), if_pos (show 1072 ≤ c ∧ c ≤ 1103 by omega)]⟩))))))))))))))
  by_cases h15 : c < 1120
  · exact Or.inr (Or.inr (Or.inr (Or.inr (Or.inr (Or.inr (Or.inr (Or.inr (Or.inr (Or.inr (Or.inr (Or.inr (Or.inr (Or.inr (Or.inr (Or.inl ⟨by omega, by omega, by rw [upp, if_neg (show ¬ (97 ≤ c ∧ c ≤ 122) by omega), if_neg (show ¬ (224 ≤ c ∧ c ≤ 246) by omega), if_neg (show ¬ (248 ≤ c ∧ c ≤ 254) by omega), if_neg (show ¬ (255 ≤ c ∧ c ≤ 255) by omega), if_neg (show ¬ (383 ≤ c ∧ c ≤ 383) by omega), if_neg (show ¬ (945 ≤ c ∧ c ≤ 961) by omega), if_neg (show ¬ (962 ≤ c ∧ c ≤ 962) by omega), if_neg (show ¬ (963 ≤ c ∧ c ≤ 969) by omega), if_neg (show ¬ (1072 ≤ c ∧ c ≤ 1103) by omega), if_pos (show 1104 ≤ c ∧ c ≤ 1119 by omega)]⟩)))))))))))))))
  by_cases h16 : c < 65345
  · exact Or.inr (Or.inr (Or.inr (Or.inr (Or.inr (Or.inr (Or.inr (Or.inr (Or.inr (Or.inr (Or.inr (Or.inr (Or.inr (Or.inr (Or.inr (Or.inr (Or.inl ⟨by omega, by omega, by rw [upp, if_neg (show ¬ (97 ≤ c ∧ c ≤ 122) by omega), if_neg (show ¬ (224 ≤ c ∧ c ≤ 246) by omega), if_neg (show ¬ (248 ≤ c ∧ c ≤ 254) by omega), if_neg (show ¬ (255 ≤ c ∧ c ≤ 255) by omega), if_neg (show ¬ (383 ≤ c ∧ c ≤ 383) by omega), if_neg (show ¬ (945 ≤ c ∧ c ≤ 961) by omega), if_neg (show ¬ (962 ≤ c ∧ c ≤ 962) by omega), if_neg (show ¬ (963 ≤ c ∧ c ≤ 969) by omega), if_neg (show ¬ (1072 ≤ c ∧ c ≤ 1103) by omega), if_neg (show ¬ (1104 ≤ c ∧ c ≤ 1119) by omega), if_neg (show ¬ (65345 ≤ c ∧ c ≤ 65370) by omega)]⟩))))))))))))))))
  by_cases h17 : c < 65371
  · exact Or.inr (Or.inr (Or.inr (Or.inr (Or.inr (Or.inr (Or.inr (Or.inr (Or.inr (Or.inr (Or.inr (Or.inr (Or.inr (Or.inr (Or.inr (Or.inr (Or.inr (Or.inl ⟨by omega, by omega, by rw [upp, if_neg (show ¬ (97 ≤ c ∧ c ≤ 122) by omega), if_neg (show ¬ (224 ≤ c ∧ c ≤ 246) by omega), if_neg (show ¬ (248 ≤ c ∧ c ≤ 254) by omega), if_neg (show ¬ (255 ≤ c ∧ c ≤ 255) by omega), if_neg (show ¬ (383 ≤ c ∧ c ≤ 383) by omega), if_neg (show ¬ (945 ≤ c ∧ c ≤ 961) by omega), if_neg (show ¬ (962 ≤ c ∧ c ≤ 962) by omega), if_neg (show ¬ (963 ≤ c ∧ c ≤ 969) by omega), if_neg (show ¬ (1072 ≤ c ∧ c ≤ 1103) by omega), if_neg (show ¬ (1104 ≤ c ∧ c ≤ 1119) by omega), if_pos (show 65345 ≤ c ∧ c ≤ 65370 by omega)]⟩)))))))))))))))))
  exact Or.inr (Or.inr (Or.inr (Or.inr (Or.inr (Or.inr (Or.inr (Or.inr (Or.inr (Or.inr (Or.inr (Or.inr (Or.inr (Or.inr (Or.inr (Or.inr (Or.inr (Or.inr (⟨by omega, by rw [upp, if_neg (show ¬ (97 ≤ c ∧ c ≤ 122) by omega), if_neg (show ¬ (224 ≤ c ∧ c ≤ 246) by omega), if_neg (show ¬ (248 ≤ c ∧ c ≤ 254) by omega), if_neg (show ¬ (255 ≤ c ∧ c ≤ 255) by omega), if_neg (show ¬ (383 ≤ c ∧ c ≤ 383) by omega), if_neg (show ¬ (945 ≤ c ∧ c ≤ 961) by omega), if_neg (show ¬ (962 ≤ c ∧ c ≤ 962) by omega), if_neg (show ¬ (963 ≤ c ∧ c ≤ 969) by omega), if_neg (show ¬ (1072 ≤ c ∧ c ≤ 1103) by omega), if_neg (show ¬ (1104 ≤ c ∧ c ≤ 1119) by omega), if_neg (show ¬ (65345 ≤ c ∧ c ≤ 65370) by omega)]⟩))))))))))))))))))
theorem upper_props (n : Nat) : Sc05.upper n =
    if (97 ≤ n ∧ n ≤ 122) ∨ (224 ≤ n ∧ n ≤ 246) ∨ (248 ≤ n ∧ n ≤ 254) ∨ (945 ≤ n ∧ n ≤ 961) ∨ (963 ≤ n ∧ n ≤ 969) ∨ (1072 ≤ n ∧ n ≤ 1103) ∨ (65345 ≤ n ∧ n ≤ 65370) then n - 32
    else if 1104 ≤ n ∧ n ≤ 1119 then n - 80
    else if n = 255 then 376 else if n = 383 then 83 else if n = 962 then 931 else n := by
  simp only [Sc05.upper, Sc05.among, List.any_cons, List.any_nil, Bool.or_false, Bool.or_eq_true, Bool.and_eq_true, decide_eq_true_eq]
theorem upper_upp {c : Int} (h0 : 0 ≤ c) : ((Sc05.upper c.toNat : Nat) : Int) = upp c := by
  obtain ⟨n, rfl⟩ := Int.eq_ofNat_of_zero_le h0
  rw [Int.toNat_natCast]
  have e := upper_props n
  generalize Sc05.upper n = m at e ⊢
  unfold upp
  repeat' split
  all_goals (repeat (split at e <;> try omega))
theorem upp_le {c : Int} (h0 : 0 ≤ c) (h1 : c ≤ 4294967295) : 0 ≤ upp c ∧ upp c ≤ 4294967295 := by
  have := upp_cases c
  omega

/-! the texts as natural numbers -/
abbrev nats := Sc05Neutral.nats
theorem nats_cons (c : Int) (l : List Int) : nats (c :: l) = c.toNat :: nats l := rfl
theorem nats_nil : nats [] = [] := rfl
theorem nats_append (a b : List Int) : nats (a ++ b) = nats a ++ nats b := List.map_append ..
theorem nats_drop (a : List Int) (i : Nat) : nats (a.drop i) = (nats a).drop i := (List.map_drop ..)
def Fine (l : List Int) : Prop := ∀ x ∈ l, 0 ≤ x ∧ x ≤ 4294967295
theorem Fine.cons {c : Int} {l : List Int} (h : Fine (c :: l)) : (0 ≤ c ∧ c ≤ 4294967295) ∧ Fine l := ⟨h c (List.mem_cons_self ..), fun x hx => h x (List.mem_cons_of_mem _ hx)⟩
theorem Fine.drop {l : List Int} (h : Fine l) (i : Nat) : Fine (l.drop i) := fun x hx => h x (List.mem_of_mem_drop hx)
/-! digits -/
/-- a row of digits as a number, on from n -/
def valFrom (n : Int) (l : List Int) : Int := l.foldl (fun n c => 10 * n + digI c) n
end Wt

end
section
namespace Wt
open Sc05
/-! compare: the steps' number taken away -/
def exp (a b : Chars) : Int := expected (a.length + b.length + 1) a b
/-! match: a greedy walk, the last * held -/
/-- the items that are no * -/
def solid : Item → Bool
  | .any => false
  | _ => true
theorem m_nil (t : Chars) : matches_ [] t = t.isEmpty := by
  cases t <;> rfl
theorem m_any (r : List Item) (t : Chars) : matches_ (.any :: r) t = (rests t).any (matches_ r) := rfl
theorem m_solid_nil {i : Item} {r : List Item} (h : solid i = true) : matches_ (i :: r) [] = false := by
  cases i with
  | any => cases h
  | one => rfl
  | set o l => rfl
  | char c => rfl
theorem m_solid {i : Item} {r : List Item} {c : Nat} {u : Chars} (h : solid i = true) : matches_ (i :: r) (c :: u) = (fits i c && matches_ r u) := by
  cases i with
  | any => cases h
  | one => rfl
  | set o l => rfl
  | char c => rfl
theorem rests_mem : ∀ (t u : Chars), u ∈ rests t ↔ ∃ k, k ≤ t.length ∧ u = t.drop k
  | [], u => by
    constructor
    · intro h
      exact ⟨0, Nat.le_refl _, List.mem_singleton.mp h⟩
    · rintro ⟨k, _, e⟩
      rw [List.drop_nil] at e
      exact List.mem_singleton.mpr e
  | c :: r, u => by
    constructor
    · intro h
      rcases List.mem_cons.mp h with h | h
      · exact ⟨0, Nat.zero_le _, h⟩
      · obtain ⟨k, hk, e⟩ := (rests_mem r u).mp h
        exact ⟨k + 1, Nat.succ_le_succ hk, e⟩
    · rintro ⟨k, hk, e⟩
      cases k with
      | zero => exact List.mem_cons.mpr (.inl e)
      | succ k => exact List.mem_cons.mpr (.inr ((rests_mem r u).mpr ⟨k, Nat.le_of_succ_le_succ hk, e⟩))
/-- some place from p on from which the rest fits -/
def From (r : List Item) (t : Chars) (p : Nat) : Prop := ∃ k, p ≤ k ∧ k ≤ t.length ∧ matches_ r (t.drop k) = true
/-- the walk: p, all items; t, all of the text; i, j, the places; the last * (its place s, the place k in the text that is tried behind it) -/
structure Walk0 (p : List Item) (t : Chars) (i j : Nat) : Prop where
  hi : i ≤ p.length
  hj : j ≤ t.length
  eq : matches_ p t = true ↔ matches_ (p.drop i) (t.drop j) = true
structure Walk1 (p : List Item) (t : Chars) (i j s k : Nat) : Prop where
  hi : i ≤ p.length
  hj : j ≤ t.length
  hs : s < i
  hk : k ≤ j
  span : i - (s + 1) = j - k
  seg : ((p.drop (s + 1)).take (i - (s + 1))).all solid = true
  all : matches_ p t = true ↔ From (p.drop (s + 1)) t k
  here : matches_ (p.drop (s + 1)) (t.drop k) = true ↔ matches_ (p.drop i) (t.drop j) = true
end Wt

end
section
namespace Wt
open Sc05
/-! a pattern's items: the steps' number taken away -/
theorem set_2 (k : Nat) (f : Bool) (c : Nat) : setFrom (k + 1) f [c] = if c = 0x5D ∧ f = false then some ([], []) else (setFrom k false []).map fun x => ((c, c) :: x.1, x.2) := rfl
theorem set_3 (k : Nat) (f : Bool) (c d : Nat) : setFrom (k + 1) f [c, d] = if c = 0x5D ∧ f = false then some ([], [d]) else (setFrom k false [d]).map fun x => ((c, c) :: x.1, x.2) := rfl
theorem set_4 (k : Nat) (f : Bool) (c d e : Nat) (u : Chars) : setFrom (k + 1) f (c :: d :: e :: u) = if c = 0x5D ∧ f = false then some ([], d :: e :: u) else if d = 0x2D ∧ e ≠ 0x5D then (setFrom k false u).map fun x => ((c, e) :: x.1, x.2) else (setFrom k false (d :: e :: u)).map fun x => ((c, c) :: x.1, x.2) := rfl
theorem items_eq (k : Nat) (c : Nat) (r : Chars) : items (k + 1) (c :: r) =
    if c = 0x2A then .any :: items k r
    else if c = 0x3F then .one :: items k r
    else if c = 0x5C then (match r with
      | [] => [.char c]
      | d :: t => .char d :: items k t)
    else if c = 0x5B then
      (match setFrom (r.length + 1) true (if decide (r.head? = some 0x21 ∨ r.head? = some 0x5E) = true then r.drop 1 else r) with
      | some (l, t) => .set (decide (r.head? = some 0x21 ∨ r.head? = some 0x5E)) l :: items k t
      | none => .char c :: items k r)
    else .char c :: items k r := rfl
theorem set_len : ∀ (k : Nat) (f : Bool) (s : Chars) (l : List (Nat × Nat)) (t : Chars), setFrom k f s = some (l, t) → t.length < s.length
  | 0, _, _, _, _, h => nomatch h
  | k + 1, f, [], _, _, h => nomatch h
  | k + 1, f, [c], l, t, h => by
    rw [set_2] at h
    by_cases q : c = 0x5D ∧ f = false
    · rw [if_pos q] at h
      rw [← (Prod.mk.inj (Option.some.inj h)).2]
      exact Nat.lt_succ_self _
    · rw [if_neg q] at h
      obtain ⟨x, hx, e⟩ := Option.map_eq_some_iff.mp h
      exact absurd (set_len k false [] x.1 x.2 hx) (Nat.not_lt_zero _)
  | k + 1, f, [c, d], l, t, h => by
    rw [set_3] at h
    by_cases q : c = 0x5D ∧ f = false
    · rw [if_pos q] at h
      rw [← (Prod.mk.inj (Option.some.inj h)).2]
      exact Nat.lt_succ_self _
    · rw [if_neg q] at h
      obtain ⟨x, hx, e⟩ := Option.map_eq_some_iff.mp h
      have g := set_len k false [d] x.1 x.2 hx
      rw [← (Prod.mk.inj e).2]
      exact Nat.lt_trans g (Nat.lt_succ_self _)
  | k + 1, f, c :: d :: e :: u, l, t, h => by
    rw [set_4] at h
    by_cases q : c = 0x5D ∧ f = false
    · rw [if_pos q] at h
      rw [← (Prod.mk.inj (Option.some.inj h)).2]
      exact Nat.lt_succ_self _
    · rw [if_neg q] at h
      by_cases q2 : d = 0x2D ∧ e ≠ 0x5D
      · rw [if_pos q2] at h
        obtain ⟨x, hx, e'⟩ := Option.map_eq_some_iff.mp h
        have g := set_len k false u x.1 x.2 hx
        rw [← (Prod.mk.inj e').2]
        simp only [List.length_cons] at g ⊢
        omega
      · rw [if_neg q2] at h
        obtain ⟨x, hx, e'⟩ := Option.map_eq_some_iff.mp h
        have g := set_len k false (d :: e :: u) x.1 x.2 hx
        rw [← (Prod.mk.inj e').2]
        simp only [List.length_cons] at g ⊢
        omega
theorem set_any : ∀ (k k' : Nat) (f : Bool) (s : Chars), s.length < k → s.length < k' → setFrom k f s = setFrom k' f s
  | 0, _, _, _, h, _ => absurd h (Nat.not_lt_zero _)
  | _ + 1, 0, _, _, _, h => absurd h (Nat.not_lt_zero _)
  | k + 1, k' + 1, f, [], _, _ => rfl
  | k + 1, k' + 1, f, [c], h, h' => by
    simp only [List.length_cons, List.length_nil] at h h'
    rw [set_2, set_2, set_any k k' false [] (by rw [List.length_nil]; omega) (by rw [List.length_nil]; omega)]
  | k + 1, k' + 1, f, [c, d], h, h' => by
    simp only [List.length_cons, List.length_nil] at h h'
    rw [set_3, set_3, set_any k k' false [d] (by simp only [List.length_cons, List.length_nil]; omega) (by simp only [List.length_cons, List.length_nil]; omega)]
  | k + 1, k' + 1, f, c :: d :: e :: u, h, h' => by
    simp only [List.length_cons] at h h'
    rw [set_4, set_4, set_any k k' false u (by omega) (by omega), set_any k k' false (d :: e :: u) (by simp only [List.length_cons]; omega) (by simp only [List.length_cons]; omega)]
/-- a set's text, whatever the steps -/
def setOf (f : Bool) (s : Chars) : Option (List (Nat × Nat) × Chars) := setFrom (s.length + 1) f s
theorem setOf_nil (f : Bool) : setOf f [] = none := rfl
theorem setOf_end {r : Chars} : setOf false (0x5D :: r) = some ([], r) := by
  match r with
  | [] => rfl
  | [d] => rfl
  | d :: e :: u =>
    rw [setOf, List.length_cons, set_4, if_pos ⟨rfl, rfl⟩]
theorem setOf_range {f : Bool} {c e : Nat} {u : Chars} (h : ¬ (c = 0x5D ∧ f = false)) (he : e ≠ 0x5D) : setOf f (c :: 0x2D :: e :: u) = (setOf false u).map fun x => ((c, e) :: x.1, x.2) := by
  rw [setOf, List.length_cons, set_4, if_neg h, if_pos ⟨rfl, he⟩, setOf, set_any _ (u.length + 1) false u (by simp only [List.length_cons]; omega) (Nat.lt_succ_self _)]
theorem setOf_one {f : Bool} {c : Nat} {r : Chars} (h : ¬ (c = 0x5D ∧ f = false)) (hr : ∀ e u, r = 0x2D :: e :: u → e = 0x5D) : setOf f (c :: r) = (setOf false r).map fun x => ((c, c) :: x.1, x.2) := by
  match r, hr with
  | [], _ =>
    rw [setOf, List.length_cons, set_2, if_neg h]
    rfl
  | [d], _ =>
    rw [setOf, List.length_cons, set_3, if_neg h]
    rfl
  | d :: e :: u, hr =>
    rw [setOf, List.length_cons, set_4, if_neg h, if_neg (fun q => q.2 (hr e u (by rw [q.1])))]
    rfl
theorem items_any : ∀ (k k' : Nat) (s : Chars), s.length < k → s.length < k' → items k s = items k' s
  | 0, _, _, h, _ => absurd h (Nat.not_lt_zero _)
  | _ + 1, 0, _, _, h => absurd h (Nat.not_lt_zero _)
  | k + 1, k' + 1, [], _, _ => rfl
  | k + 1, k' + 1, c :: r, h, h' => by
    rw [items_eq, items_eq]
    have hr : items k r = items k' r := items_any k k' r (by simp only [List.length_cons] at h; omega) (by simp only [List.length_cons] at h'; omega)
    rw [hr]
    by_cases a : c = 0x2A
    · rw [if_pos a, if_pos a]
    · rw [if_neg a, if_neg a]
      by_cases b : c = 0x3F
      · rw [if_pos b, if_pos b]
      · rw [if_neg b, if_neg b]
        by_cases d : c = 0x5C
        · rw [if_pos d, if_pos d]
          match r, h, h' with
          | [], _, _ => rfl
          | x :: t, h, h' =>
            show Item.char x :: items k t = Item.char x :: items k' t
            rw [items_any k k' t (by simp only [List.length_cons] at h; omega) (by simp only [List.length_cons] at h'; omega)]
        · rw [if_neg d, if_neg d]
          by_cases g : c = 0x5B
          · rw [if_pos g, if_pos g]
            cases q : setFrom (r.length + 1) true (if decide (r.head? = some 0x21 ∨ r.head? = some 0x5E) = true then r.drop 1 else r) with
            | none => rfl
            | some x =>
              obtain ⟨l, t⟩ := x
              have e := set_len _ _ _ _ _ q
              have e2 : (if decide (r.head? = some 0x21 ∨ r.head? = some 0x5E) = true then r.drop 1 else r).length ≤ r.length := by
                split
                · rw [List.length_drop]; omega
                · exact Nat.le_refl _
              dsimp only
              rw [items_any k k' t (by simp only [List.length_cons] at h; omega) (by simp only [List.length_cons] at h'; omega)]
          · rw [if_neg g, if_neg g]
/-- a pattern's items, whatever the steps -/
def itemsOf (s : Chars) : List Item := items (s.length + 1) s
theorem itemsOf_nil : itemsOf [] = [] := rfl
theorem itemsOf_star (r : Chars) : itemsOf (0x2A :: r) = .any :: itemsOf r := by
  rw [itemsOf, List.length_cons, items_eq]
  rw [if_pos rfl]
  rfl
theorem itemsOf_one (r : Chars) : itemsOf (0x3F :: r) = .one :: itemsOf r := by
  rw [itemsOf, List.length_cons, items_eq]
  rw [if_neg (by decide), if_pos rfl]
  rfl
theorem itemsOf_back_end : itemsOf [0x5C] = [.char 0x5C] := rfl
theorem itemsOf_back (d : Nat) (t : Chars) : itemsOf (0x5C :: d :: t) = .char d :: itemsOf t := by
  rw [itemsOf, List.length_cons, items_eq, if_neg (by decide), if_neg (by decide), if_pos rfl]
  show Item.char d :: items (t.length + 1 + 1) t = _
  rw [itemsOf, items_any (t.length + 1 + 1) (t.length + 1) t (by omega) (by omega)]
theorem itemsOf_char {c : Nat} {r : Chars} (h1 : c ≠ 0x2A) (h2 : c ≠ 0x3F) (h3 : c ≠ 0x5C) (h4 : c ≠ 0x5B) : itemsOf (c :: r) = .char c :: itemsOf r := by
  rw [itemsOf, List.length_cons, items_eq]
  rw [if_neg h1, if_neg h2, if_neg h3, if_neg h4]
  rfl
/-- whether a ! or ^ stands ahead, and what is behind it -/
def others (r : Chars) : Bool := decide (r.head? = some 0x21 ∨ r.head? = some 0x5E)
def inner (r : Chars) : Chars := if others r = true then r.drop 1 else r
theorem inner_len (r : Chars) : (inner r).length ≤ r.length := by
  unfold inner
  split
  · rw [List.length_drop]; omega
  · exact Nat.le_refl _
theorem itemsOf_set {r t : Chars} {l : List (Nat × Nat)} (h : setOf true (inner r) = some (l, t)) : itemsOf (0x5B :: r) = .set (others r) l :: itemsOf t := by
  have n := inner_len r
  have e : setFrom (r.length + 1) true (if decide (r.head? = some 0x21 ∨ r.head? = some 0x5E) = true then r.drop 1 else r) = some (l, t) := by
    rw [← h]
    exact set_any _ _ _ _ (Nat.lt_succ_of_le n) (Nat.lt_succ_self _)
  have q := set_len _ _ _ _ _ h
  rw [itemsOf, List.length_cons, items_eq]
  rw [if_neg (by decide), if_neg (by decide), if_neg (by decide), if_pos rfl, e]
  dsimp only
  rw [itemsOf, items_any _ (t.length + 1) t (by omega) (Nat.lt_succ_self _)]
  rfl
theorem itemsOf_open {r : Chars} (h : setOf true (inner r) = none) : itemsOf (0x5B :: r) = .char 0x5B :: itemsOf r := by
  have n := inner_len r
  have e : setFrom (r.length + 1) true (if decide (r.head? = some 0x21 ∨ r.head? = some 0x5E) = true then r.drop 1 else r) = none := by
    rw [← h]
    exact set_any _ _ _ _ (Nat.lt_succ_of_le n) (Nat.lt_succ_self _)
  rw [itemsOf, List.length_cons, items_eq]
  rw [if_neg (by decide), if_neg (by decide), if_neg (by decide), if_pos rfl, e]
  rfl
/-! number -/
def sameN (z c : Nat) : Bool := match digitOf c with
  | some x => x.1 == z
  | none => false
/-- behind the blanks (b of them) and the sign (g: 1 or 0) -/
def numTail (b g : Nat) (minus : Bool) (t : Chars) : Int × Nat := match (t.head?).bind digitOf with
  | none => (0, 0)
  | some z => (if minus = true then max (-(valueOf (t.takeWhile (sameN z.1)) : Int)) (-(2 ^ 63)) else min (valueOf (t.takeWhile (sameN z.1)) : Int) (2 ^ 63 - 1), b + g + (t.takeWhile (sameN z.1)).length)
def numAt (b : Nat) (r : Chars) : Int × Nat := numTail b (if decide (r.head? = some 0x2B ∨ r.head? = some 0x2D ∨ r.head? = some 0x2212) = true then 1 else 0) (decide (r.head? = some 0x2D ∨ r.head? = some 0x2212)) (if decide (r.head? = some 0x2B ∨ r.head? = some 0x2D ∨ r.head? = some 0x2212) = true then r.drop 1 else r)
end Wt

end
section
namespace Wt
open Sc05
/-! a row of items by their places, as a while walks it -/
structure Run (q : Int → Bool) (xs : List Int) (a b : Int) : Prop where
  lo : 0 ≤ a
  le : a ≤ b
  hi : b ≤ (xs.length : Int)
  all : ∀ k : Nat, a ≤ (k : Int) → (k : Int) < b → q (xs.getD k 0) = true
theorem drop_at {xs : List Int} {i : Int} (h0 : 0 ≤ i) (h1 : i < (xs.length : Int)) : xs.drop i.toNat = xs.getD i.toNat 0 :: xs.drop (i + 1).toNat := by
  have e : (i + 1).toNat = i.toNat + 1 := by omega
  rw [e, List.drop_eq_getElem_cons (by omega), List.getD_eq_getElem?_getD, List.getElem?_eq_getElem (by omega)]
  rfl
theorem drop_end {xs : List Int} {i : Int} (h1 : ¬ i < (xs.length : Int)) : xs.drop i.toNat = [] := List.drop_eq_nil_of_le (by omega)
theorem Fine.at {xs : List Int} (hf : Fine xs) {i : Int} (h0 : 0 ≤ i) (h1 : i < (xs.length : Int)) : 0 ≤ xs.getD i.toNat 0 ∧ xs.getD i.toNat 0 ≤ 4294967295 := by
  refine hf _ ?_
  rw [List.getD_eq_getElem?_getD, List.getElem?_eq_getElem (by omega)]
  exact List.getElem_mem ..
/-! number -/
def sameI (z c : Int) : Bool := decide (z ≤ c ∧ c ≤ z + 9)
/-- a number kept below a bound while it grows -/
def Cap (most value v : Int) : Prop := (value = v ∧ 0 ≤ v) ∨ (most < value ∧ most < v)
end Wt

end
section
set_option Elab.async false
set_option linter.all false
set_option maxRecDepth 100000
set_option maxHeartbeats 4000000

namespace Toy
open PySem PySem.Spec PyProof.Rows L2
open PySem.W (Codec)
/-- a tuple of the file's top -/
def TupK (K : PySem.W.Frag) (a : Addr) (xs : List V) : Prop := ∃ (o : Obj) (its : Array Value) (n : Nat), K.lookup a = some o ∧ o.cls = .type "tuple" ∧ o.data = .seq its n ∧ its.size ≤ sizeLine ∧ Vals xs its.toList
/-- a table: its rows told one by one -/
def RowsBy {ρ : Type} (Rel : V → ρ → Prop) : List V → List ρ → Prop
  | [], [] => True
  | v :: vs, x :: xs => Rel v x ∧ RowsBy Rel vs xs
  | _, _ => False
theorem RowsBy.at {ρ : Type} {Rel : V → ρ → Prop} : ∀ {vs : List V} {rows : List ρ} {i : Nat} {v : V}, RowsBy Rel vs rows → vs[i]? = some v → ∃ x, rows.drop i = x :: rows.drop (i + 1) ∧ Rel v x
  | [], _, _, _, _, h => by simp at h
  | _ :: _, [], _, _, h, _ => (show False from h).elim
  | u :: vs, x :: xs, 0, v, h, e => by
    have e' : u = v := Option.some.inj e
    subst e'
    exact ⟨x, rfl, h.1⟩
  | u :: vs, x :: xs, i + 1, v, h, e => RowsBy.at (i := i) h.2 e
theorem RowsBy.len {ρ : Type} {Rel : V → ρ → Prop} : ∀ {vs : List V} {rows : List ρ}, RowsBy Rel vs rows → vs.length = rows.length
  | [], [], _ => rfl
  | [], _ :: _, h => (show False from h).elim
  | _ :: _, [], h => (show False from h).elim
  | _ :: _, _ :: _, h => congrArg (· + 1) h.2.len
def Row3K (K : PySem.W.Frag) (v : V) (x : Int × Int × Int) : Prop := ∃ r, v = .ref r ∧ TupK K r [.int x.1, .int x.2.1, .int x.2.2]
def Row2K (K : PySem.W.Frag) (v : V) (x : Int × Int) : Prop := ∃ r, v = .ref r ∧ TupK K r [.int x.1, .int x.2]
def Row1K (v : V) (x : Int) : Prop := v = .int x
def Tab3 (K : PySem.W.Frag) (tb : Addr) (rows : List (Int × Int × Int)) : Prop := ∃ vs, TupK K tb vs ∧ RowsBy (Row3K K) vs rows
def Tab2 (K : PySem.W.Frag) (tb : Addr) (rows : List (Int × Int)) : Prop := ∃ vs, TupK K tb vs ∧ RowsBy (Row2K K) vs rows
def Tab1 (K : PySem.W.Frag) (tb : Addr) (rows : List Int) : Prop := ∃ vs, TupK K tb vs ∧ RowsBy Row1K vs rows
theorem vals_ref_cons {a : Addr} {vs : List V} {us : List Value} (h : Vals vs us) : Vals (.ref a :: vs) (Value.ref a :: us) := .cons rfl h
theorem vals_nil : Vals [] [] := .nil
theorem tab_mk {ρ : Type} {Rel : V → ρ → Prop} {K : PySem.W.Frag} {tb : Addr} {lo : Obj} {its : Array Value} {n : Nat} {vs : List V} {rows : List ρ} (hk : K.lookup tb = some lo) (hc : lo.cls = .type "tuple") (hd : lo.data = .seq its n) (hs : its.size ≤ sizeLine) (hv : Vals vs its.toList) (hr : RowsBy Rel vs rows) : ∃ vs, TupK K tb vs ∧ RowsBy Rel vs rows :=
  ⟨vs, ⟨lo, its, n, hk, hc, hd, hs, hv⟩, hr⟩
theorem rows_nil {ρ : Type} {Rel : V → ρ → Prop} : RowsBy Rel [] [] := trivial
theorem rows3_cons {K : PySem.W.Frag} {a : Addr} {lo : Obj} {x y z : Int} {tx ty tz : Tok} {n : Nat} {vs : List V} {rows : List (Int × Int × Int)} (hk : K.lookup a = some lo) (hc : lo.cls = .type "tuple") (hd : lo.data = .seq #[.int x tx, .int y ty, .int z tz] n) (hr : RowsBy (Row3K K) vs rows) : RowsBy (Row3K K) (.ref a :: vs) ((x, y, z) :: rows) :=
  ⟨⟨a, rfl, ⟨lo, _, n, hk, hc, hd, (by show 3 ≤ sizeLine; decide), .cons ⟨_, rfl⟩ (.cons ⟨_, rfl⟩ (.cons ⟨_, rfl⟩ .nil))⟩⟩, hr⟩
def inAny : List (Int × Int) → Int → Bool
  | [], _ => false
  | (a, b) :: rs, c => if a ≤ c ∧ c ≤ b then true else inAny rs c
def zeroOf : List Int → Int → Int
  | [], _ => -1
  | a :: rs, c => if a ≤ c ∧ c ≤ a + 9 then a else zeroOf rs c
def turnOf : List (Int × Int × Int) → Int → Int
  | [], c => c
  | (a, b, d) :: rs, c => if a ≤ c ∧ c ≤ b then c - a + d else turnOf rs c
/-- a def of one character that answers and leaves all as it is -/
def sp1 (g : Int → V) : Sp := fun vs H Q _ => ∃ c : Int, vs = [.int c] ∧ Q (g c) H
def spWithin (K : PySem.W.Frag) : Sp := fun vs H Q _ => ∃ (c : Int) (tb : Addr) (rows : List (Int × Int)), vs = [.int c, .ref tb] ∧ Tab2 K tb rows ∧ Q (.bl (inAny rows c)) H
def spTurned (K : PySem.W.Frag) : Sp := fun vs H Q _ => ∃ (c : Int) (tb : Addr) (rows : List (Int × Int × Int)), vs = [.int c, .ref tb] ∧ Tab3 K tb rows ∧ Q (.int (turnOf rows c)) H
/-- a call of the interface of one character -/
def spAns1 (g : Int → Int) : Sp := fun vs H Q _ => ∃ c : Int, vs = [.int c] ∧ ∀ (H' : Hp) (p : Addr), H' p = some (.lst [.int (g c)]) → Q (.ref p) H'

/-! tests that hold on: for a while -/
def MonE (t : TE) : Prop := ∀ (σ : L2.St) (H : Hp) (Q Q' : VK), (∀ x H1, Q x H1 → Q' x H1) → t σ H Q → t σ H Q'
def MonA (t : TA) : Prop := ∀ (σ : L2.St) (H : Hp) (Q Q' : List V → Hp → Prop), (∀ x H1, Q x H1 → Q' x H1) → t σ H Q → t σ H Q'
def MonT (t : TT) : Prop := ∀ (σ : L2.St) (H : Hp) (Q Q' : Bool → Hp → Prop), (∀ x H1, Q x H1 → Q' x H1) → t σ H Q → t σ H Q'
def MonR (r : R2) : Prop := ∀ (x y : V) (H : Hp) (Q Q' : VK), (∀ x H1, Q x H1 → Q' x H1) → r x y H Q → r x y H Q'
def MonC (r : List V → Hp → VK → Prop) : Prop := ∀ (x : List V) (H : Hp) (Q Q' : VK), (∀ x H1, Q x H1 → Q' x H1) → r x H Q → r x H Q'
def MonS (sp : Sp) : Prop := ∀ (x : List V) (H : Hp) (Q Q' : VK) (E : XK), (∀ x H1, Q x H1 → Q' x H1) → sp x H Q E → sp x H Q' E
theorem mon_var (i : Nat) : MonE (tVar i) := fun _ _ _ _ hq ⟨v, e, q⟩ => ⟨v, e, hq _ _ q⟩
theorem mon_C (v : V) : MonE (tC v) := fun _ _ _ _ hq q => hq _ _ q
theorem mon_op {r : R2} {ta tb : TE} (hr : MonR r) (ha : MonE ta) (hb : MonE tb) : MonE (tOp r ta tb) := fun σ H Q Q' hq h => ha σ H _ _ (fun x H1 h1 => hb σ H1 _ _ (fun y H2 h2 => hr x y H2 Q Q' hq h2) h1) h
theorem mon_test {t : TE} (h : MonE t) : MonT (tTest t) := fun σ H _ _ hq q => h σ H _ _ (fun _ _ ⟨k, e, q⟩ => ⟨k, e, hq _ _ q⟩) q
theorem mon_and {t u : TT} (ht : MonT t) (hu : MonT u) : MonT (tAnd t u) := fun σ H Q Q' hq q => ht σ H _ _ (fun c H1 h => by
  by_cases hc : c = true
  · rw [if_pos hc] at h ⊢
    exact hu σ H1 _ _ hq h
  · rw [if_neg hc] at h ⊢
    exact hq _ _ h) q
theorem mon_nil : MonA tNil := fun _ _ _ _ hq q => hq _ _ q
theorem mon_cons {t : TE} {u : TA} (ht : MonE t) (hu : MonA u) : MonA (tCons t u) := fun σ H _ _ hq h => ht σ H _ _ (fun _ H1 h1 => hu σ H1 _ _ (fun _ _ h2 => hq _ _ h2) h1) h
theorem mon_cb {r : List V → Hp → VK → Prop} {t : TA} (ht : MonA t) (hr : MonC r) : MonE (tCB r t) := fun σ H _ _ hq h => ht σ H _ _ (fun _ H1 h1 => hr _ H1 _ _ hq h1) h
theorem mon_i0 (g : Int → Int → V) : MonR (rI0 g) := fun _ _ _ _ _ hq ⟨i, j, a, b, q⟩ => ⟨i, j, a, b, hq _ _ q⟩
theorem mon_ne : MonR rNe := fun _ _ _ _ _ hq ⟨a, q⟩ => ⟨a, hq _ _ q⟩
theorem mon_ix (K : PySem.W.Frag) : MonR (rIxL K) := fun _ _ _ _ _ hq ⟨p, xs, i, v, a, b, c, d, q⟩ => ⟨p, xs, i, v, a, b, c, d, hq _ _ q⟩
theorem mon_len (K : PySem.W.Frag) : MonC (fun xs H Q => ∃ p ys, xs = [.ref p] ∧ (SqL K H p ys ∨ SqT K H p ys) ∧ Q (.int ys.length) H) := fun _ _ _ _ hq ⟨p, ys, a, b, q⟩ => ⟨p, ys, a, b, hq _ _ q⟩
/-! lists of characters -/
theorem at_D {ns : List Int} {e : Int} (h0 : 0 ≤ e) (h1 : e < (ns.length : Int)) : atI (ns.map V.int) e = some (.int (ns.getD e.toNat 0)) := by
  have h := atI_nat (xs := ns.map V.int) (j := e.toNat) (v := .int (ns.getD e.toNat 0)) (by
    have hl : e.toNat < ns.length := by omega
    rw [List.getElem?_map, List.getElem?_eq_getElem hl]
    simp [List.getD, List.getElem?_eq_getElem hl])
  rw [show ((e.toNat : Nat) : Int) = e by omega] at h
  exact h
theorem same_new {H : Hp} {p : Addr} {o : HO} (hp : H p = none) : Same H (upd H p o) := fun b u e => by
  rw [upd_ne (ne_of_none e hp)]
  exact e
theorem same_new2 {H H' : Hp} {p : Addr} {o : HO} (s : Same H H') (hp : H' p = none) : Same H (upd H' p o) := s.trans (same_new hp)
theorem inV_iff (x : Int) (l : List Int) : (inV (.int x) (l.map V.int) = true) ↔ x ∈ l := by
  unfold inV
  rw [List.any_map, List.any_eq_true]
  constructor
  · rintro ⟨y, hy, h⟩
    have : y = x := eq_of_beq (show (y == x) = true from h)
    exact this ▸ hy
  · intro h
    exact ⟨x, h, (show (x == x) = true from beq_self_eq_true x)⟩

/-! parts of a pattern, as they stand in the heap -/
inductive Part where
  | row
  | one
  | itself (c : Int)
  | set (neg : Bool) (ps : List (Int × Int))
def PairsIn (H : Hp) (p : Addr) (ps : List (Int × Int)) : Prop := ∃ ts : List Addr, H p = some (.lst (ts.map V.ref)) ∧ (∀ t ∈ ts, ∃ a b : Int, H t = some (.tup [.int a, .int b])) ∧ ps = ts.map (pairOf H)
/-- what was there is there, but for x -/
def Keep (H : Hp) (x : Addr) (H' : Hp) : Prop := ∀ b o, H b = some o → b ≠ x → H' b = some o
theorem Keep.of {H H' : Hp} {x : Addr} (s : Same H H') : Keep H x H' := fun b o h _ => s b o h
theorem Keep.trans {H H1 H2 : Hp} {x : Addr} (a : Keep H x H1) (b : Keep H1 x H2) : Keep H x H2 := fun c o h n => b c o (a c o h n) n
theorem PairsIn.keep {H H' : Hp} {p x : Addr} {ps : List (Int × Int)} (h : PairsIn H p ps) (k : Keep H x H') (hp : p ≠ x) (ht : ∀ t a b, H t = some (.tup [.int a, .int b]) → t ≠ x) : PairsIn H' p ps := by
  obtain ⟨ts, h1, h2, h3⟩ := h
  refine ⟨ts, k p _ h1 hp, fun t hm => ?_, ?_⟩
  · obtain ⟨a, b, e⟩ := h2 t hm
    exact ⟨a, b, k t _ e (ht t a b e)⟩
  · rw [h3]
    refine List.map_congr_left fun t hm => ?_
    obtain ⟨a, b, e⟩ := h2 t hm
    rw [pairOf_at e, pairOf_at (k t _ e (ht t a b e))]
theorem PairsIn.same {H H' : Hp} {p : Addr} {ps : List (Int × Int)} (h : PairsIn H p ps) (s : Same H H') : PairsIn H' p ps := by
  obtain ⟨ts, h1, h2, h3⟩ := h
  refine ⟨ts, s p _ h1, fun t hm => ?_, ?_⟩
  · obtain ⟨a, b, e⟩ := h2 t hm
    exact ⟨a, b, s t _ e⟩
  · rw [h3]
    refine List.map_congr_left fun t hm => ?_
    obtain ⟨a, b, e⟩ := h2 t hm
    rw [pairOf_at e, pairOf_at (s t _ e)]
theorem PairsIn.len {H : Hp} {p : Addr} {ps : List (Int × Int)} (h : PairsIn H p ps) : ∃ vs, H p = some (.lst vs) ∧ vs.length = ps.length := by
  obtain ⟨ts, h1, _, h3⟩ := h
  exact ⟨_, h1, by rw [h3, List.length_map, List.length_map]⟩
theorem PairsIn.nil {H : Hp} {p : Addr} (h : H p = some (.lst [])) : PairsIn H p [] := ⟨[], h, fun _ m => by simp at m, rfl⟩
/-- one pair more: t new, p the list -/
theorem PairsIn.snoc {H : Hp} {p t : Addr} {ps : List (Int × Int)} {a b : Int} (h : PairsIn H p ps) (ht : H t = none) :
    ∃ vs, (upd H t (.tup [.int a, .int b])) p = some (.lst vs) ∧ vs.length = ps.length ∧ PairsIn (upd (upd H t (.tup [.int a, .int b])) p (.lst (vs ++ [.ref t]))) p (ps ++ [(a, b)]) := by
  obtain ⟨ts, h1, h2, h3⟩ := h
  have npt : p ≠ t := ne_of_none h1 ht
  refine ⟨ts.map V.ref, by rw [upd_ne npt]; exact h1, by rw [h3, List.length_map, List.length_map], ts ++ [t], by rw [upd_same, List.map_append]; rfl, ?_, ?_⟩
  · intro u hu
    rcases List.mem_append.mp hu with hu | hu
    · obtain ⟨x, y, e⟩ := h2 u hu
      exact ⟨x, y, by rw [upd_ne (ne_of e h1 (by intro z; cases z)), upd_ne (ne_of_none e ht)]; exact e⟩
    · rw [List.mem_singleton.mp hu]
      exact ⟨a, b, by rw [upd_ne npt.symm, upd_same]⟩
  · rw [List.map_append, h3]
    refine congr (congrArg _ (List.map_congr_left fun u hu => ?_)) ?_
    · obtain ⟨x, y, e⟩ := h2 u hu
      rw [pairOf_at e, pairOf_at (a := x) (b := y) (by rw [upd_ne (ne_of e h1 (by intro z; cases z)), upd_ne (ne_of_none e ht)]; exact e)]
    · show [(a, b)] = [_]
      rw [pairOf_at (a := a) (b := b) (by rw [upd_ne npt.symm, upd_same])]
def kindOfSet (neg : Bool) : Str := if neg = true then "all but set" else "set"
def PartIs (rowA oneA l : Addr) (H : Hp) (v : V) : Part → Prop
  | .row => v = .ref rowA
  | .one => v = .ref oneA
  | .itself c => ∃ t, v = .ref t ∧ H t = some (.tup [.str "itself", .int c])
  | .set neg ps => ∃ t p, v = .ref t ∧ H t = some (.tup [.str (kindOfSet neg), .ref p]) ∧ p ≠ l ∧ PairsIn H p ps
def PartsIn (rowA oneA : Addr) (H : Hp) (l : Addr) (P : List Part) : Prop := ∃ vs, H l = some (.lst vs) ∧ RowsBy (PartIs rowA oneA l H) vs P
theorem RowsBy.imp {ρ : Type} {R R' : V → ρ → Prop} (f : ∀ v x, R v x → R' v x) : ∀ {vs : List V} {xs : List ρ}, RowsBy R vs xs → RowsBy R' vs xs
  | [], [], _ => trivial
  | [], _ :: _, h => (show False from h).elim
  | _ :: _, [], h => (show False from h).elim
  | _ :: _, _ :: _, h => ⟨f _ _ h.1, h.2.imp f⟩
theorem RowsBy.snoc {ρ : Type} {R : V → ρ → Prop} {v : V} {x : ρ} (hv : R v x) : ∀ {vs : List V} {xs : List ρ}, RowsBy R vs xs → RowsBy R (vs ++ [v]) (xs ++ [x])
  | [], [], _ => ⟨hv, trivial⟩
  | [], _ :: _, h => (show False from h).elim
  | _ :: _, [], h => (show False from h).elim
  | _ :: _, _ :: _, h => ⟨h.1, h.2.snoc hv⟩
theorem RowsBy.last {ρ : Type} {R : V → ρ → Prop} : ∀ {vs : List V} {xs : List ρ} {x : ρ}, RowsBy R vs xs → xs.getLast? = some x → ∃ v us, vs = us ++ [v] ∧ R v x
  | [], [], _, _, h => by simp at h
  | [], _ :: _, _, h, _ => (show False from h).elim
  | _ :: _, [], _, h, _ => (show False from h).elim
  | [v], [x], y, h, e => by
    have e' : x = y := by simpa using e
    exact ⟨v, [], rfl, e' ▸ h.1⟩
  | v :: u :: vs, [x], y, h, e => (show False from h.2).elim
  | [v], x :: z :: xs, y, h, e => (show False from h.2).elim
  | v :: u :: vs, x :: z :: xs, y, h, e => by
    obtain ⟨w, us, e1, r⟩ := RowsBy.last (vs := u :: vs) (xs := z :: xs) (x := y) h.2 (by simpa using e)
    exact ⟨w, v :: us, by rw [e1]; rfl, r⟩
theorem PartsIn.len {rowA oneA l : Addr} {H : Hp} {P : List Part} (h : PartsIn rowA oneA H l P) : ∃ vs, H l = some (.lst vs) ∧ vs.length = P.length := by
  obtain ⟨vs, h1, h2⟩ := h
  exact ⟨vs, h1, h2.len⟩
theorem PartIs.same {rowA oneA l : Addr} {H H' : Hp} {v : V} {x : Part} (s : Same H H') (h : PartIs rowA oneA l H v x) : PartIs rowA oneA l H' v x := by
  cases x with
  | row => exact h
  | one => exact h
  | itself c =>
    obtain ⟨t, e, h⟩ := h
    exact ⟨t, e, s _ _ h⟩
  | set neg ps =>
    obtain ⟨t, p, e, h, n, q⟩ := h
    exact ⟨t, p, e, s _ _ h, n, q.same s⟩
theorem PartsIn.same {rowA oneA l : Addr} {H H' : Hp} {P : List Part} (s : Same H H') (h : PartsIn rowA oneA H l P) : PartsIn rowA oneA H' l P := by
  obtain ⟨vs, h1, h2⟩ := h
  exact ⟨vs, s _ _ h1, h2.imp fun v x r => r.same s⟩
/-- the list itself grows -/
theorem PartIs.grow {rowA oneA l : Addr} {H : Hp} {v : V} {x : Part} {us : List V} {o : HO} (hl : H l = some (.lst us)) (h : PartIs rowA oneA l H v x) : PartIs rowA oneA l (upd H l o) v x := by
  cases x with
  | row => exact h
  | one => exact h
  | itself c =>
    obtain ⟨t, e, h⟩ := h
    exact ⟨t, e, by rw [upd_ne (ne_of h hl (by intro z; cases z))]; exact h⟩
  | set neg ps =>
    obtain ⟨t, p, e, h, n, q⟩ := h
    exact ⟨t, p, e, by rw [upd_ne (ne_of h hl (by intro z; cases z))]; exact h, n, q.keep (x := l) (fun b u hb hn => by rw [upd_ne hn]; exact hb) n fun t a b ht => ne_of ht hl (by intro z; cases z)⟩
theorem PartsIn.snoc {rowA oneA l : Addr} {H : Hp} {P : List Part} {v : V} {x : Part} (h : PartsIn rowA oneA H l P) (hv : PartIs rowA oneA l H v x) :
    ∃ vs, H l = some (.lst vs) ∧ vs.length = P.length ∧ PartsIn rowA oneA (upd H l (.lst (vs ++ [v]))) l (P ++ [x]) := by
  obtain ⟨vs, h1, h2⟩ := h
  exact ⟨vs, h1, h2.len, vs ++ [v], upd_same, RowsBy.snoc (hv.grow h1) (h2.imp fun _ _ r => r.grow h1)⟩
theorem PartsIn.nil {rowA oneA l : Addr} {H : Hp} (h : H l = some (.lst [])) : PartsIn rowA oneA H l [] := ⟨[], h, trivial⟩
/-- the stretches of a set's text -/
def stretchOf : List Int → List (Int × Int)
  | [] => []
  | [c] => [(c, c)]
  | [c, d] => (c, c) :: stretchOf [d]
  | c :: d :: e :: t => if d = 45 then (c, e) :: stretchOf t else (c, c) :: stretchOf (d :: e :: t)
def slice (ns : List Int) (a b : Int) : List Int := (ns.drop a.toNat).take (b - a).toNat
theorem slice_end (ns : List Int) {a b : Int} (h : b ≤ a) : slice ns a b = [] := by
  unfold slice
  rw [show (b - a).toNat = 0 by omega]
  rfl
theorem slice_cons {ns : List Int} {a b : Int} (h0 : 0 ≤ a) (h1 : a < b) (h2 : b ≤ (ns.length : Int)) : slice ns a b = ns.getD a.toNat 0 :: slice ns (a + 1) b := by
  unfold slice
  rw [Wt.drop_at h0 (by omega), show (b - a).toNat = (b - (a + 1)).toNat + 1 by omega]
  rfl
theorem slice_len {ns : List Int} {a b : Int} (h0 : 0 ≤ a) (h1 : a ≤ b) (h2 : b ≤ (ns.length : Int)) : ((slice ns a b).length : Int) = b - a := by
  unfold slice
  rw [List.length_take, List.length_drop]
  omega
theorem stretch_three {ns : List Int} {a b : Int} (h0 : 0 ≤ a) (h1 : a + 2 < b) (h2 : b ≤ (ns.length : Int)) (h : ns.getD (a + 1).toNat 0 = 45) :
    stretchOf (slice ns a b) = (ns.getD a.toNat 0, ns.getD (a + 2).toNat 0) :: stretchOf (slice ns (a + 3) b) := by
  rw [slice_cons h0 (by omega) h2, slice_cons (by omega) (by omega) h2, slice_cons (by omega) (by omega) h2, stretchOf, if_pos h]
  have e2 : a + 1 + 1 = a + 2 := by omega
  have e3 : a + 1 + 1 + 1 = a + 3 := by omega
  rw [e3, e2]
theorem stretch_one {ns : List Int} {a b : Int} (h0 : 0 ≤ a) (h1 : a < b) (h2 : b ≤ (ns.length : Int)) (h : ¬ (a + 2 < b ∧ ns.getD (a + 1).toNat 0 = 45)) :
    stretchOf (slice ns a b) = (ns.getD a.toNat 0, ns.getD a.toNat 0) :: stretchOf (slice ns (a + 1) b) := by
  rw [slice_cons h0 h1 h2]
  by_cases h3 : a + 1 < b
  · rw [slice_cons (by omega) h3 h2]
    by_cases h4 : a + 1 + 1 < b
    · rw [slice_cons (by omega) h4 h2, stretchOf, if_neg (fun z => h ⟨by omega, z⟩)]
    · rw [slice_end ns (by omega)]
      rfl
  · rw [slice_end ns (by omega)]
    rfl
theorem stretch_len : ∀ l : List Int, (stretchOf l).length ≤ l.length
  | [] => Nat.le_refl _
  | [_] => Nat.le_refl _
  | [c, d] => by
    have := stretch_len [d]
    rw [stretchOf, List.length_cons, List.length_cons]
    omega
  | c :: d :: e :: t => by
    rw [stretchOf]
    split
    · have := stretch_len t
      simp only [List.length_cons]
      omega
    · have := stretch_len (d :: e :: t)
      rw [List.length_cons, List.length_cons]
      omega
def top (i : Nat) : Stmt := PySem.Challenge.pw_widetexts_s07_match_of.main.body.getD i (.Pass ⟨0, 0, 0, 0⟩)
abbrev s_turned : Stmt := top 4
theorem sc_turned : FnScope ["c", "rows", "first", "last", "turned_first"] ["c", "rows"] (defScope s_turned) := ⟨rfl, rfl, rfl, by decide +kernel, rfl, by decide +kernel, by decide +kernel⟩
abbrev s_small_letter : Stmt := top 5
theorem sc_small_letter : FnScope ["c"] ["c"] (defScope s_small_letter) := ⟨rfl, rfl, rfl, by decide +kernel, rfl, by decide +kernel, by decide +kernel⟩
abbrev s_capital : Stmt := top 6
theorem sc_capital : FnScope ["c"] ["c"] (defScope s_capital) := ⟨rfl, rfl, rfl, by decide +kernel, rfl, by decide +kernel, by decide +kernel⟩
abbrev s_last_place : Stmt := top 17
theorem sc_last_place : FnScope ["c", "text", "k"] ["c", "text"] (defScope s_last_place) := ⟨rfl, rfl, rfl, by decide +kernel, rfl, by decide +kernel, by decide +kernel⟩
abbrev s_set_start : Stmt := top 18
theorem sc_set_start : FnScope ["pattern", "k"] ["pattern", "k"] (defScope s_set_start) := ⟨rfl, rfl, rfl, by decide +kernel, rfl, by decide +kernel, by decide +kernel⟩
abbrev s_set_end : Stmt := top 19
theorem sc_set_end : FnScope ["pattern", "start", "end"] ["pattern", "start"] (defScope s_set_end) := ⟨rfl, rfl, rfl, by decide +kernel, rfl, by decide +kernel, by decide +kernel⟩
abbrev s_stretches_between : Stmt := top 20
theorem sc_stretches_between : FnScope ["pattern", "start", "end", "stretches", "k"] ["pattern", "start", "end"] (defScope s_stretches_between) := ⟨rfl, rfl, rfl, by decide +kernel, rfl, by decide +kernel, by decide +kernel⟩
abbrev s_parts_of : Stmt := top 21
theorem sc_parts_of : FnScope ["pattern", "parts", "last_closing", "k", "c", "start", "end", "kind"] ["pattern"] (defScope s_parts_of) := ⟨rfl, rfl, rfl, by decide +kernel, rfl, by decide +kernel, by decide +kernel⟩
abbrev s_turns_of : Stmt := top 22
theorem sc_turns_of : FnScope ["stretches", "bit", "turns", "done", "first", "last", "start"] ["stretches", "bit"] (defScope s_turns_of) := ⟨rfl, rfl, rfl, by decide +kernel, rfl, by decide +kernel, by decide +kernel⟩
abbrev s___init__ : Stmt := inClass (top 23) 0
theorem sc___init__ : FnScope ["self", "parts", "turns", "bit", "kind", "what", "bound", "turned_bit"] ["self", "parts"] (defScope s___init__) := ⟨rfl, rfl, rfl, by decide +kernel, rfl, by decide +kernel, by decide +kernel⟩
abbrev s_sets_with : Stmt := inClass (top 23) 1
theorem sc_sets_with : FnScope ["self", "c", "low", "high", "middle"] ["self", "c"] (defScope s_sets_with) := ⟨rfl, rfl, rfl, by decide +kernel, rfl, by decide +kernel, by decide +kernel⟩
abbrev s_fitting : Stmt := inClass (top 23) 2
theorem sc_fitting : FnScope ["self", "c", "small", "sets"] ["self", "c"] (defScope s_fitting) := ⟨rfl, rfl, rfl, by decide +kernel, rfl, by decide +kernel, by decide +kernel⟩
abbrev s_past_rows : Stmt := top 24
theorem sc_past_rows : FnScope ["reached", "rows"] ["reached", "rows"] (defScope s_past_rows) := ⟨rfl, rfl, rfl, by decide +kernel, rfl, by decide +kernel, by decide +kernel⟩
abbrev s_match_of : Stmt := top 25
theorem sc_match_of : FnScope ["pattern", "text", "parts", "bits", "reached", "c", "stayed", "stepped"] ["pattern", "text"] (defScope s_match_of) := ⟨rfl, rfl, rfl, by decide +kernel, rfl, by decide +kernel, by decide +kernel⟩
abbrev tTO_SMALL : List (Int × Int × Int) := [(65, 90, 97), (192, 214, 224), (216, 222, 248), (376, 376, 255), (383, 383, 115), (913, 929, 945), (931, 937, 963), (962, 962, 963), (1024, 1039, 1104), (1040, 1071, 1072), (8490, 8490, 107), (65313, 65338, 65345)]
abbrev tTO_CAPITAL : List (Int × Int × Int) := [(97, 122, 65), (224, 246, 192), (248, 254, 216), (255, 255, 376), (383, 383, 83), (945, 961, 913), (962, 962, 931), (963, 969, 931), (1072, 1103, 1040), (1104, 1119, 1024), (65345, 65370, 65313)]
theorem boot_sorted7 : PySem.bootBuiltins "sorted" = some (.builtin "sorted") := by decide +kernel
structure Txt (K : PySem.W.Frag) (mg : Str → Option Value) where
  len : mg "len" = none
  max : mg "max" = none
  sorted : mg "sorted" = none
  tk_BACKSLASH : Tok
  g_BACKSLASH : mg "BACKSLASH" = some (.int 92 tk_BACKSLASH)
  tk_EXCLAMATION : Tok
  g_EXCLAMATION : mg "EXCLAMATION" = some (.int 33 tk_EXCLAMATION)
  tk_STAR : Tok
  g_STAR : mg "STAR" = some (.int 42 tk_STAR)
  tk_HYPHEN : Tok
  g_HYPHEN : mg "HYPHEN" = some (.int 45 tk_HYPHEN)
  tk_QUESTION : Tok
  g_QUESTION : mg "QUESTION" = some (.int 63 tk_QUESTION)
  tk_OPENING : Tok
  g_OPENING : mg "OPENING" = some (.int 91 tk_OPENING)
  tk_CLOSING : Tok
  g_CLOSING : mg "CLOSING" = some (.int 93 tk_CLOSING)
  tk_CARET : Tok
  g_CARET : mg "CARET" = some (.int 94 tk_CARET)
  a_TO_SMALL : Addr
  g_TO_SMALL : mg "TO_SMALL" = some (.ref a_TO_SMALL)
  t_TO_SMALL : Tab3 K a_TO_SMALL tTO_SMALL
  a_TO_CAPITAL : Addr
  g_TO_CAPITAL : mg "TO_CAPITAL" = some (.ref a_TO_CAPITAL)
  t_TO_CAPITAL : Tab3 K a_TO_CAPITAL tTO_CAPITAL
  a_ANY_ROW : Addr
  e_ANY_ROW : Addr
  g_ANY_ROW : mg "ANY_ROW" = some (.ref a_ANY_ROW)
  t_ANY_ROW : TupK K a_ANY_ROW [.str "row", .ref e_ANY_ROW]
  a_ANY_ONE : Addr
  e_ANY_ONE : Addr
  g_ANY_ONE : mg "ANY_ONE" = some (.ref a_ANY_ONE)
  t_ANY_ONE : TupK K a_ANY_ONE [.str "one", .ref e_ANY_ONE]
  C : Addr
  cl : Cls K C
  mgC : mg "PartBits" = some (.ref C)
  n_rows : NoAttr K C "rows"
  n_ones : NoAttr K C "ones"
  n_turned_round : NoAttr K C "turned_round"
  n_by_letter : NoAttr K C "by_letter"
  n_bounds : NoAttr K C "bounds"
  n_sets_from_bounds : NoAttr K C "sets_from_bounds"
  a_turned : Addr
  fd_turned : FuncData
  F_turned : Fun K "turned" "turned" s_turned a_turned fd_turned
  B_turned : Binds K fd_turned ["c", "rows"] []
  m_turned : mg "turned" = some (.ref a_turned)
  k_turned : PySem.W.keepIn K (.ref a_turned) = true
  a_small_letter : Addr
  fd_small_letter : FuncData
  F_small_letter : Fun K "small_letter" "small_letter" s_small_letter a_small_letter fd_small_letter
  B_small_letter : Binds K fd_small_letter ["c"] []
  m_small_letter : mg "small_letter" = some (.ref a_small_letter)
  k_small_letter : PySem.W.keepIn K (.ref a_small_letter) = true
  a_capital : Addr
  fd_capital : FuncData
  F_capital : Fun K "capital" "capital" s_capital a_capital fd_capital
  B_capital : Binds K fd_capital ["c"] []
  m_capital : mg "capital" = some (.ref a_capital)
  k_capital : PySem.W.keepIn K (.ref a_capital) = true
  a_last_place : Addr
  fd_last_place : FuncData
  F_last_place : Fun K "last_place" "last_place" s_last_place a_last_place fd_last_place
  B_last_place : Binds K fd_last_place ["c", "text"] []
  m_last_place : mg "last_place" = some (.ref a_last_place)
  k_last_place : PySem.W.keepIn K (.ref a_last_place) = true
  a_set_start : Addr
  fd_set_start : FuncData
  F_set_start : Fun K "set_start" "set_start" s_set_start a_set_start fd_set_start
  B_set_start : Binds K fd_set_start ["pattern", "k"] []
  m_set_start : mg "set_start" = some (.ref a_set_start)
  k_set_start : PySem.W.keepIn K (.ref a_set_start) = true
  a_set_end : Addr
  fd_set_end : FuncData
  F_set_end : Fun K "set_end" "set_end" s_set_end a_set_end fd_set_end
  B_set_end : Binds K fd_set_end ["pattern", "start"] []
  m_set_end : mg "set_end" = some (.ref a_set_end)
  k_set_end : PySem.W.keepIn K (.ref a_set_end) = true
  a_stretches_between : Addr
  fd_stretches_between : FuncData
  F_stretches_between : Fun K "stretches_between" "stretches_between" s_stretches_between a_stretches_between fd_stretches_between
  B_stretches_between : Binds K fd_stretches_between ["pattern", "start", "end"] []
  m_stretches_between : mg "stretches_between" = some (.ref a_stretches_between)
  k_stretches_between : PySem.W.keepIn K (.ref a_stretches_between) = true
  a_parts_of : Addr
  fd_parts_of : FuncData
  F_parts_of : Fun K "parts_of" "parts_of" s_parts_of a_parts_of fd_parts_of
  B_parts_of : Binds K fd_parts_of ["pattern"] []
  m_parts_of : mg "parts_of" = some (.ref a_parts_of)
  k_parts_of : PySem.W.keepIn K (.ref a_parts_of) = true
  a_turns_of : Addr
  fd_turns_of : FuncData
  F_turns_of : Fun K "turns_of" "turns_of" s_turns_of a_turns_of fd_turns_of
  B_turns_of : Binds K fd_turns_of ["stretches", "bit"] []
  m_turns_of : mg "turns_of" = some (.ref a_turns_of)
  k_turns_of : PySem.W.keepIn K (.ref a_turns_of) = true
  a___init__ : Addr
  fd___init__ : FuncData
  F___init__ : Fun K "__init__" "PartBits.__init__" s___init__ a___init__ fd___init__
  B___init__ : Binds K fd___init__ ["self", "parts"] []
  MK : Mk K C a___init__
  a_sets_with : Addr
  fd_sets_with : FuncData
  F_sets_with : Fun K "sets_with" "PartBits.sets_with" s_sets_with a_sets_with fd_sets_with
  B_sets_with : Binds K fd_sets_with ["self", "c"] []
  M_sets_with : Meth K C "sets_with" a_sets_with
  a_fitting : Addr
  fd_fitting : FuncData
  F_fitting : Fun K "fitting" "PartBits.fitting" s_fitting a_fitting fd_fitting
  B_fitting : Binds K fd_fitting ["self", "c"] []
  M_fitting : Meth K C "fitting" a_fitting
  a_past_rows : Addr
  fd_past_rows : FuncData
  F_past_rows : Fun K "past_rows" "past_rows" s_past_rows a_past_rows fd_past_rows
  B_past_rows : Binds K fd_past_rows ["reached", "rows"] []
  m_past_rows : mg "past_rows" = some (.ref a_past_rows)
  k_past_rows : PySem.W.keepIn K (.ref a_past_rows) = true
  a_match_of : Addr
  fd_match_of : FuncData
  F_match_of : Fun K "match_of" "match_of" s_match_of a_match_of fd_match_of
  B_match_of : Binds K fd_match_of ["pattern", "text"] []
  m_match_of : mg "match_of" = some (.ref a_match_of)
  k_match_of : PySem.W.keepIn K (.ref a_match_of) = true
section
variable {P : Program} {w : World} {K : PySem.W.Frag} {mg : Str → Option Value} {base : Heap}
end
end Toy

end
section
set_option Elab.async false
set_option linter.all false
set_option maxRecDepth 100000
set_option maxHeartbeats 4000000
namespace Toy
open PySem PySem.Spec PyProof.Rows L2
open PySem.W (Codec)
section
variable {P : Program} {w : World} {K : PySem.W.Frag} {mg : Str → Option Value} {base : Heap}
theorem ok_turned (T : Txt K mg) : FnOk P w K mg base CX0 1 T.a_turned T.fd_turned ["c", "rows"] (spTurned K) := by
  refine T.F_turned.ok sc_turned (fun vs H Q E h => ?_) (fun cdv A outer s H vs Q E hr h => ?_)
  · obtain ⟨c, tb, rows, rfl, _⟩ := h
    rfl
  · obtain ⟨c, tb, rows, rfl, ⟨tvs, hT, hR⟩, k⟩ := h
    have hu := hu_of hr
    refine ⟨_, (pss_cons (ps_for PassesOwn.never rfl (pi_tup (pv 1)) (pg_tup rfl (pgs_cons (pg_name (i := 2) sc_turned.nd rfl (Or.inl rfl)) (pgs_cons (pg_name (i := 3) sc_turned.nd rfl (Or.inl rfl)) (pgs_cons (pg_name (i := 4) sc_turned.nd rfl (Or.inl rfl)) pgs_nil))))
        (pss_one (ps_if (pt_chain op_le op_le (pv 2) (pv 0) (pv 3))
          (pss_one (ps_ret (pe_op op_add (pe_op op_sub (pv 0) (pv 2)) (pv 4))))
          pss_nil)))
      (pss_one (ps_ret (pv 0)))), ?_⟩
    refine ⟨_, rfl, tb, rfl, ⟨_, .inr hT⟩, for_tup (K := K) (a := tb) (xs := tvs) (fun i σ H' => ∃ v2 v3 v4, σ = [some (.int c), some (.ref tb), v2, v3, v4] ∧ H' = H ∧ turnOf (rows.drop i) c = turnOf rows c)
      ⟨none, none, none, rfl, rfl, rfl⟩ (fun _ _ _ _ _ => .inr hT) ?_ ?_⟩
    · rintro i x σ H' hx ⟨v2, v3, v4, rfl, rfl, e⟩
      obtain ⟨⟨a, b, d⟩, hd, r, rfl, hr3⟩ := hR.at hx
      rw [hd] at e
      refine ⟨r, _, rfl, .inr hr3, rfl, _, _, rfl, _, _, rfl, _, _, rfl, rfl, ?_⟩
      refine ⟨_, rfl, _, rfl, _, _, rfl, rfl, _, rfl, ?_⟩
      refine ite2 (fun h1 => ?_) (fun h1 => ?_)
      · refine ⟨_, rfl, _, _, rfl, rfl, _, rfl, ite2 (fun h2 => ?_) (fun h2 => ?_)⟩
        · refine ⟨_, rfl, _, rfl, _, _, rfl, rfl, _, rfl, _, _, rfl, rfl, ?_⟩
          have e1 : c - a + d = turnOf rows c := by
            rw [← e, turnOf, if_pos ⟨of_decide_eq_true h1, of_decide_eq_true h2⟩]
          show Q (.int (c - a + d)) H'
          rw [e1]
          exact k
        · refine ⟨_, _, _, rfl, rfl, ?_⟩
          rw [← e, turnOf, if_neg (fun q => h2 (decide_eq_true q.2))]
      · refine ⟨_, rfl, iteF ⟨_, _, _, rfl, rfl, ?_⟩⟩
        rw [← e, turnOf, if_neg (fun q => h1 (decide_eq_true q.1))]
    · rintro σ H' ⟨v2, v3, v4, rfl, rfl, e⟩
      rw [hR.len, List.drop_length] at e
      refine ⟨_, rfl, ?_⟩
      rw [← e] at k
      exact k
theorem ok_small_letter (T : Txt K mg) : FnOk P w K mg base CX0 2 T.a_small_letter T.fd_small_letter ["c"] (sp1 fun c => .int (turnOf tTO_SMALL c)) := by
  have G_turned := ok_turned (P := P) (w := w) (base := base) T
  refine T.F_small_letter.ok sc_small_letter (fun vs H Q E h => ?_) (fun cdv A outer s H vs Q E hr h => ?_)
  · obtain ⟨c, rfl, _⟩ := h
    rfl
  · obtain ⟨c, rfl, k⟩ := h
    have hr_turned : Room 1 _ := hr.mono (by decide)
    have hu := hu_of hr
    refine ⟨_, (pss_one (ps_ret (pe_call G_turned hr_turned (by rfl) T.m_turned T.k_turned T.B_turned .nil pass0 (pa_cons (pv 0) (pa_cons (pe_glob (v := .ref T.a_TO_SMALL) (by rfl) T.g_TO_SMALL rfl) pa_nil))))), ?_⟩
    exact ⟨_, rfl, c, T.a_TO_SMALL, _, rfl, T.t_TO_SMALL, k⟩
theorem ok_capital (T : Txt K mg) : FnOk P w K mg base CX0 2 T.a_capital T.fd_capital ["c"] (sp1 fun c => .int (turnOf tTO_CAPITAL c)) := by
  have G_turned := ok_turned (P := P) (w := w) (base := base) T
  refine T.F_capital.ok sc_capital (fun vs H Q E h => ?_) (fun cdv A outer s H vs Q E hr h => ?_)
  · obtain ⟨c, rfl, _⟩ := h
    rfl
  · obtain ⟨c, rfl, k⟩ := h
    have hr_turned : Room 1 _ := hr.mono (by decide)
    have hu := hu_of hr
    refine ⟨_, (pss_one (ps_ret (pe_call G_turned hr_turned (by rfl) T.m_turned T.k_turned T.B_turned .nil pass0 (pa_cons (pv 0) (pa_cons (pe_glob (v := .ref T.a_TO_CAPITAL) (by rfl) T.g_TO_CAPITAL rfl) pa_nil))))), ?_⟩
    exact ⟨_, rfl, c, T.a_TO_CAPITAL, _, rfl, T.t_TO_CAPITAL, k⟩
def spLast (K : PySem.W.Frag) : Sp := fun vs H Q _ => ∃ (c : Int) (a : Addr) (ns : List Int), vs = [.int c, .ref a] ∧ SqL K H a (ns.map V.int) ∧ ∀ k : Int, -1 ≤ k → k < (ns.length : Int) → (∀ j : Int, k < j → j < (ns.length : Int) → ns.getD j.toNat 0 ≠ c) → (k = -1 ∨ ns.getD k.toNat 0 = c) → Q (.int k) H
theorem ok_last_place (T : Txt K mg) : FnOk P w K mg base CX0 1 T.a_last_place T.fd_last_place ["c", "text"] (spLast K) := by
  refine T.F_last_place.ok sc_last_place (fun vs H Q E h => ?_) (fun cdv A outer s H vs Q E hr h => ?_)
  · obtain ⟨c, a, ns, rfl, _⟩ := h
    rfl
  · obtain ⟨c, a, ns, rfl, hS, k⟩ := h
    have hu := hu_of hr
    refine ⟨_, (pss_cons (ps_set (i := 2) sc_last_place.nd rfl (Or.inl rfl) (pe_op op_sub (pe_callB call_len_seq (by rfl) T.len PySem.boot_len (pa_cons (pv 1) pa_nil)) pe_int))
      (pss_cons (ps_while PassesOwn.never (PW.pt (pw_and (pt_cmpR op_ge (pv 2) pe_int (nomark _)) (pw_and1 (pt_cmpR op_ne (pe_ix ix_list (pv 1) (pv 2) (fun _ _ => rfl)) (pv 0) (nomark _)))))
        (pss_one (ps_set (i := 2) sc_last_place.nd rfl (Or.inl rfl) (pe_op op_sub (pv 2) pe_int))))
      (pss_one (ps_ret (pv 2))))), ?_⟩
    refine ⟨_, rfl, a, _, rfl, .inl hS, _, _, rfl, rfl, ?_⟩
    refine while_by (fun σ H' => ∃ i : Int, σ = [some (.int c), some (.ref a), some (.int i)] ∧ H' = H ∧ -1 ≤ i ∧ i < (ns.length : Int) ∧ ∀ j : Int, i < j → j < (ns.length : Int) → ns.getD j.toNat 0 ≠ c)
      (fun σ _ => match σ with | [_, _, some (.int e)] => (e + 1).toNat | _ => 0) ?_ ?_ (by show MonT _; (repeat (first | apply mon_and | apply mon_test | apply mon_B | apply mon_op | apply mon_call | apply mon_cb | apply mon_un | apply mon_cons | exact mon_nil | exact mon_var _ | exact mon_C _ | exact mon_i0 _ | exact mon_eq | exact mon_ne | exact mon_ix _ | exact mon_len _ | exact mon_sp1 _)))
    · exact ⟨_, rfl, rfl, by rw [List.length_map]; omega, by rw [List.length_map]; omega, fun j h1 h2 => by rw [List.length_map] at h1; omega⟩
    rintro σ H' ⟨i, rfl, rfl, i0, i1, hn⟩
    refine ⟨_, rfl, _, _, rfl, rfl, _, rfl, ite2 (fun h => ?_) (fun h => ?_)⟩
    · have h0 : 0 ≤ i := of_decide_eq_true h
      refine ⟨_, rfl, _, rfl, a, _, _, _, rfl, rfl, hS, at_D h0 i1, _, rfl, rfl, _, rfl, ite2 (fun h2 => ?_) (fun h2 => ?_)⟩
      · have h2' : ns.getD i.toNat 0 ≠ c := fun z => by
          rw [z] at h2
          simp at h2
        refine ⟨_, rfl, _, _, rfl, rfl, ⟨i - 1, rfl, rfl, by omega, by omega, fun j h3 h4 => ?_⟩, ?_⟩
        · by_cases e : j = i
          · rw [e]
            exact h2'
          · exact hn j (by omega) h4
        · show (i - 1 + 1).toNat < (i + 1).toNat
          omega
      · have h2' : ns.getD i.toNat 0 = c := by
          by_cases z : ns.getD i.toNat 0 = c
          · exact z
          · exact absurd (show (!decide (V.int (ns.getD i.toNat 0) = V.int c)) = true by rw [decide_eq_false (fun w => z (V.int.inj w))]; rfl) h2
        exact ⟨_, rfl, k i i0 i1 hn (.inr h2')⟩
    · exact iteF ⟨_, rfl, k i i0 i1 hn (.inl (by have : ¬ 0 ≤ i := fun z => h (decide_eq_true z); omega))⟩
def setStart (ns : List Int) (k : Int) : Int := if k + 1 < (ns.length : Int) ∧ ns.getD (k + 1).toNat 0 ∈ [33, 94] then k + 2 else k + 1
def spStart (K : PySem.W.Frag) : Sp := fun vs H Q _ => ∃ (a : Addr) (ns : List Int) (k : Int), vs = [.ref a, .int k] ∧ SqL K H a (ns.map V.int) ∧ 0 ≤ k ∧ ∀ H' : Hp, Same H H' → Q (.int (setStart ns k)) H'
theorem ok_set_start (T : Txt K mg) : FnOk P w K mg base CX0 1 T.a_set_start T.fd_set_start ["pattern", "k"] (spStart K) := by
  refine T.F_set_start.ok sc_set_start (fun vs H Q E h => ?_) (fun cdv A outer s H vs Q E hr h => ?_)
  · obtain ⟨a, ns, i, rfl, _⟩ := h
    rfl
  · obtain ⟨a, ns, i, rfl, hS, i0, k⟩ := h
    have hu := hu_of hr
    refine ⟨_, (pss_cons (ps_if (PW.pt (pw_and (pt_cmpR op_lt (pe_op op_add (pv 1) pe_int) (pe_callB call_len_seq (by rfl) T.len PySem.boot_len (pa_cons (pv 0) pa_nil)) (nomark _)) (pw_and1 (pt_cmpR op_in_seq (pe_ix ix_list (pv 0) (pe_op op_add (pv 1) pe_int) (fun _ _ => rfl)) (pe_tup (pa_cons (pe_glob (v := .int 33) (by rfl) T.g_EXCLAMATION ⟨_, rfl⟩) (pa_cons (pe_glob (v := .int 94) (by rfl) T.g_CARET ⟨_, rfl⟩) pa_nil))) (by rfl)))))
        (pss_one (ps_ret (pe_op op_add (pv 1) pe_int)))
        pss_nil)
      (pss_one (ps_ret (pe_op op_add (pv 1) pe_int)))), ?_⟩
    refine ⟨_, rfl, _, _, rfl, rfl, _, rfl, a, _, rfl, .inl hS, _, _, rfl, rfl, _, rfl, ite2 (fun h => ?_) (fun h => ?_)⟩
    · have hl : i + 1 < (ns.length : Int) := by
        have := of_decide_eq_true h
        rwa [List.length_map] at this
      refine ⟨_, rfl, _, rfl, _, _, rfl, rfl, a, _, _, _, rfl, rfl, hS, at_D (by omega) hl, (by show 2 ≤ sizeLine; decide), fun t ht => ?_⟩
      have sm := same_new (o := .tup [.int 33, .int 94]) ht
      have k1 := k _ sm
      unfold setStart at k1
      refine ⟨t, _, rfl, .inr (SqT.of upd_same), rfl, rfl, _, rfl, ite2 (fun h2 => ?_) (fun h2 => ?_)⟩
      · rw [if_pos ⟨hl, (inV_iff _ [33, 94]).mp h2⟩] at k1
        exact ⟨_, rfl, _, _, rfl, rfl, k1⟩
      · rw [if_neg (fun z => h2 ((inV_iff _ [33, 94]).mpr z.2))] at k1
        exact ⟨_, rfl, _, _, rfl, rfl, k1⟩
    · have k1 := k H (Same.refl H)
      unfold setStart at k1
      rw [if_neg (fun z => h (decide_eq_true (by rw [List.length_map]; exact z.1)))] at k1
      exact iteF ⟨_, rfl, _, _, rfl, rfl, k1⟩
def spEnd (K : PySem.W.Frag) : Sp := fun vs H Q _ => ∃ (a : Addr) (ns : List Int) (st m : Int), vs = [.ref a, .int st] ∧ SqL K H a (ns.map V.int) ∧ 0 ≤ st ∧ st < m ∧ m < (ns.length : Int) ∧ ns.getD m.toNat 0 = 93 ∧
  ∀ e : Int, st < e → e < (ns.length : Int) → ns.getD e.toNat 0 = 93 → (∀ j : Int, st < j → j < e → ns.getD j.toNat 0 ≠ 93) → Q (.int e) H
theorem ok_set_end (T : Txt K mg) : FnOk P w K mg base CX0 1 T.a_set_end T.fd_set_end ["pattern", "start"] (spEnd K) := by
  refine T.F_set_end.ok sc_set_end (fun vs H Q E h => ?_) (fun cdv A outer s H vs Q E hr h => ?_)
  · obtain ⟨a, ns, st, m, rfl, _⟩ := h
    rfl
  · obtain ⟨a, ns, st, m, rfl, hS, s0, sm, ml, hm, k⟩ := h
    have hu := hu_of hr
    refine ⟨_, (pss_cons (ps_set (i := 2) sc_set_end.nd rfl (Or.inl rfl) (pe_op op_add (pv 1) pe_int))
      (pss_cons (ps_while PassesOwn.never (pt_cmpR op_ne (pe_ix ix_list (pv 0) (pv 2) (fun _ _ => rfl)) (pe_glob (v := .int 93) (by rfl) T.g_CLOSING ⟨_, rfl⟩) (nomark _))
        (pss_one (ps_set (i := 2) sc_set_end.nd rfl (Or.inl rfl) (pe_op op_add (pv 2) pe_int))))
      (pss_one (ps_ret (pv 2))))), ?_⟩
    refine ⟨_, rfl, _, _, rfl, rfl, ?_⟩
    refine while_by (fun σ H' => ∃ e : Int, σ = [some (.ref a), some (.int st), some (.int e)] ∧ H' = H ∧ st < e ∧ e ≤ m ∧ ∀ j : Int, st < j → j < e → ns.getD j.toNat 0 ≠ 93)
      (fun σ _ => match σ with | [_, _, some (.int e)] => (m - e).toNat | _ => 0) ⟨st + 1, rfl, rfl, by omega, by omega, fun j h1 h2 => by omega⟩ ?_ (by show MonT _; (repeat (first | apply mon_and | apply mon_test | apply mon_B | apply mon_op | apply mon_call | apply mon_cb | apply mon_un | apply mon_cons | exact mon_nil | exact mon_var _ | exact mon_C _ | exact mon_i0 _ | exact mon_eq | exact mon_ne | exact mon_ix _ | exact mon_len _ | exact mon_sp1 _)))
    rintro σ H' ⟨e, rfl, rfl, e0, e1, hn⟩
    refine ⟨_, rfl, _, rfl, a, _, _, _, rfl, rfl, hS, at_D (by omega) (by omega), rfl, _, rfl, ite2 (fun h => ?_) (fun h => ?_)⟩
    · have h' : ns.getD e.toNat 0 ≠ 93 := fun z => by
        rw [z] at h
        simp at h
      have hem : e ≠ m := fun z => h' (z ▸ hm)
      refine ⟨_, rfl, _, _, rfl, rfl, ⟨e + 1, rfl, rfl, by omega, by omega, fun j h1 h2 => ?_⟩, ?_⟩
      · by_cases z : j = e
        · rw [z]
          exact h'
        · exact hn j h1 (by omega)
      · show (m - (e + 1)).toNat < (m - e).toNat
        omega
    · have h' : ns.getD e.toNat 0 = 93 := by
        by_cases z : ns.getD e.toNat 0 = 93
        · exact z
        · exact absurd (show (!decide (V.int (ns.getD e.toNat 0) = V.int 93)) = true by rw [decide_eq_false (fun w => z (V.int.inj w))]; rfl) h
      exact ⟨_, rfl, k e e0 (by omega) h' hn⟩
def spStretch (K : PySem.W.Frag) : Sp := fun vs H Q _ => ∃ (a : Addr) (ns : List Int) (st en : Int), vs = [.ref a, .int st, .int en] ∧ SqL K H a (ns.map V.int) ∧ 0 ≤ st ∧ st ≤ en ∧ en ≤ (ns.length : Int) ∧ ns.length ≤ 30000 ∧
  ∀ (H' : Hp) (p : Addr), H p = none → Same H H' → PairsIn H' p (stretchOf (slice ns st en)) → Q (.ref p) H'
theorem ok_stretches_between (T : Txt K mg) : FnOk P w K mg base CX0 1 T.a_stretches_between T.fd_stretches_between ["pattern", "start", "end"] (spStretch K) := by
  refine T.F_stretches_between.ok sc_stretches_between (fun vs H Q E h => ?_) (fun cdv A outer s H vs Q E hr h => ?_)
  · obtain ⟨a, ns, st, en, rfl, _⟩ := h
    rfl
  · obtain ⟨a, ns, st, en, rfl, hS, s0, se, el, hlen, k⟩ := h
    have hu := hu_of hr
    refine ⟨_, (pss_cons (ps_set (i := 3) sc_stretches_between.nd rfl (Or.inl rfl) (pe_lst pa_nil))
      (pss_cons (ps_set (i := 4) sc_stretches_between.nd rfl (Or.inl rfl) (pv 1))
      (pss_cons (ps_while PassesOwn.never (pt_cmpR op_lt (pv 4) (pv 2) (nomark _))
        (pss_one (ps_if (PW.pt (pw_and (pt_cmpR op_lt (pe_op op_add (pv 4) pe_int) (pv 2) (nomark _)) (pw_and1 (pt_cmpR op_eq (pe_ix ix_list (pv 0) (pe_op op_add (pv 4) pe_int) (fun _ _ => rfl)) (pe_glob (v := .int 45) (by rfl) T.g_HYPHEN ⟨_, rfl⟩) (nomark _)))))
          (pss_cons (ps_expr (pe_bm PySem.F.plainAttrs_list PySem.F.slot_list_append PySem.F.type_list_append mt_append (pv 3) (pa_cons (pe_tup (pa_cons (pe_ix ix_list (pv 0) (pv 4) (fun _ _ => rfl)) (pa_cons (pe_ix ix_list (pv 0) (pe_op op_add (pv 4) pe_int) (fun _ _ => rfl)) pa_nil))) pa_nil)))
          (pss_one (ps_set (i := 4) sc_stretches_between.nd rfl (Or.inl rfl) (pe_op op_add (pv 4) pe_int))))
          (pss_cons (ps_expr (pe_bm PySem.F.plainAttrs_list PySem.F.slot_list_append PySem.F.type_list_append mt_append (pv 3) (pa_cons (pe_tup (pa_cons (pe_ix ix_list (pv 0) (pv 4) (fun _ _ => rfl)) (pa_cons (pe_ix ix_list (pv 0) (pv 4) (fun _ _ => rfl)) pa_nil))) pa_nil)))
          (pss_one (ps_set (i := 4) sc_stretches_between.nd rfl (Or.inl rfl) (pe_op op_add (pv 4) pe_int)))))))
      (pss_one (ps_ret (pv 3)))))), ?_⟩
    refine ⟨Nat.zero_le _, fun l hl => ?_⟩
    have s1 : Same H (upd H l (.lst [])) := same_new hl
    refine ⟨_, rfl, ?_⟩
    refine while_by (fun σ H' => ∃ (i : Int) (ps : List (Int × Int)), σ = [some (.ref a), some (.int st), some (.int en), some (.ref l), some (.int i)] ∧ Same H H' ∧ PairsIn H' l ps ∧ st ≤ i ∧ i ≤ en ∧ ps ++ stretchOf (slice ns i en) = stretchOf (slice ns st en) ∧ (ps.length : Int) ≤ i)
      (fun σ _ => match σ with | [_, _, _, _, some (.int e)] => (en - e).toNat | _ => 0) ⟨st, [], rfl, s1, PairsIn.nil upd_same, by omega, se, rfl, by show (0 : Int) ≤ st; exact s0⟩ ?_ (by show MonT _; (repeat (first | apply mon_and | apply mon_test | apply mon_B | apply mon_op | apply mon_call | apply mon_cb | apply mon_un | apply mon_cons | exact mon_nil | exact mon_var _ | exact mon_C _ | exact mon_i0 _ | exact mon_eq | exact mon_ne | exact mon_ix _ | exact mon_len _ | exact mon_sp1 _)))
    rintro σ H1 ⟨i, ps, rfl, sm, hp, i0, i1, hq, hz⟩
    have hA := sm.seq hS
    -- a pair more
    have add : ∀ (t : Addr) (x y : Int), H1 t = none → ∃ vs, (upd H1 t (.tup [.int x, .int y])) l = some (.lst vs) ∧ vs.length < sizeLine ∧ Same H (upd (upd H1 t (.tup [.int x, .int y])) l (.lst (vs ++ [.ref t]))) ∧ PairsIn (upd (upd H1 t (.tup [.int x, .int y])) l (.lst (vs ++ [.ref t]))) l (ps ++ [(x, y)]) := by
      intro t x y ht
      obtain ⟨vs, v1, v2, v3⟩ := hp.snoc (a := x) (b := y) ht
      refine ⟨vs, v1, ?_, fun b o e => ?_, v3⟩
      · have : sizeLine = 16777216 := rfl
        omega
      · rw [upd_ne (ne_of_none e hl), upd_ne (ne_of_none (sm _ _ e) ht)]
        exact sm _ _ e
    refine ⟨_, rfl, _, rfl, _, _, rfl, rfl, _, rfl, ite2 (fun h => ?_) (fun h => ?_)⟩
    · have hi : i < en := of_decide_eq_true h
      obtain ⟨hv, hl1⟩ := hp.len
      refine ⟨_, rfl, _, _, rfl, rfl, _, rfl, _, _, rfl, rfl, _, rfl, ite2 (fun h2 => ?_) (fun h2 => ?_)⟩
      · have h2' : i + 2 < en := of_decide_eq_true h2
        refine ⟨_, rfl, _, rfl, _, _, rfl, rfl, a, _, _, _, rfl, rfl, hA, at_D (by omega) (by omega), rfl, _, rfl, ite2 (fun h3 => ?_) (fun h3 => ?_)⟩
        · have h3' : ns.getD (i + 1).toNat 0 = 45 := V.int.inj (of_decide_eq_true h3)
          refine ⟨_, rfl, .inl ⟨rfl, _, SqL.of hl1.1⟩, _, rfl, _, rfl, a, _, _, _, rfl, rfl, hA, at_D (by omega) (by omega), _, rfl, _, rfl, _, _, rfl, rfl, a, _, _, _, rfl, rfl, hA, at_D (by omega) (by omega), (by show 2 ≤ sizeLine; decide), fun t ht => ?_⟩
          obtain ⟨vs, v1, v2, v3, v4⟩ := add t (ns.getD i.toNat 0) (ns.getD (i + 2).toNat 0) ht
          refine ⟨l, vs, _, rfl, rfl, v1, v2, ?_⟩
          refine ⟨_, rfl, _, _, rfl, rfl, ⟨i + 3, _, rfl, v3, v4, by omega, by omega, ?_, ?_⟩, ?_⟩
          · rw [← hq, stretch_three (by omega) h2' el h3', List.append_assoc]
            rfl
          · rw [List.length_append, List.length_cons, List.length_nil]
            omega
          · show (en - (i + 3)).toNat < (en - i).toNat
            omega
        · have h3' : ¬ ns.getD (i + 1).toNat 0 = 45 := fun z => h3 (decide_eq_true (congrArg V.int z))
          refine ⟨_, rfl, .inl ⟨rfl, _, SqL.of hl1.1⟩, _, rfl, _, rfl, a, _, _, _, rfl, rfl, hA, at_D (by omega) (by omega), _, rfl, _, rfl, a, _, _, _, rfl, rfl, hA, at_D (by omega) (by omega), (by show 2 ≤ sizeLine; decide), fun t ht => ?_⟩
          obtain ⟨vs, v1, v2, v3, v4⟩ := add t (ns.getD i.toNat 0) (ns.getD i.toNat 0) ht
          refine ⟨l, vs, _, rfl, rfl, v1, v2, ?_⟩
          refine ⟨_, rfl, _, _, rfl, rfl, ⟨i + 1, _, rfl, v3, v4, by omega, by omega, ?_, ?_⟩, ?_⟩
          · rw [← hq, stretch_one (by omega) hi el (fun z => h3' z.2), List.append_assoc]
            rfl
          · rw [List.length_append, List.length_cons, List.length_nil]
            omega
          · show (en - (i + 1)).toNat < (en - i).toNat
            omega
      · have h2' : ¬ i + 2 < en := fun z => h2 (decide_eq_true z)
        refine iteF ?_
        refine ⟨_, rfl, .inl ⟨rfl, _, SqL.of hl1.1⟩, _, rfl, _, rfl, a, _, _, _, rfl, rfl, hA, at_D (by omega) (by omega), _, rfl, _, rfl, a, _, _, _, rfl, rfl, hA, at_D (by omega) (by omega), (by show 2 ≤ sizeLine; decide), fun t ht => ?_⟩
        obtain ⟨vs, v1, v2, v3, v4⟩ := add t (ns.getD i.toNat 0) (ns.getD i.toNat 0) ht
        refine ⟨l, vs, _, rfl, rfl, v1, v2, ?_⟩
        refine ⟨_, rfl, _, _, rfl, rfl, ⟨i + 1, _, rfl, v3, v4, by omega, by omega, ?_, ?_⟩, ?_⟩
        · rw [← hq, stretch_one (by omega) hi el (fun z => h2' z.1), List.append_assoc]
          rfl
        · rw [List.length_append, List.length_cons, List.length_nil]
          omega
        · show (en - (i + 1)).toNat < (en - i).toNat
          omega
    · have e : i = en := by
        have : ¬ i < en := fun z => h (decide_eq_true z)
        omega
      rw [e, slice_end ns (Int.le_refl _), stretchOf, List.append_nil] at hq
      rw [hq] at hp
      exact ⟨_, rfl, k _ _ hl sm hp⟩
end
end Toy

end
section
set_option Elab.async false
set_option linter.all false
set_option maxRecDepth 100000
set_option maxHeartbeats 4000000
namespace Toy
open PySem PySem.Spec PyProof.Rows L2
open PySem.W (Codec)
theorem turn_cons (a b d : Int) (rs : List (Int × Int × Int)) (c : Int) : turnOf ((a, b, d) :: rs) c = if a ≤ c ∧ c ≤ b then c - a + d else turnOf rs c := rfl
theorem turn_low (c : Int) : turnOf [(65, 90, 97), (192, 214, 224), (216, 222, 248), (376, 376, 255), (383, 383, 115), (913, 929, 945), (931, 937, 963), (962, 962, 963), (1024, 1039, 1104), (1040, 1071, 1072), (8490, 8490, 107), (65313, 65338, 65345)] c = Wt.low c := by
  unfold Wt.low
  rw [turn_cons]
  by_cases h0 : 65 ≤ c ∧ c ≤ 90
  · rw [if_pos h0, if_pos h0]
    omega
  rw [if_neg h0, if_neg h0]
  rw [turn_cons]
  by_cases h1 : 192 ≤ c ∧ c ≤ 214
  · rw [if_pos h1, if_pos h1]
    omega
  rw [if_neg h1, if_neg h1]
  rw [turn_cons]
  by_cases h2 : 216 ≤ c ∧ c ≤ 222
  · rw [if_pos h2, if_pos h2]
    omega
  rw [if_neg h2, if_neg h2]
  rw [turn_cons]
  by_cases h3 : 376 ≤ c ∧ c ≤ 376
  · rw [if_pos h3, if_pos h3]
    omega
  rw [if_neg h3, if_neg h3]
  rw [turn_cons]
  by_cases h4 : 383 ≤ c ∧ c ≤ 383
  · rw [if_pos h4, if_pos h4]
    omega
  rw [if_neg h4, if_neg h4]
  rw [turn_cons]
  by_cases h5 : 913 ≤ c ∧ c ≤ 929
  · rw [if_pos h5, if_pos h5]
    omega
  rw [if_neg h5, if_neg h5]
  rw [turn_cons]
  by_cases h6 : 931 ≤ c ∧ c ≤ 937
  · rw [if_pos h6, if_pos h6]
    omega
  rw [if_neg h6, if_neg h6]
  rw [turn_cons]
  by_cases h7 : 962 ≤ c ∧ c ≤ 962
  · rw [if_pos h7, if_pos h7]
    omega
  rw [if_neg h7, if_neg h7]
  rw [turn_cons]
  by_cases h8 : 1024 ≤ c ∧ c ≤ 1039
  · rw [if_pos h8, if_pos h8]
    omega
  rw [if_neg h8, if_neg h8]
  rw [turn_cons]
  by_cases h9 : 1040 ≤ c ∧ c ≤ 1071
  · rw [if_pos h9, if_pos h9]
    omega
  rw [if_neg h9, if_neg h9]
  rw [turn_cons]
  by_cases h10 : 8490 ≤ c ∧ c ≤ 8490
  · rw [if_pos h10, if_pos h10]
    omega
  rw [if_neg h10, if_neg h10]
  rw [turn_cons]
  by_cases h11 : 65313 ≤ c ∧ c ≤ 65338
  · rw [if_pos h11, if_pos h11]
    omega
  rw [if_neg h11, if_neg h11]
  rfl

open Sc05 in
def toPart : Item → Part
  | .any => .row
  | .one => .one
  | .set o l => .set o (l.map fun x => ((x.1 : Int), (x.2 : Int)))
  | .char d => .itself (Wt.low d)
def lastRow (P : List Part) : Bool := match P.getLast? with
  | some .row => true
  | _ => false
def addPart (P : List Part) : Part → List Part
  | .row => if lastRow P = true then P else P ++ [.row]
  | p => P ++ [p]
def merged (its : List Sc05.Item) : List Part := (its.map toPart).foldl addPart []
theorem merged_snoc (its : List Sc05.Item) (i : Sc05.Item) : merged (its ++ [i]) = addPart (merged its) (toPart i) := by
  unfold merged
  rw [List.map_append, List.foldl_append]
  rfl
def weigh : Part → Nat
  | .set _ ps => ps.length
  | _ => 0
def weight (P : List Part) : Nat := (P.map weigh).sum
theorem weight_snoc (P : List Part) (p : Part) : weight (P ++ [p]) = weight P + weigh p := by
  unfold weight
  rw [List.map_append, List.sum_append]
  simp
theorem add_len (P : List Part) (p : Part) : (addPart P p).length ≤ P.length + 1 := by
  unfold addPart
  split
  · split
    · omega
    · rw [List.length_append]
      exact Nat.le_refl _
  · rw [List.length_append]
    exact Nat.le_refl _
def castP (x : Nat × Nat) : Int × Int := ((x.1 : Int), (x.2 : Int))
theorem set_whole : ∀ (L : List Int) (f : Bool) (R : Sc05.Chars), Wt.Fine L → (f = false → ∀ x ∈ L, x ≠ 93) → (f = true → L ≠ [] ∧ ∀ x ∈ L.tail, x ≠ 93) → ∃ l, Wt.setOf f (Wt.nats L ++ 0x5D :: R) = some (l, R) ∧ l.map castP = stretchOf L
  | [], f, R, _, _, h2 => by
    cases f with
    | true => exact absurd rfl (h2 rfl).1
    | false => exact ⟨[], Wt.setOf_end, rfl⟩
  | [c], f, R, hf, h1, h2 => by
    have fc := hf.cons.1
    have nc : ¬ (c.toNat = 0x5D ∧ f = false) := fun z => h1 z.2 c (List.mem_singleton.mpr rfl) (by omega)
    refine ⟨[(c.toNat, c.toNat)], ?_, ?_⟩
    · show Wt.setOf f (c.toNat :: 0x5D :: R) = _
      rw [Wt.setOf_one nc (fun e u z => by injection z with z1 z2; omega), Wt.setOf_end]
      rfl
    · show [((c.toNat : Int), (c.toNat : Int))] = [(c, c)]
      rw [show (c.toNat : Int) = c by omega]
  | [c, d], f, R, hf, h1, h2 => by
    have fc := hf.cons.1
    have nc : ¬ (c.toNat = 0x5D ∧ f = false) := fun z => h1 z.2 c (List.mem_cons_self ..) (by omega)
    have nd : d ≠ 93 := by
      cases f with
      | true => exact (h2 rfl).2 d (List.mem_singleton.mpr rfl)
      | false => exact h1 rfl d (List.mem_cons_of_mem _ (List.mem_singleton.mpr rfl))
    obtain ⟨l, e1, e2⟩ := set_whole [d] false R hf.cons.2 (fun _ x hx => by rw [List.mem_singleton.mp hx]; exact nd) (fun z => absurd z (by decide))
    refine ⟨(c.toNat, c.toNat) :: l, ?_, ?_⟩
    · show Wt.setOf f (c.toNat :: d.toNat :: 0x5D :: R) = _
      rw [Wt.setOf_one nc (fun e u z => by injection z with z1 z2; injection z2 with z2 z3; omega)]
      have e1' : Wt.setOf false (d.toNat :: 0x5D :: R) = some (l, R) := e1
      rw [e1']
      rfl
    · rw [List.map_cons, e2]
      show ((c.toNat : Int), (c.toNat : Int)) :: stretchOf [d] = (c, c) :: stretchOf [d]
      rw [show (c.toNat : Int) = c by omega]
  | c :: d :: e :: t, f, R, hf, h1, h2 => by
    have fc := hf.cons.1
    have fd := hf.cons.2.cons.1
    have fe := hf.cons.2.cons.2.cons.1
    have nc : ¬ (c.toNat = 0x5D ∧ f = false) := fun z => h1 z.2 c (List.mem_cons_self ..) (by omega)
    have nt : ∀ x ∈ d :: e :: t, x ≠ 93 := by
      cases f with
      | true => exact (h2 rfl).2
      | false => exact fun x hx => h1 rfl x (List.mem_cons_of_mem _ hx)
    have ne := nt e (List.mem_cons_of_mem _ (List.mem_cons_self ..))
    rw [stretchOf]
    by_cases h : d = 45
    · rw [if_pos h]
      obtain ⟨l, e1, e2⟩ := set_whole t false R hf.cons.2.cons.2.cons.2 (fun _ x hx => nt x (List.mem_cons_of_mem _ (List.mem_cons_of_mem _ hx))) (fun z => absurd z (by decide))
      refine ⟨(c.toNat, e.toNat) :: l, ?_, ?_⟩
      · show Wt.setOf f (c.toNat :: d.toNat :: e.toNat :: (Wt.nats t ++ 0x5D :: R)) = _
        rw [h]
        rw [show (45 : Int).toNat = 0x2D from rfl, Wt.setOf_range nc (by omega), e1]
        rfl
      · rw [List.map_cons, e2]
        show ((c.toNat : Int), (e.toNat : Int)) :: _ = _
        rw [show (c.toNat : Int) = c by omega, show (e.toNat : Int) = e by omega]
    · rw [if_neg h]
      obtain ⟨l, e1, e2⟩ := set_whole (d :: e :: t) false R hf.cons.2 (fun _ => nt) (fun z => absurd z (by decide))
      refine ⟨(c.toNat, c.toNat) :: l, ?_, ?_⟩
      · show Wt.setOf f (c.toNat :: d.toNat :: e.toNat :: (Wt.nats t ++ 0x5D :: R)) = _
        rw [Wt.setOf_one nc (fun e u z => by injection z with z1 z2; omega)]
        have e1' : Wt.setOf false (d.toNat :: e.toNat :: (Wt.nats t ++ 0x5D :: R)) = some (l, R) := e1
        rw [e1']
        rfl
      · rw [List.map_cons, e2]
        show ((c.toNat : Int), (c.toNat : Int)) :: _ = _
        rw [show (c.toNat : Int) = c by omega]
theorem set_open : ∀ (L : List Int) (f : Bool), Wt.Fine L → (f = false → ∀ x ∈ L, x ≠ 93) → (f = true → ∀ x ∈ L.tail, x ≠ 93) → Wt.setOf f (Wt.nats L) = none
  | [], f, _, _, _ => Wt.setOf_nil f
  | [c], f, hf, h1, h2 => by
    have fc := hf.cons.1
    have nc : ¬ (c.toNat = 0x5D ∧ f = false) := fun z => h1 z.2 c (List.mem_singleton.mpr rfl) (by omega)
    show Wt.setOf f (c.toNat :: []) = _
    rw [Wt.setOf_one nc (fun e u z => by cases z)]
    rfl
  | [c, d], f, hf, h1, h2 => by
    have fc := hf.cons.1
    have nc : ¬ (c.toNat = 0x5D ∧ f = false) := fun z => h1 z.2 c (List.mem_cons_self ..) (by omega)
    have nd : d ≠ 93 := by
      cases f with
      | true => exact h2 rfl d (List.mem_singleton.mpr rfl)
      | false => exact h1 rfl d (List.mem_cons_of_mem _ (List.mem_singleton.mpr rfl))
    have e1 : Wt.setOf false (d.toNat :: []) = none := set_open [d] false hf.cons.2 (fun _ x hx => by rw [List.mem_singleton.mp hx]; exact nd) (fun z => absurd z (by decide))
    show Wt.setOf f (c.toNat :: d.toNat :: []) = _
    rw [Wt.setOf_one nc (fun e u z => by injection z with z1 z2; cases z2), e1]
    rfl
  | c :: d :: e :: t, f, hf, h1, h2 => by
    have fc := hf.cons.1
    have fd := hf.cons.2.cons.1
    have fe := hf.cons.2.cons.2.cons.1
    have nc : ¬ (c.toNat = 0x5D ∧ f = false) := fun z => h1 z.2 c (List.mem_cons_self ..) (by omega)
    have nt : ∀ x ∈ d :: e :: t, x ≠ 93 := by
      cases f with
      | true => exact h2 rfl
      | false => exact fun x hx => h1 rfl x (List.mem_cons_of_mem _ hx)
    have ne := nt e (List.mem_cons_of_mem _ (List.mem_cons_self ..))
    show Wt.setOf f (c.toNat :: d.toNat :: e.toNat :: Wt.nats t) = _
    by_cases h : d = 45
    · rw [h, show (45 : Int).toNat = 0x2D from rfl, Wt.setOf_range nc (by omega), set_open t false hf.cons.2.cons.2.cons.2 (fun _ x hx => nt x (List.mem_cons_of_mem _ (List.mem_cons_of_mem _ hx))) (fun z => absurd z (by decide))]
      rfl
    · have e1 : Wt.setOf false (d.toNat :: e.toNat :: Wt.nats t) = none := set_open (d :: e :: t) false hf.cons.2 (fun _ => nt) (fun z => absurd z (by decide))
      rw [Wt.setOf_one nc (fun e u z => by injection z with z1 z2; omega), e1]
      rfl
/-! by places -/
def rest (ns : List Int) (k : Int) : Sc05.Chars := Wt.nats (ns.drop k.toNat)
theorem rest_at {ns : List Int} {k : Int} (h0 : 0 ≤ k) (h1 : k < (ns.length : Int)) : rest ns k = (ns.getD k.toNat 0).toNat :: rest ns (k + 1) := by
  unfold rest
  rw [Wt.drop_at h0 h1, Wt.nats_cons]
theorem rest_end {ns : List Int} {k : Int} (h1 : ¬ k < (ns.length : Int)) : rest ns k = [] := by
  unfold rest
  rw [Wt.drop_end h1]
  rfl
theorem mem_at {ns : List Int} {m : Nat} {x : Int} (h : x ∈ ns.drop m) : ∃ j : Int, (m : Int) ≤ j ∧ j < (ns.length : Int) ∧ ns.getD j.toNat 0 = x := by
  obtain ⟨i, hi, e⟩ := List.mem_iff_getElem.mp h
  rw [List.length_drop] at hi
  refine ⟨((m + i : Nat) : Int), by omega, by omega, ?_⟩
  rw [Int.toNat_natCast, ← e, List.getElem_drop]
  simp [List.getD, List.getElem?_eq_getElem (show m + i < ns.length by omega)]
theorem fine_nat {x : Int} (h : 0 ≤ x) : ((x.toNat : Nat) : Int) = x := by omega
theorem it_star {ns : List Int} {k : Int} (h0 : 0 ≤ k) (h1 : k < (ns.length : Int)) (h : ns.getD k.toNat 0 = 42) : Wt.itemsOf (rest ns k) = .any :: Wt.itemsOf (rest ns (k + 1)) := by
  rw [rest_at h0 h1, h]
  exact Wt.itemsOf_star _
theorem it_one {ns : List Int} {k : Int} (h0 : 0 ≤ k) (h1 : k < (ns.length : Int)) (h : ns.getD k.toNat 0 = 63) : Wt.itemsOf (rest ns k) = .one :: Wt.itemsOf (rest ns (k + 1)) := by
  rw [rest_at h0 h1, h]
  exact Wt.itemsOf_one _
theorem it_back {ns : List Int} {k : Int} (h0 : 0 ≤ k) (h1 : k + 1 < (ns.length : Int)) (h : ns.getD k.toNat 0 = 92) : Wt.itemsOf (rest ns k) = .char (ns.getD (k + 1).toNat 0).toNat :: Wt.itemsOf (rest ns (k + 2)) := by
  rw [rest_at h0 (by omega), rest_at (by omega) h1, h, show k + 1 + 1 = k + 2 by omega]
  exact Wt.itemsOf_back _ _
theorem others_at {ns : List Int} (hf : Wt.Fine ns) {k : Int} (h0 : 0 ≤ k) : Wt.others (rest ns (k + 1)) = decide (setStart ns k ≠ k + 1) ∧ Wt.inner (rest ns (k + 1)) = rest ns (setStart ns k) := by
  have key : Wt.others (rest ns (k + 1)) = decide (k + 1 < (ns.length : Int) ∧ ns.getD (k + 1).toNat 0 ∈ [33, 94]) := by
    unfold Wt.others
    refine decide_eq_decide.mpr ?_
    by_cases h1 : k + 1 < (ns.length : Int)
    · have f := (hf.at (by omega) h1).1
      rw [rest_at (by omega) h1]
      simp only [List.head?_cons, Option.some.injEq, List.mem_cons, List.not_mem_nil, or_false]
      omega
    · rw [rest_end h1]
      simp [h1]
  unfold Wt.inner
  rw [key]
  unfold setStart
  by_cases c : k + 1 < (ns.length : Int) ∧ ns.getD (k + 1).toNat 0 ∈ [33, 94]
  · rw [if_pos c, decide_eq_true c, if_pos rfl]
    refine ⟨(decide_eq_true (by omega)).symm, ?_⟩
    rw [rest_at (by omega) c.1, show k + 1 + 1 = k + 2 by omega]
    rfl
  · rw [if_neg c, decide_eq_false c]
    exact ⟨(decide_eq_false (fun z => z rfl)).symm, rfl⟩
theorem rest_cut {ns : List Int} {a b : Int} (h0 : 0 ≤ a) (h1 : a ≤ b) (h2 : b < (ns.length : Int)) (h : ns.getD b.toNat 0 = 93) : rest ns a = Wt.nats (slice ns a b) ++ 0x5D :: rest ns (b + 1) := by
  have e : ns.drop a.toNat = slice ns a b ++ ns.drop b.toNat := by
    unfold slice
    conv => lhs; rw [← List.take_append_drop (b - a).toNat (ns.drop a.toNat), List.drop_drop]
    congr 2
    omega
  show Wt.nats (ns.drop a.toNat) = _
  rw [e, Wt.nats_append, Wt.drop_at (by omega) h2, Wt.nats_cons, h]
  rfl
theorem slice_mem {ns : List Int} {a b : Int} {x : Int} (h0 : 0 ≤ a) (h1 : b ≤ (ns.length : Int)) (h : x ∈ slice ns a b) : ∃ j : Int, a ≤ j ∧ j < b ∧ ns.getD j.toNat 0 = x := by
  unfold slice at h
  obtain ⟨i, hi, e⟩ := List.mem_iff_getElem.mp h
  rw [List.length_take, List.length_drop] at hi
  refine ⟨((a.toNat + i : Nat) : Int), by omega, by omega, ?_⟩
  rw [Int.toNat_natCast, ← e, List.getElem_take, List.getElem_drop]
  simp [List.getD, List.getElem?_eq_getElem (show a.toNat + i < ns.length by omega)]
theorem start_ge (ns : List Int) (k : Int) : setStart ns k = k + 1 ∨ setStart ns k = k + 2 := by
  unfold setStart
  split
  · exact .inr rfl
  · exact .inl rfl
theorem it_set {ns : List Int} (hf : Wt.Fine ns) {k e : Int} (h0 : 0 ≤ k) (h1 : k < (ns.length : Int)) (h : ns.getD k.toNat 0 = 91) (e0 : setStart ns k < e) (e1 : e < (ns.length : Int)) (e2 : ns.getD e.toNat 0 = 93)
    (e3 : ∀ j : Int, setStart ns k < j → j < e → ns.getD j.toNat 0 ≠ 93) :
    ∃ l, Wt.itemsOf (rest ns k) = .set (decide (setStart ns k ≠ k + 1)) l :: Wt.itemsOf (rest ns (e + 1)) ∧ l.map castP = stretchOf (slice ns (setStart ns k) e) := by
  have sg := start_ge ns k
  have o := others_at hf h0
  have cut := rest_cut (a := setStart ns k) (b := e) (by omega) (by omega) e1 e2
  have hfs : Wt.Fine (slice ns (setStart ns k) e) := fun x hx => by
    obtain ⟨j, j1, j2, rfl⟩ := slice_mem (by omega) (by omega) hx
    exact hf.at (by omega) (by omega)
  have sc := slice_cons (ns := ns) (a := setStart ns k) (b := e) (by omega) e0 (by omega)
  obtain ⟨l, w1, w2⟩ := set_whole (slice ns (setStart ns k) e) true (rest ns (e + 1)) hfs (fun z => absurd z (by decide)) (fun _ => ⟨by rw [sc]; simp, fun x hx => by
    rw [sc] at hx
    obtain ⟨j, j1, j2, rfl⟩ := slice_mem (a := setStart ns k + 1) (by omega) (by omega) hx
    exact e3 j (by omega) j2⟩)
  refine ⟨l, ?_, w2⟩
  rw [rest_at h0 h1, h, ← o.1]
  refine Wt.itemsOf_set ?_
  rw [o.2, cut]
  exact w1
theorem it_char {ns : List Int} (hf : Wt.Fine ns) {k last : Int} (h0 : 0 ≤ k) (h1 : k < (ns.length : Int)) (a1 : ns.getD k.toNat 0 ≠ 42) (a2 : ns.getD k.toNat 0 ≠ 63) (a3 : ¬ (ns.getD k.toNat 0 = 92 ∧ k + 1 < (ns.length : Int))) (a4 : ¬ (ns.getD k.toNat 0 = 91 ∧ setStart ns k < last))
    (hl : ∀ j : Int, last < j → j < (ns.length : Int) → ns.getD j.toNat 0 ≠ 93) : Wt.itemsOf (rest ns k) = .char (ns.getD k.toNat 0).toNat :: Wt.itemsOf (rest ns (k + 1)) := by
  have f := (hf.at h0 h1).1
  rw [rest_at h0 h1]
  by_cases b1 : ns.getD k.toNat 0 = 92
  · have e : rest ns (k + 1) = [] := rest_end (fun z => a3 ⟨b1, z⟩)
    rw [b1, e]
    exact Wt.itemsOf_back_end
  · by_cases b2 : ns.getD k.toNat 0 = 91
    · rw [b2]
      have sg := start_ge ns k
      refine Wt.itemsOf_open ?_
      rw [(others_at hf h0).2]
      refine set_open _ true (hf.drop _) (fun z => absurd z (by decide)) fun _ x hx => ?_
      rw [List.tail_drop] at hx
      obtain ⟨j, j1, j2, rfl⟩ := mem_at hx
      have : ¬ setStart ns k < last := fun z => a4 ⟨b2, z⟩
      exact hl j (by omega) j2
    · refine Wt.itemsOf_char ?_ ?_ ?_ ?_ <;> omega
end Toy

end
section
set_option Elab.async false
set_option linter.all false
set_option maxRecDepth 100000
set_option maxHeartbeats 4000000
namespace Toy
open PySem PySem.Spec PyProof.Rows L2
open PySem.W (Codec)
section
variable {P : Program} {w : World} {K : PySem.W.Frag} {mg : Str → Option Value} {base : Heap}

def PInv (rowA oneA : Addr) (H : Hp) (ns : List Int) (l : Addr) (H1 : Hp) (k : Int) (done : List Sc05.Item) : Prop := Same H H1 ∧ 0 ≤ k ∧ k ≤ (ns.length : Int) ∧ Wt.itemsOf (Wt.nats ns) = done ++ Wt.itemsOf (rest ns k) ∧ PartsIn rowA oneA H1 l (merged done) ∧ ((merged done).length : Int) ≤ k ∧ (weight (merged done) : Int) ≤ k
/-- a part more -/
theorem PInv.add {rowA oneA l : Addr} {H H1 H2 : Hp} {ns : List Int} {k k' : Int} {done : List Sc05.Item} {it : Sc05.Item} {v : V} (I : PInv rowA oneA H ns l H1 k done) (hl : H l = none) (hlen : ns.length ≤ 30000) (hk : k < k') (hk' : k' ≤ (ns.length : Int)) (e : Wt.itemsOf (rest ns k) = it :: Wt.itemsOf (rest ns k'))
    (sm : Same H1 H2) (hv : PartIs rowA oneA l H2 v (toPart it)) (hr : toPart it = .row → lastRow (merged done) = false) (hw : (weigh (toPart it) : Int) ≤ k' - k) :
    ∃ vs, H2 l = some (.lst vs) ∧ vs.length < sizeLine ∧ PInv rowA oneA H ns l (upd H2 l (.lst (vs ++ [v]))) k' (done ++ [it]) := by
  obtain ⟨s1, k0, k1, d1, d2, d3, d4⟩ := I
  obtain ⟨vs, v1, v2, v3⟩ := (d2.same sm).snoc hv
  have e2 : merged (done ++ [it]) = merged done ++ [toPart it] := by
    rw [merged_snoc]
    cases h : toPart it with
    | row =>
      rw [addPart, if_neg]
      rw [hr h]
      exact Bool.false_ne_true
    | one => rfl
    | itself c => rfl
    | set n p => rfl
  have z : sizeLine = 16777216 := rfl
  refine ⟨vs, v1, by omega, fun b o hb => ?_, by omega, hk', ?_, ?_, ?_, ?_⟩
  · rw [upd_ne (ne_of_none hb hl)]
    exact sm _ _ (s1 _ _ hb)
  · rw [d1, e, List.append_assoc]
    rfl
  · rw [e2]
    exact v3
  · rw [e2, List.length_append, List.length_cons, List.length_nil]
    omega
  · rw [e2, weight_snoc]
    omega
/-- a * behind a * -/
theorem PInv.skip {rowA oneA l : Addr} {H H1 : Hp} {ns : List Int} {k k' : Int} {done : List Sc05.Item} (I : PInv rowA oneA H ns l H1 k done) (hk : k < k') (hk' : k' ≤ (ns.length : Int)) (e : Wt.itemsOf (rest ns k) = .any :: Wt.itemsOf (rest ns k'))
    (hr : lastRow (merged done) = true) : PInv rowA oneA H ns l H1 k' (done ++ [.any]) := by
  obtain ⟨s1, k0, k1, d1, d2, d3, d4⟩ := I
  have e2 : merged (done ++ [.any]) = merged done := by
    rw [merged_snoc]
    show addPart (merged done) .row = _
    rw [addPart, if_pos hr]
  refine ⟨s1, by omega, hk', ?_, ?_, ?_, ?_⟩
  · rw [d1, e, List.append_assoc]
    rfl
  · rw [e2]
    exact d2
  · rw [e2]
    omega
  · rw [e2]
    omega
theorem PInv.move {rowA oneA l : Addr} {H H1 H2 : Hp} {ns : List Int} {k : Int} {done : List Sc05.Item} (I : PInv rowA oneA H ns l H1 k done) (sm : Same H1 H2) : PInv rowA oneA H ns l H2 k done := by
  obtain ⟨s1, k0, k1, d1, d2, d3, d4⟩ := I
  exact ⟨s1.trans sm, k0, k1, d1, d2.same sm, d3, d4⟩
def spParts (K : PySem.W.Frag) (rowA oneA : Addr) : Sp := fun vs H Q _ => ∃ (a : Addr) (ns : List Int), vs = [.ref a] ∧ SqL K H a (ns.map V.int) ∧ Wt.Fine ns ∧ ns.length ≤ 30000 ∧
  ∀ (H' : Hp) (l : Addr) (P : List Part), P = merged (Wt.itemsOf (Wt.nats ns)) → Same H H' → PartsIn rowA oneA H' l P → P.length ≤ 30000 → weight P ≤ 30000 → Q (.ref l) H'
def isRow : Part → Bool
  | .row => true
  | _ => false
theorem kind_last {K : PySem.W.Frag} {rowA oneA e1 e2 l : Addr} {H : Hp} (tr : TupK K rowA [.str "row", .ref e1]) (to : TupK K oneA [.str "one", .ref e2]) {v : V} {x : Part} (h : PartIs rowA oneA l H v x) :
    ∃ (t : Addr) (k1 : Str) (v1 : V), v = .ref t ∧ SqT K H t [.str k1, v1] ∧ (k1 = "row" → ∃ e, v1 = .ref e ∧ (V.ref e1) = .ref e) ∧ decide (k1 = "row") = isRow x := by
  cases x with
  | row => exact ⟨rowA, "row", .ref e1, h, .inr tr, fun _ => ⟨e1, rfl, rfl⟩, show decide ((Str.ofString "row") = Str.ofString "row") = true by decide⟩
  | one => exact ⟨oneA, "one", .ref e2, h, .inr to, fun z => absurd z (by decide), show decide ((Str.ofString "one") = Str.ofString "row") = false by decide⟩
  | itself c =>
    obtain ⟨t, a, b⟩ := h
    exact ⟨t, "itself", .int c, a, SqT.of b, fun z => absurd z (by decide), show decide ((Str.ofString "itself") = Str.ofString "row") = false by decide⟩
  | set n p =>
    obtain ⟨t, q, a, b, _⟩ := h
    refine ⟨t, kindOfSet n, .ref q, a, SqT.of b, fun z => ?_, ?_⟩
    · cases n <;> exact absurd z (by decide)
    · show decide (kindOfSet n = Str.ofString "row") = false
      cases n <;> decide
theorem ok_parts_of (T : Txt K mg) : FnOk P w K mg base CX0 3 T.a_parts_of T.fd_parts_of ["pattern"] (spParts K T.a_ANY_ROW T.a_ANY_ONE) := by
  have G_last_place := ok_last_place (P := P) (w := w) (base := base) T
  have G_set_start := ok_set_start (P := P) (w := w) (base := base) T
  have G_small_letter := ok_small_letter (P := P) (w := w) (base := base) T
  have G_set_end := ok_set_end (P := P) (w := w) (base := base) T
  have G_stretches_between := ok_stretches_between (P := P) (w := w) (base := base) T
  refine T.F_parts_of.ok sc_parts_of (fun vs H Q E h => ?_) (fun cdv A outer s H vs Q E hr h => ?_)
  · obtain ⟨a, ns, rfl, _⟩ := h
    rfl
  · obtain ⟨a, ns, rfl, hS, hf, hlen, kk⟩ := h
    have hr_last_place : Room 1 _ := hr.mono (by decide)
    have hr_set_start : Room 1 _ := hr.mono (by decide)
    have hr_small_letter : Room 2 _ := hr.mono (by decide)
    have hr_set_end : Room 1 _ := hr.mono (by decide)
    have hr_stretches_between : Room 1 _ := hr.mono (by decide)
    have hu := hu_of hr
    refine ⟨_, (pss_cons (ps_set (i := 1) sc_parts_of.nd rfl (Or.inl rfl) (pe_lst pa_nil))
      (pss_cons (ps_set (i := 2) sc_parts_of.nd rfl (Or.inl rfl) (pe_call G_last_place hr_last_place (by rfl) T.m_last_place T.k_last_place T.B_last_place .nil pass0 (pa_cons (pe_glob (v := .int 93) (by rfl) T.g_CLOSING ⟨_, rfl⟩) (pa_cons (pv 0) pa_nil))))
      (pss_cons (ps_set (i := 3) sc_parts_of.nd rfl (Or.inl rfl) pe_int)
      (pss_cons (ps_while PassesOwn.never (pt_cmpR op_lt (pv 3) (pe_callB call_len_seq (by rfl) T.len PySem.boot_len (pa_cons (pv 0) pa_nil)) (nomark _))
        (pss_cons (ps_set (i := 4) sc_parts_of.nd rfl (Or.inl rfl) (pe_ix ix_list (pv 0) (pv 3) (fun _ _ => rfl)))
        (pss_cons (ps_set (i := 5) sc_parts_of.nd rfl (Or.inl rfl) (pe_call G_set_start hr_set_start (by rfl) T.m_set_start T.k_set_start T.B_set_start .nil pass0 (pa_cons (pv 0) (pa_cons (pv 3) pa_nil))))
        (pss_cons (ps_set (i := 6) sc_parts_of.nd rfl (Or.inl rfl) (pv 3))
        (pss_cons (ps_if (pt_cmpR op_eq (pv 4) (pe_glob (v := .int 42) (by rfl) T.g_STAR ⟨_, rfl⟩) (nomark _))
          (pss_one (ps_if (PW.pt (pw_or (pt_cmpR op_eq (pe_callB call_len_seq (by rfl) T.len PySem.boot_len (pa_cons (pv 1) pa_nil)) pe_int (nomark _)) (pw_or1 (pt_cmpR (op_neK (Nat.lt_of_succ_lt hu)) (pe_ix ix_list (pv 1) (pe_un un_neg pe_int) (fun _ _ => rfl)) (pe_glob (v := .ref T.a_ANY_ROW) (by rfl) T.g_ANY_ROW rfl) (nomark _)))))
            (pss_one (ps_expr (pe_bm PySem.F.plainAttrs_list PySem.F.slot_list_append PySem.F.type_list_append mt_append (pv 1) (pa_cons (pe_glob (v := .ref T.a_ANY_ROW) (by rfl) T.g_ANY_ROW rfl) pa_nil))))
            pss_nil))
          (pss_one (ps_if (pt_cmpR op_eq (pv 4) (pe_glob (v := .int 63) (by rfl) T.g_QUESTION ⟨_, rfl⟩) (nomark _))
            (pss_one (ps_expr (pe_bm PySem.F.plainAttrs_list PySem.F.slot_list_append PySem.F.type_list_append mt_append (pv 1) (pa_cons (pe_glob (v := .ref T.a_ANY_ONE) (by rfl) T.g_ANY_ONE rfl) pa_nil))))
            (pss_one (ps_if (PW.pt (pw_and (pt_cmpR op_eq (pv 4) (pe_glob (v := .int 92) (by rfl) T.g_BACKSLASH ⟨_, rfl⟩) (nomark _)) (pw_and1 (pt_cmpR op_lt (pe_op op_add (pv 3) pe_int) (pe_callB call_len_seq (by rfl) T.len PySem.boot_len (pa_cons (pv 0) pa_nil)) (nomark _)))))
              (pss_cons (ps_set (i := 6) sc_parts_of.nd rfl (Or.inl rfl) (pe_op op_add (pv 3) pe_int))
              (pss_one (ps_expr (pe_bm PySem.F.plainAttrs_list PySem.F.slot_list_append PySem.F.type_list_append mt_append (pv 1) (pa_cons (pe_tup (pa_cons pe_str (pa_cons (pe_call G_small_letter hr_small_letter (by rfl) T.m_small_letter T.k_small_letter T.B_small_letter .nil pass0 (pa_cons (pe_ix ix_list (pv 0) (pv 6) (fun _ _ => rfl)) pa_nil)) pa_nil))) pa_nil)))))
              (pss_one (ps_if (PW.pt (pw_and (pt_cmpR op_eq (pv 4) (pe_glob (v := .int 91) (by rfl) T.g_OPENING ⟨_, rfl⟩) (nomark _)) (pw_and1 (pt_cmpR op_lt (pv 5) (pv 2) (nomark _)))))
                (pss_cons (ps_set (i := 6) sc_parts_of.nd rfl (Or.inl rfl) (pe_call G_set_end hr_set_end (by rfl) T.m_set_end T.k_set_end T.B_set_end .nil pass0 (pa_cons (pv 0) (pa_cons (pv 5) pa_nil))))
                (pss_cons (ps_set (i := 7) sc_parts_of.nd rfl (Or.inl rfl) (pe_ifExp (pt_cmpR op_eq (pv 5) (pe_op op_add (pv 3) pe_int) (nomark _)) pe_str pe_str))
                (pss_one (ps_expr (pe_bm PySem.F.plainAttrs_list PySem.F.slot_list_append PySem.F.type_list_append mt_append (pv 1) (pa_cons (pe_tup (pa_cons (pv 7) (pa_cons (pe_call G_stretches_between hr_stretches_between (by rfl) T.m_stretches_between T.k_stretches_between T.B_stretches_between .nil pass0 (pa_cons (pv 0) (pa_cons (pv 5) (pa_cons (pv 6) pa_nil)))) pa_nil))) pa_nil))))))
                (pss_one (ps_expr (pe_bm PySem.F.plainAttrs_list PySem.F.slot_list_append PySem.F.type_list_append mt_append (pv 1) (pa_cons (pe_tup (pa_cons pe_str (pa_cons (pe_call G_small_letter hr_small_letter (by rfl) T.m_small_letter T.k_small_letter T.B_small_letter .nil pass0 (pa_cons (pv 4) pa_nil)) pa_nil))) pa_nil)))))))))))
        (pss_one (ps_set (i := 3) sc_parts_of.nd rfl (Or.inl rfl) (pe_op op_add (pv 6) pe_int))))))))
      (pss_one (ps_ret (pv 1))))))), ?_⟩
    refine ⟨Nat.zero_le _, fun l hl => ?_⟩
    have s1 : Same H (upd H l (.lst [])) := same_new hl
    refine ⟨_, rfl, 93, a, ns, rfl, s1.seq hS, fun last la0 la1 la2 la3 => ?_⟩
    refine while_by (fun σ H' => ∃ (k : Int) (v4 v5 v6 v7 : Option V) (done : List Sc05.Item), σ = [some (.ref a), some (.ref l), some (.int last), some (.int k), v4, v5, v6, v7] ∧ PInv T.a_ANY_ROW T.a_ANY_ONE H ns l H' k done)
      (fun σ _ => match σ with | [_, _, _, some (.int e), _, _, _, _] => (ns.length : Int).toNat - e.toNat | _ => 0) ⟨0, none, none, none, none, [], rfl, s1, Int.le_refl _, by omega, rfl, PartsIn.nil upd_same, by decide, by decide⟩ ?_ (by show MonT _; (repeat (first | apply mon_and | apply mon_test | apply mon_B | apply mon_op | apply mon_call | apply mon_cb | apply mon_un | apply mon_cons | exact mon_nil | exact mon_var _ | exact mon_C _ | exact mon_i0 _ | exact mon_eq | exact mon_ne | exact mon_ix _ | exact mon_len _ | exact mon_sp1 _)))
    rintro σ H1 ⟨k, v4, v5, v6, v7, done, rfl, I⟩
    have k0 := I.2.1
    have k1 := I.2.2.1
    have hA := I.1.seq hS
    refine ⟨_, rfl, _, rfl, a, _, rfl, .inl hA, _, _, rfl, rfl, _, rfl, ite2 (fun h => ?_) (fun h => ?_)⟩
    · have hk : k < (ns.length : Int) := by
        have := of_decide_eq_true h
        rwa [List.length_map] at this
      refine ⟨_, rfl, _, rfl, a, _, _, _, rfl, rfl, hA, at_D k0 hk, ?_⟩
      refine ⟨_, rfl, _, rfl, a, ns, k, rfl, hA, k0, fun H2 sm2 => ?_⟩
      have I2 := I.move sm2
      have hA2 := I2.1.seq hS
      refine ⟨_, rfl, ?_⟩
      refine ⟨_, rfl, rfl, _, rfl, ite2 (fun c1 => ?_) (fun c1 => ?_)⟩
      · -- a star
        have c1' : ns.getD k.toNat 0 = 42 := V.int.inj (of_decide_eq_true c1)
        have it := it_star k0 hk c1'
        obtain ⟨vs, p1, p2⟩ := I2.2.2.2.2.1
        have plen := p2.len
        refine ⟨_, rfl, l, _, rfl, .inl (SqL.of p1), rfl, _, rfl, ite2 (fun c2 => ?_) (fun c2 => ?_)⟩
        · have c2' : (vs.length : Int) = 0 := V.int.inj (of_decide_eq_true c2)
          have P0 : merged done = [] := List.eq_nil_of_length_eq_zero (by omega)
          obtain ⟨ws, w1, w2, w3⟩ := I2.add (v := .ref T.a_ANY_ROW) (k' := k + 1) hl hlen (by omega) (by omega) it (Same.refl _) (show PartIs _ _ _ _ _ Part.row from rfl) (fun _ => by rw [P0]; rfl) (by show (0 : Int) ≤ _; omega)
          refine iteT ?_
          refine ⟨_, rfl, .inl ⟨rfl, _, SqL.of w1⟩, l, ws, _, rfl, rfl, w1, w2, ?_⟩
          refine ⟨_, rfl, _, _, rfl, rfl, ⟨_, _, _, _, _, _, rfl, w3⟩, ?_⟩
          show (ns.length : Int).toNat - (k + 1).toNat < (ns.length : Int).toNat - k.toNat
          omega
        · have c2' : ¬ (vs.length : Int) = 0 := fun z => c2 (decide_eq_true (congrArg V.int z))
          have hne : (merged done) ≠ [] := fun z => c2' (by rw [plen, z]; rfl)
          obtain ⟨x, hx⟩ : ∃ x, (merged done).getLast? = some x := ⟨_, List.getLast?_eq_some_getLast hne⟩
          obtain ⟨v, us, e1, r⟩ := p2.last hx
          obtain ⟨t, kd, v1, rfl, q1, q2, q3⟩ := kind_last T.t_ANY_ROW T.t_ANY_ONE r
          refine ⟨_, rfl, _, rfl, l, _, _, _, rfl, rfl, SqL.of p1, (by rw [e1]; exact atI_last us (.ref t)), t, T.a_ANY_ROW, kd, "row", v1, _, rfl, rfl, q1, .inr T.t_ANY_ROW, q2, _, rfl, ite2 (fun c3 => ?_) (fun c3 => ?_)⟩
          · have nr : lastRow (merged done) = false := by
              unfold lastRow
              rw [hx]
              cases x with
              | row =>
                rw [q3] at c3
                exact absurd c3 (by decide)
              | one => rfl
              | itself c => rfl
              | set n p => rfl
            obtain ⟨ws, w1, w2, w3⟩ := I2.add (v := .ref T.a_ANY_ROW) (k' := k + 1) hl hlen (by omega) (by omega) it (Same.refl _) (show PartIs _ _ _ _ _ Part.row from rfl) (fun _ => nr) (by show (0 : Int) ≤ _; omega)
            refine ⟨_, rfl, .inl ⟨rfl, _, SqL.of w1⟩, l, ws, _, rfl, rfl, w1, w2, ?_⟩
            refine ⟨_, rfl, _, _, rfl, rfl, ⟨_, _, _, _, _, _, rfl, w3⟩, ?_⟩
            show (ns.length : Int).toNat - (k + 1).toNat < (ns.length : Int).toNat - k.toNat
            omega
          · have nr : lastRow (merged done) = true := by
              unfold lastRow
              rw [hx]
              cases x with
              | row => rfl
              | one =>
                rw [q3] at c3
                exact absurd rfl c3
              | itself c =>
                rw [q3] at c3
                exact absurd rfl c3
              | set n p =>
                rw [q3] at c3
                exact absurd rfl c3
            have w3 := I2.skip (k' := k + 1) (by omega) (by omega) it nr
            refine ⟨_, rfl, _, _, rfl, rfl, ⟨_, _, _, _, _, _, rfl, w3⟩, ?_⟩
            show (ns.length : Int).toNat - (k + 1).toNat < (ns.length : Int).toNat - k.toNat
            omega
      · have c1' : ns.getD k.toNat 0 ≠ 42 := fun z => c1 (decide_eq_true (congrArg V.int z))
        refine ⟨_, rfl, rfl, _, rfl, ite2 (fun c2 => ?_) (fun c2 => ?_)⟩
        · have c2' : ns.getD k.toNat 0 = 63 := V.int.inj (of_decide_eq_true c2)
          obtain ⟨ws, w1, w2, w3⟩ := I2.add (v := .ref T.a_ANY_ONE) (k' := k + 1) hl hlen (by omega) (by omega) (it_one k0 hk c2') (Same.refl _) (show PartIs _ _ _ _ _ Part.one from rfl) (fun z => by cases z) (by show (0 : Int) ≤ _; omega)
          refine ⟨_, rfl, .inl ⟨rfl, _, SqL.of w1⟩, l, ws, _, rfl, rfl, w1, w2, ?_⟩
          refine ⟨_, rfl, _, _, rfl, rfl, ⟨_, _, _, _, _, _, rfl, w3⟩, ?_⟩
          show (ns.length : Int).toNat - (k + 1).toNat < (ns.length : Int).toNat - k.toNat
          omega
        · have c2' : ns.getD k.toNat 0 ≠ 63 := fun z => c2 (decide_eq_true (congrArg V.int z))
          have last_part : ¬ (ns.getD k.toNat 0 = 92 ∧ k + 1 < (ns.length : Int)) → ¬ (ns.getD k.toNat 0 = 91 ∧ setStart ns k < last) → ∀ t : Addr, H2 t = none → ∃ ws, (upd H2 t (.tup [.str "itself", .int (turnOf tTO_SMALL (ns.getD k.toNat 0))])) l = some (.lst ws) ∧ ws.length < sizeLine ∧ PInv T.a_ANY_ROW T.a_ANY_ONE H ns l (upd (upd H2 t (.tup [.str "itself", .int (turnOf tTO_SMALL (ns.getD k.toNat 0))])) l (.lst (ws ++ [.ref t]))) (k + 1) (done ++ [.char (ns.getD k.toNat 0).toNat]) := by
            intro b3 b4 t ht
            have e := it_char hf k0 hk c1' c2' b3 b4 la2
            refine I2.add (it := .char (ns.getD k.toNat 0).toNat) (v := .ref t) (k' := k + 1) hl hlen (by omega) (by omega) e (same_new ht) ?_ (fun z => by cases z) (by show (0 : Int) ≤ _; omega)
            refine ⟨t, rfl, ?_⟩
            rw [upd_same, turn_low, fine_nat (hf.at k0 hk).1]
          have other : ¬ (ns.getD k.toNat 0 = 92 ∧ k + 1 < (ns.length : Int)) → True := fun _ => trivial
          refine ⟨_, rfl, rfl, _, rfl, ite2 (fun c3 => ?_) (fun c3 => ?_)⟩
          · have c3' : ns.getD k.toNat 0 = 92 := V.int.inj (of_decide_eq_true c3)
            refine ⟨_, rfl, _, _, rfl, rfl, _, rfl, a, _, rfl, .inl hA2, _, _, rfl, rfl, _, rfl, ite2 (fun c4 => ?_) (fun c4 => ?_)⟩
            · have c4' : k + 1 < (ns.length : Int) := by
                have := of_decide_eq_true c4
                rwa [List.length_map] at this
              refine ⟨_, rfl, _, _, rfl, rfl, ?_⟩
              obtain ⟨us, u1, u2⟩ := I2.2.2.2.2.1.len
              refine ⟨_, rfl, .inl ⟨rfl, _, SqL.of u1⟩, _, rfl, _, rfl, a, _, _, _, rfl, rfl, hA2, at_D (by omega) c4', _, rfl, (by show 2 ≤ sizeLine; decide), fun t ht => ?_⟩
              obtain ⟨ws, w1, w2, w3⟩ := I2.add (it := .char (ns.getD (k + 1).toNat 0).toNat) (v := .ref t) (k' := k + 1 + 1) hl hlen (by omega) (by omega) (by rw [show k + 1 + 1 = k + 2 by omega]; exact it_back k0 c4' c3') (same_new (o := .tup [.str "itself", .int (turnOf tTO_SMALL (ns.getD (k + 1).toNat 0))]) ht) ⟨t, rfl, by rw [upd_same, turn_low, fine_nat (hf.at (by omega) c4').1]⟩ (fun z => by cases z) (by show (0 : Int) ≤ _; omega)
              refine ⟨l, ws, _, rfl, rfl, w1, w2, ?_⟩
              refine ⟨_, rfl, _, _, rfl, rfl, ⟨_, _, _, _, _, _, rfl, w3⟩, ?_⟩
              show (ns.length : Int).toNat - ((k + 1) + 1).toNat < (ns.length : Int).toNat - k.toNat
              omega
            · have c4' : ¬ k + 1 < (ns.length : Int) := fun z => c4 (decide_eq_true (by rw [List.length_map]; exact z))
              refine ⟨_, rfl, rfl, _, rfl, ite2 (fun c5 => ?_) (fun c5 => ?_)⟩
              · have c5' : ns.getD k.toNat 0 = 91 := V.int.inj (of_decide_eq_true c5)
                refine ⟨_, rfl, _, rfl, _, _, rfl, rfl, _, rfl, ite2 (fun c6 => ?_) (fun c6 => ?_)⟩
                · have c6' : setStart ns k < last := of_decide_eq_true c6
                  have sg := start_ge ns k
                  refine ⟨_, rfl, _, rfl, a, ns, setStart ns k, last, rfl, hA2, by omega, c6', la1, (by rcases la3 with z | z; omega; exact z), fun e e0 e1 e2 e3 => ?_⟩
                  obtain ⟨ls, i1, i2⟩ := it_set hf k0 hk c5' e0 e1 e2 e3
                  have mk : ∀ kd : Str, kd = kindOfSet (decide (setStart ns k ≠ k + 1)) → ∀ (H3 : Hp) (p : Addr), H2 p = none → Same H2 H3 → PairsIn H3 p (stretchOf (slice ns (setStart ns k) e)) → ∀ t : Addr, H3 t = none → ∃ ws, (upd H3 t (.tup [.str kd, .ref p])) l = some (.lst ws) ∧ ws.length < sizeLine ∧ PInv T.a_ANY_ROW T.a_ANY_ONE H ns l (upd (upd H3 t (.tup [.str kd, .ref p])) l (.lst (ws ++ [.ref t]))) (e + 1) (done ++ [.set (decide (setStart ns k ≠ k + 1)) ls]) := by
                    intro kd hkd H3 p hp sm3 pr t ht
                    obtain ⟨us, u1, u2⟩ := I2.2.2.2.2.1.len
                    have sl := slice_len (ns := ns) (a := setStart ns k) (b := e) (by omega) (by omega) (by omega)
                    have st := stretch_len (slice ns (setStart ns k) e)
                    have i2' : (ls.map fun x => ((x.1 : Int), (x.2 : Int))) = stretchOf (slice ns (setStart ns k) e) := i2
                    refine I2.add (it := .set (decide (setStart ns k ≠ k + 1)) ls) (v := .ref t) (k' := e + 1) hl hlen (by omega) (by omega) i1 (same_new2 sm3 ht) ?_ (fun z => by cases z) ?_
                    · refine ⟨t, p, rfl, by rw [upd_same, hkd], (ne_of_none u1 hp).symm, ?_⟩
                      rw [i2']
                      exact pr.same (same_new ht)
                    · show (((ls.map fun x => ((x.1 : Int), (x.2 : Int))).length : Nat) : Int) ≤ _
                      rw [i2']
                      omega
                  refine ⟨_, rfl, _, rfl, _, _, rfl, rfl, rfl, _, rfl, ite2 (fun c7 => ?_) (fun c7 => ?_)⟩
                  · have c7' : setStart ns k = k + 1 := V.int.inj (of_decide_eq_true c7)
                    obtain ⟨us, u1, u2⟩ := I2.2.2.2.2.1.len
                    refine ⟨_, rfl, .inl ⟨rfl, _, SqL.of u1⟩, _, rfl, _, rfl, _, rfl, _, rfl, a, ns, setStart ns k, e, rfl, hA2, by omega, by omega, by omega, hlen, fun H3 p hp sm3 pr => ?_⟩
                    refine ⟨(by show 2 ≤ sizeLine; decide), fun t ht => ?_⟩
                    obtain ⟨ws, w1, w2, w3⟩ := mk "set" (by rw [decide_eq_false (fun z => z c7')]; rfl) H3 p hp sm3 pr t ht
                    refine ⟨l, ws, _, rfl, rfl, w1, w2, ?_⟩
                    refine ⟨_, rfl, _, _, rfl, rfl, ⟨_, _, _, _, _, _, rfl, w3⟩, ?_⟩
                    show (ns.length : Int).toNat - (e + 1).toNat < (ns.length : Int).toNat - k.toNat
                    omega
                  · have c7' : setStart ns k ≠ k + 1 := fun z => c7 (decide_eq_true (congrArg V.int z))
                    obtain ⟨us, u1, u2⟩ := I2.2.2.2.2.1.len
                    refine ⟨_, rfl, .inl ⟨rfl, _, SqL.of u1⟩, _, rfl, _, rfl, _, rfl, _, rfl, a, ns, setStart ns k, e, rfl, hA2, by omega, by omega, by omega, hlen, fun H3 p hp sm3 pr => ?_⟩
                    refine ⟨(by show 2 ≤ sizeLine; decide), fun t ht => ?_⟩
                    obtain ⟨ws, w1, w2, w3⟩ := mk "all but set" (by rw [decide_eq_true c7']; rfl) H3 p hp sm3 pr t ht
                    refine ⟨l, ws, _, rfl, rfl, w1, w2, ?_⟩
                    refine ⟨_, rfl, _, _, rfl, rfl, ⟨_, _, _, _, _, _, rfl, w3⟩, ?_⟩
                    show (ns.length : Int).toNat - (e + 1).toNat < (ns.length : Int).toNat - k.toNat
                    omega
                · have c6' : ¬ setStart ns k < last := fun z => c6 (decide_eq_true z)
                  obtain ⟨us, u1, u2⟩ := I2.2.2.2.2.1.len
                  refine ⟨_, rfl, .inl ⟨rfl, _, SqL.of u1⟩, _, rfl, _, rfl, (by show 2 ≤ sizeLine; decide), fun t ht => ?_⟩
                  obtain ⟨ws, w1, w2, w3⟩ := last_part (fun z => c4' z.2) (fun z => c6' z.2) t ht
                  refine ⟨l, ws, _, rfl, rfl, w1, w2, ?_⟩
                  refine ⟨_, rfl, _, _, rfl, rfl, ⟨_, _, _, _, _, _, rfl, w3⟩, ?_⟩
                  show (ns.length : Int).toNat - (k + 1).toNat < (ns.length : Int).toNat - k.toNat
                  omega
              · have c5' : ns.getD k.toNat 0 ≠ 91 := fun z => c5 (decide_eq_true (congrArg V.int z))
                refine iteF ?_
                obtain ⟨us, u1, u2⟩ := I2.2.2.2.2.1.len
                refine ⟨_, rfl, .inl ⟨rfl, _, SqL.of u1⟩, _, rfl, _, rfl, (by show 2 ≤ sizeLine; decide), fun t ht => ?_⟩
                obtain ⟨ws, w1, w2, w3⟩ := last_part (fun z => c4' z.2) (fun z => c5' z.1) t ht
                refine ⟨l, ws, _, rfl, rfl, w1, w2, ?_⟩
                refine ⟨_, rfl, _, _, rfl, rfl, ⟨_, _, _, _, _, _, rfl, w3⟩, ?_⟩
                show (ns.length : Int).toNat - (k + 1).toNat < (ns.length : Int).toNat - k.toNat
                omega
          · have c3' : ns.getD k.toNat 0 ≠ 92 := fun z => c3 (decide_eq_true (congrArg V.int z))
            refine iteF ?_
            refine ⟨_, rfl, rfl, _, rfl, ite2 (fun c5 => ?_) (fun c5 => ?_)⟩
            · have c5' : ns.getD k.toNat 0 = 91 := V.int.inj (of_decide_eq_true c5)
              refine ⟨_, rfl, _, rfl, _, _, rfl, rfl, _, rfl, ite2 (fun c6 => ?_) (fun c6 => ?_)⟩
              · have c6' : setStart ns k < last := of_decide_eq_true c6
                have sg := start_ge ns k
                refine ⟨_, rfl, _, rfl, a, ns, setStart ns k, last, rfl, hA2, by omega, c6', la1, (by rcases la3 with z | z; omega; exact z), fun e e0 e1 e2 e3 => ?_⟩
                obtain ⟨ls, i1, i2⟩ := it_set hf k0 hk c5' e0 e1 e2 e3
                have mk : ∀ kd : Str, kd = kindOfSet (decide (setStart ns k ≠ k + 1)) → ∀ (H3 : Hp) (p : Addr), H2 p = none → Same H2 H3 → PairsIn H3 p (stretchOf (slice ns (setStart ns k) e)) → ∀ t : Addr, H3 t = none → ∃ ws, (upd H3 t (.tup [.str kd, .ref p])) l = some (.lst ws) ∧ ws.length < sizeLine ∧ PInv T.a_ANY_ROW T.a_ANY_ONE H ns l (upd (upd H3 t (.tup [.str kd, .ref p])) l (.lst (ws ++ [.ref t]))) (e + 1) (done ++ [.set (decide (setStart ns k ≠ k + 1)) ls]) := by
                  intro kd hkd H3 p hp sm3 pr t ht
                  obtain ⟨us, u1, u2⟩ := I2.2.2.2.2.1.len
                  have sl := slice_len (ns := ns) (a := setStart ns k) (b := e) (by omega) (by omega) (by omega)
                  have st := stretch_len (slice ns (setStart ns k) e)
                  have i2' : (ls.map fun x => ((x.1 : Int), (x.2 : Int))) = stretchOf (slice ns (setStart ns k) e) := i2
                  refine I2.add (it := .set (decide (setStart ns k ≠ k + 1)) ls) (v := .ref t) (k' := e + 1) hl hlen (by omega) (by omega) i1 (same_new2 sm3 ht) ?_ (fun z => by cases z) ?_
                  · refine ⟨t, p, rfl, by rw [upd_same, hkd], (ne_of_none u1 hp).symm, ?_⟩
                    rw [i2']
                    exact pr.same (same_new ht)
                  · show (((ls.map fun x => ((x.1 : Int), (x.2 : Int))).length : Nat) : Int) ≤ _
                    rw [i2']
                    omega
                refine ⟨_, rfl, _, rfl, _, _, rfl, rfl, rfl, _, rfl, ite2 (fun c7 => ?_) (fun c7 => ?_)⟩
                · have c7' : setStart ns k = k + 1 := V.int.inj (of_decide_eq_true c7)
                  obtain ⟨us, u1, u2⟩ := I2.2.2.2.2.1.len
                  refine ⟨_, rfl, .inl ⟨rfl, _, SqL.of u1⟩, _, rfl, _, rfl, _, rfl, _, rfl, a, ns, setStart ns k, e, rfl, hA2, by omega, by omega, by omega, hlen, fun H3 p hp sm3 pr => ?_⟩
                  refine ⟨(by show 2 ≤ sizeLine; decide), fun t ht => ?_⟩
                  obtain ⟨ws, w1, w2, w3⟩ := mk "set" (by rw [decide_eq_false (fun z => z c7')]; rfl) H3 p hp sm3 pr t ht
                  refine ⟨l, ws, _, rfl, rfl, w1, w2, ?_⟩
                  refine ⟨_, rfl, _, _, rfl, rfl, ⟨_, _, _, _, _, _, rfl, w3⟩, ?_⟩
                  show (ns.length : Int).toNat - (e + 1).toNat < (ns.length : Int).toNat - k.toNat
                  omega
                · have c7' : setStart ns k ≠ k + 1 := fun z => c7 (decide_eq_true (congrArg V.int z))
                  obtain ⟨us, u1, u2⟩ := I2.2.2.2.2.1.len
                  refine ⟨_, rfl, .inl ⟨rfl, _, SqL.of u1⟩, _, rfl, _, rfl, _, rfl, _, rfl, a, ns, setStart ns k, e, rfl, hA2, by omega, by omega, by omega, hlen, fun H3 p hp sm3 pr => ?_⟩
                  refine ⟨(by show 2 ≤ sizeLine; decide), fun t ht => ?_⟩
                  obtain ⟨ws, w1, w2, w3⟩ := mk "all but set" (by rw [decide_eq_true c7']; rfl) H3 p hp sm3 pr t ht
                  refine ⟨l, ws, _, rfl, rfl, w1, w2, ?_⟩
                  refine ⟨_, rfl, _, _, rfl, rfl, ⟨_, _, _, _, _, _, rfl, w3⟩, ?_⟩
                  show (ns.length : Int).toNat - (e + 1).toNat < (ns.length : Int).toNat - k.toNat
                  omega
              · have c6' : ¬ setStart ns k < last := fun z => c6 (decide_eq_true z)
                obtain ⟨us, u1, u2⟩ := I2.2.2.2.2.1.len
                refine ⟨_, rfl, .inl ⟨rfl, _, SqL.of u1⟩, _, rfl, _, rfl, (by show 2 ≤ sizeLine; decide), fun t ht => ?_⟩
                obtain ⟨ws, w1, w2, w3⟩ := last_part (fun z => c3' z.1) (fun z => c6' z.2) t ht
                refine ⟨l, ws, _, rfl, rfl, w1, w2, ?_⟩
                refine ⟨_, rfl, _, _, rfl, rfl, ⟨_, _, _, _, _, _, rfl, w3⟩, ?_⟩
                show (ns.length : Int).toNat - (k + 1).toNat < (ns.length : Int).toNat - k.toNat
                omega
            · have c5' : ns.getD k.toNat 0 ≠ 91 := fun z => c5 (decide_eq_true (congrArg V.int z))
              refine iteF ?_
              obtain ⟨us, u1, u2⟩ := I2.2.2.2.2.1.len
              refine ⟨_, rfl, .inl ⟨rfl, _, SqL.of u1⟩, _, rfl, _, rfl, (by show 2 ≤ sizeLine; decide), fun t ht => ?_⟩
              obtain ⟨ws, w1, w2, w3⟩ := last_part (fun z => c3' z.1) (fun z => c5' z.1) t ht
              refine ⟨l, ws, _, rfl, rfl, w1, w2, ?_⟩
              refine ⟨_, rfl, _, _, rfl, rfl, ⟨_, _, _, _, _, _, rfl, w3⟩, ?_⟩
              show (ns.length : Int).toNat - (k + 1).toNat < (ns.length : Int).toNat - k.toNat
              omega
    · have e : k = (ns.length : Int) := by
        have : ¬ k < (ns.length : Int) := fun z => h (decide_eq_true (by rw [List.length_map]; exact z))
        omega
      obtain ⟨s2, _, _, d1, d2, d3, d4⟩ := I
      rw [e, rest_end (Int.lt_irrefl _), Wt.itemsOf_nil, List.append_nil] at d1
      exact ⟨_, rfl, kk _ _ _ (by rw [d1]) s2 d2 (by omega) (by omega)⟩
end
end Toy

end
section
set_option Elab.async false
set_option linter.all false
set_option maxRecDepth 100000
set_option maxHeartbeats 4000000
namespace Toy
open PySem PySem.Spec PyProof.Rows L2
open PySem.W (Codec)
section
variable {P : Program} {w : World} {K : PySem.W.Frag} {mg : Str → Option Value} {base : Heap}

def castT (x : Int × Nat) : Int × Int := (x.1, (x.2 : Int))
def xorAt : List (Int × Nat) → Int → Nat
  | [], _ => 0
  | y :: r, x => (if y.1 ≤ x then y.2 else 0) ^^^ xorAt r x
theorem xorAt_append (x : Int) : ∀ a b : List (Int × Nat), xorAt (a ++ b) x = xorAt a x ^^^ xorAt b x
  | [], b => by simp [xorAt]
  | y :: a, b => by
    rw [List.cons_append, xorAt, xorAt, xorAt_append x a b, Nat.xor_assoc]
theorem xorAt_perm {a b : List (Int × Nat)} (x : Int) (h : a.Perm b) : xorAt a x = xorAt b x := by
  induction h with
  | nil => rfl
  | cons y _ ih => rw [xorAt, xorAt, ih]
  | swap y z l =>
    rw [xorAt, xorAt, xorAt, xorAt, ← Nat.xor_assoc, ← Nat.xor_assoc, Nat.xor_comm (if z.1 ≤ x then z.2 else 0)]
  | trans _ _ i1 i2 => rw [i1, i2]
theorem inAny_iff (x : Int) : ∀ ps : List (Int × Int), inAny ps x = true ↔ ∃ p ∈ ps, p.1 ≤ x ∧ x ≤ p.2
  | [] => by simp [inAny]
  | (a, b) :: ps => by
    have ih := inAny_iff x ps
    rw [inAny]
    by_cases h : a ≤ x ∧ x ≤ b
    · rw [if_pos h]
      exact ⟨fun _ => ⟨(a, b), List.mem_cons_self .., h⟩, fun _ => rfl⟩
    · rw [if_neg h, ih]
      constructor
      · rintro ⟨p, hp, hx⟩
        exact ⟨p, List.mem_cons_of_mem _ hp, hx⟩
      · rintro ⟨p, hp, hx⟩
        rcases List.mem_cons.mp hp with rfl | hp
        · exact absurd hx h
        · exact ⟨p, hp, hx⟩
theorem inAny_perm {a b : List (Int × Int)} (x : Int) (h : a.Perm b) : inAny a x = inAny b x := by
  have e : inAny a x = true ↔ inAny b x = true := by
    rw [inAny_iff, inAny_iff]
    exact ⟨fun ⟨p, hp, q⟩ => ⟨p, h.mem_iff.mp hp, q⟩, fun ⟨p, hp, q⟩ => ⟨p, h.mem_iff.mpr hp, q⟩⟩
  cases h1 : inAny a x <;> cases h2 : inAny b x <;> simp_all
/-- what the walk over the sorted stretches has told -/
structure Turned (bit : Nat) (qs : List (Int × Int)) (tl : List (Int × Nat)) (done : Int) : Prop where
  told : ∀ x : Int, 0 ≤ x → xorAt tl x = if inAny qs x = true then bit else 0
  d0 : 0 ≤ done
  wit : done = 0 ∨ ∃ p ∈ qs, p.2 = done - 1
  out : ∀ x : Int, done ≤ x → inAny qs x = false
  len : tl.length ≤ 2 * qs.length
theorem Turned.start (bit : Nat) : Turned bit [] [] 0 := ⟨fun x _ => rfl, Int.le_refl _, .inl rfl, fun x _ => rfl, Nat.le_refl _⟩
theorem inAny_snoc (qs : List (Int × Int)) (f l x : Int) : inAny (qs ++ [(f, l)]) x = true ↔ inAny qs x = true ∨ (f ≤ x ∧ x ≤ l) := by
  rw [inAny_iff, inAny_iff]
  constructor
  · rintro ⟨p, hp, h⟩
    rcases List.mem_append.mp hp with hp | hp
    · exact .inl ⟨p, hp, h⟩
    · rw [List.mem_singleton.mp hp] at h
      exact .inr h
  · rintro (⟨p, hp, h⟩ | h)
    · exact ⟨p, List.mem_append_left _ hp, h⟩
    · exact ⟨(f, l), List.mem_append_right _ (List.mem_singleton.mpr rfl), h⟩
/-- below what is done all that the next has is had -/
theorem Turned.had {bit : Nat} {qs : List (Int × Int)} {tl : List (Int × Nat)} {done f x : Int} (T : Turned bit qs tl done) (hs : ∀ p ∈ qs, p.1 ≤ f) (h0 : 0 ≤ x) (h1 : f ≤ x) (h2 : x < done) : inAny qs x = true := by
  rcases T.wit with h | ⟨p, hp, e⟩
  · omega
  · have := hs p hp
    exact (inAny_iff x qs).mpr ⟨p, hp, by omega, by omega⟩
theorem Turned.step {bit : Nat} {qs : List (Int × Int)} {tl : List (Int × Nat)} {done f l : Int} (T : Turned bit qs tl done) (hs : ∀ p ∈ qs, p.1 ≤ f) (h : (if done > f then done else f) ≤ l) :
    Turned bit (qs ++ [(f, l)]) (tl ++ [((if done > f then done else f), bit)] ++ [(l + 1, bit)]) (l + 1) := by
  have d0 := T.d0
  generalize hst : (if done > f then done else f) = st at *
  have st1 : done ≤ st ∧ f ≤ st ∧ (st = done ∨ st = f) := by
    rw [← hst]
    split <;> omega
  have out := T.out
  refine ⟨fun x hx => ?_, by omega, .inr ⟨(f, l), List.mem_append_right _ (List.mem_singleton.mpr rfl), by show l = l + 1 - 1; omega⟩, fun x hx => ?_, ?_⟩
  · have t := T.told x hx
    rw [xorAt_append, xorAt_append, t]
    have e1 : xorAt [(st, bit)] x = if st ≤ x then bit else 0 := by simp [xorAt]
    have e2 : xorAt [(l + 1, bit)] x = if l + 1 ≤ x then bit else 0 := by simp [xorAt]
    rw [e1, e2]
    by_cases a : st ≤ x
    · have o := out x (by omega)
      rw [if_pos a, o, if_neg Bool.false_ne_true, Nat.zero_xor]
      by_cases b : l + 1 ≤ x
      · rw [if_pos b, Nat.xor_self, if_neg]
        intro z
        rcases (inAny_snoc qs f l x).mp z with z | z
        · rw [o] at z
          cases z
        · omega
      · rw [if_neg b, Nat.xor_zero, if_pos ((inAny_snoc qs f l x).mpr (.inr ⟨by omega, by omega⟩))]
    · rw [if_neg a, if_neg (show ¬ l + 1 ≤ x by omega), Nat.xor_zero, Nat.xor_zero]
      have e : (inAny (qs ++ [(f, l)]) x = true) ↔ (inAny qs x = true) := by
        rw [inAny_snoc]
        constructor
        · rintro (z | z)
          · exact z
          · exact T.had hs hx z.1 (by omega)
        · exact .inl
      by_cases g : inAny qs x = true
      · rw [if_pos g, if_pos (e.mpr g)]
      · rw [if_neg g, if_neg (fun z => g (e.mp z))]
  · have o := out x (by omega)
    refine Bool.eq_false_iff.mpr fun z => ?_
    rcases (inAny_snoc qs f l x).mp z with z | z
    · rw [o] at z
      cases z
    · omega
  · have := T.len
    simp only [List.length_append, List.length_cons, List.length_nil]
    omega
theorem Turned.pass {bit : Nat} {qs : List (Int × Int)} {tl : List (Int × Nat)} {done f l : Int} (T : Turned bit qs tl done) (hs : ∀ p ∈ qs, p.1 ≤ f) (h : ¬ (if done > f then done else f) ≤ l) :
    Turned bit (qs ++ [(f, l)]) tl done := by
  have d0 := T.d0
  generalize hst : (if done > f then done else f) = st at *
  have st1 : done ≤ st ∧ f ≤ st ∧ (st = done ∨ st = f) := by
    rw [← hst]
    split <;> omega
  refine ⟨fun x hx => ?_, d0, ?_, fun x hx => ?_, ?_⟩
  · rw [T.told x hx]
    have e : (inAny (qs ++ [(f, l)]) x = true) ↔ (inAny qs x = true) := by
      rw [inAny_snoc]
      constructor
      · rintro (z | z)
        · exact z
        · exact T.had hs hx z.1 (by omega)
      · exact .inl
    by_cases g : inAny qs x = true
    · rw [if_pos g, if_pos (e.mpr g)]
    · rw [if_neg g, if_neg (fun z => g (e.mp z))]
  · rcases T.wit with w | ⟨p, hp, e⟩
    · exact .inl w
    · exact .inr ⟨p, List.mem_append_left _ hp, e⟩
  · have o := T.out x hx
    refine Bool.eq_false_iff.mpr fun z => ?_
    rcases (inAny_snoc qs f l x).mp z with z | z
    · rw [o] at z
      cases z
    · omega
  · have := T.len
    rw [List.length_append]
    omega
theorem snoc_heap {H H1 : Hp} {q t : Addr} {tl : List (Int × Nat)} {x : Int} {bit : Nat} (hq : H q = none) (sm : Same H H1) (hp : PairsIn H1 q (tl.map castT)) (hl : tl.length < 1000000) (ht : H1 t = none) :
    ∃ vs, (upd H1 t (.tup [.int x, .int bit])) q = some (.lst vs) ∧ vs.length < sizeLine ∧ Same H (upd (upd H1 t (.tup [.int x, .int bit])) q (.lst (vs ++ [.ref t]))) ∧ PairsIn (upd (upd H1 t (.tup [.int x, .int bit])) q (.lst (vs ++ [.ref t]))) q ((tl ++ [(x, bit)]).map castT) := by
  obtain ⟨vs, v1, v2, v3⟩ := hp.snoc (a := x) (b := (bit : Int)) ht
  refine ⟨vs, v1, ?_, fun b o e => ?_, ?_⟩
  · have : sizeLine = 16777216 := rfl
    rw [List.length_map] at v2
    omega
  · rw [upd_ne (ne_of_none e hq), upd_ne (ne_of_none (sm _ _ e) ht)]
    exact sm _ _ e
  · rw [List.map_append]
    exact v3

def spTurns : Sp := fun vs H Q _ => ∃ (p : Addr) (bit : Nat) (ps : List (Int × Int)), vs = [.ref p, .int bit] ∧ PairsIn H p ps ∧ ps.length ≤ 30000 ∧
  ∀ (H' : Hp) (q : Addr) (tl : List (Int × Nat)), H q = none → Same H H' → PairsIn H' q (tl.map castT) → (∀ x : Int, 0 ≤ x → xorAt tl x = if inAny ps x = true then bit else 0) → tl.length ≤ 2 * ps.length → Q (.ref q) H'
theorem ok_turns_of (T : Txt K mg) : FnOk P w K mg base CX0 1 T.a_turns_of T.fd_turns_of ["stretches", "bit"] (spTurns) := by
  refine T.F_turns_of.ok sc_turns_of (fun vs H Q E h => ?_) (fun cdv A outer s H vs Q E hr h => ?_)
  · obtain ⟨p, bit, ps, rfl, _⟩ := h
    rfl
  · obtain ⟨p, bit, ps, rfl, hP, hlen, k⟩ := h
    have hu := hu_of hr
    refine ⟨_, (pss_cons (ps_set (i := 2) sc_turns_of.nd rfl (Or.inl rfl) (pe_lst pa_nil))
      (pss_cons (ps_set (i := 3) sc_turns_of.nd rfl (Or.inl rfl) pe_int)
      (pss_cons (ps_for PassesOwn.never rfl (pi_list (pe_callB call_sortedP (by rfl) T.sorted boot_sorted7 (pa_cons (pv 0) pa_nil))) (pg_tup rfl (pgs_cons (pg_name (i := 4) sc_turns_of.nd rfl (Or.inl rfl)) (pgs_cons (pg_name (i := 5) sc_turns_of.nd rfl (Or.inl rfl)) pgs_nil)))
        (pss_cons (ps_set (i := 6) sc_turns_of.nd rfl (Or.inl rfl) (pe_callB (call_max2 rfl) (by rfl) T.max PyProof.Rows.boot_max (pa_cons (pv 4) (pa_cons (pv 3) pa_nil))))
        (pss_one (ps_if (pt_cmpR op_le (pv 6) (pv 5) (nomark _))
          (pss_cons (ps_expr (pe_bm PySem.F.plainAttrs_list PySem.F.slot_list_append PySem.F.type_list_append mt_append (pv 2) (pa_cons (pe_tup (pa_cons (pv 6) (pa_cons (pv 1) pa_nil))) pa_nil)))
          (pss_cons (ps_expr (pe_bm PySem.F.plainAttrs_list PySem.F.slot_list_append PySem.F.type_list_append mt_append (pv 2) (pa_cons (pe_tup (pa_cons (pe_op op_add (pv 5) pe_int) (pa_cons (pv 1) pa_nil))) pa_nil)))
          (pss_one (ps_set (i := 3) sc_turns_of.nd rfl (Or.inl rfl) (pe_op op_add (pv 5) pe_int)))))
          pss_nil))))
      (pss_one (ps_ret (pv 2)))))), ?_⟩
    refine ⟨Nat.zero_le _, fun q hq => ?_⟩
    have s1 : Same H (upd H q (.lst [])) := same_new hq
    obtain ⟨ts, t1, t2, t3⟩ := hP.same s1
    refine ⟨_, rfl, p, ts, rfl, t1, t2, fun s ts' hs hperm hsort => ?_⟩
    have s2 : Same H (upd (upd H q (.lst [])) s (.lst (ts'.map V.ref))) := s1.trans (same_new hs)
    have nsq : q ≠ s := ne_of_none upd_same hs
    have tlen : ts'.length ≤ 30000 := by
      rw [hperm.length_eq]
      have := congrArg List.length t3
      rw [List.length_map] at this
      omega
    have pairs : ∀ t ∈ ts', H t = some (.tup [.int (pairOf (upd H q (.lst [])) t).1, .int (pairOf (upd H q (.lst [])) t).2]) := fun t ht => by
      obtain ⟨a, b, e⟩ := t2 t (hperm.mem_iff.mp ht)
      rw [pairOf_at e]
      have nt : t ≠ q := ne_of e upd_same (by intro z; cases z)
      rw [upd_ne nt] at e
      exact e
    generalize hqs : ts'.map (pairOf (upd H q (.lst []))) = qs
    have qperm : qs.Perm ps := by
      rw [← hqs, t3]
      exact hperm.map _
    refine ⟨s, rfl, ⟨_, SqL.of upd_same⟩, for_list (K := K) (a := s) (xs := ts'.map V.ref) (fun i σ H' => ∃ (done : Int) (tl : List (Int × Nat)) (v4 v5 v6 : Option V), σ = [some (.ref p), some (.int bit), some (.ref q), some (.int done), v4, v5, v6] ∧ Same H H' ∧ H' s = some (.lst (ts'.map V.ref)) ∧ PairsIn H' q (tl.map castT) ∧ Turned bit (qs.take i) tl done)
      ⟨0, [], none, none, none, rfl, s2, upd_same, PairsIn.nil (by rw [upd_ne nsq, upd_same]), Turned.start bit⟩ (fun i σ H' _ ⟨_, _, _, _, _, _, _, e, _⟩ => SqL.of e) ?_ ?_⟩
    · rintro i x σ H1 hx ⟨done, tl, v4, v5, v6, rfl, sm, hs1, hp, W⟩
      rw [List.getElem?_map] at hx
      obtain ⟨t, ht, rfl⟩ := Option.map_eq_some_iff.mp hx
      have hi : i < ts'.length := (List.getElem?_eq_some_iff.mp ht).1
      have tm : t ∈ ts' := List.mem_of_getElem? ht
      have hq1 : qs[i]? = some (pairOf (upd H q (.lst [])) t) := by rw [← hqs, List.getElem?_map, ht]; rfl
      generalize hfl : pairOf (upd H q (.lst [])) t = fl at hq1
      obtain ⟨f, l⟩ := fl
      have htup := pairs t tm
      rw [hfl] at htup
      have hT := sm _ _ htup
      have tk : qs.take (i + 1) = qs.take i ++ [(f, l)] := by
        rw [List.take_succ, hq1]
        rfl
      have before : ∀ p ∈ qs.take i, p.1 ≤ f := by
        intro p hp'
        have pw : qs.Pairwise (fun a b => a.1 ≤ b.1) := by
          rw [← hqs, List.pairwise_map]
          exact hsort
        obtain ⟨j, hj, e⟩ := List.mem_iff_getElem.mp hp'
        rw [List.length_take] at hj
        have hqi := List.getElem?_eq_some_iff.mp hq1
        obtain ⟨hi2, e2⟩ := hqi
        have := List.pairwise_iff_getElem.mp pw j i (by omega) hi2 (by omega)
        rw [List.getElem_take] at e
        rw [e, e2] at this
        exact this
      have small : tl.length < 100000 := by
        have := W.len
        rw [List.length_take] at this
        omega
      refine ⟨t, _, rfl, SqT.of hT, rfl, _, _, rfl, _, _, rfl, rfl, ?_⟩
      refine ⟨_, rfl, _, rfl, _, _, rfl, ?_⟩
      refine ⟨_, rfl, _, rfl, _, _, rfl, rfl, _, rfl, ite2 (fun h => ?_) (fun h => ?_)⟩
      · have h' := of_decide_eq_true h
        obtain ⟨vq, q1, _⟩ := hp.len
        refine ⟨_, rfl, .inl ⟨rfl, _, SqL.of q1⟩, _, rfl, _, rfl, (by show 2 ≤ sizeLine; decide), fun u hu => ?_⟩
        obtain ⟨vs, a1, a2, a3, a4⟩ := snoc_heap (x := if done > f then done else f) (bit := bit) hq sm hp (by omega) hu
        refine ⟨q, vs, _, rfl, rfl, a1, a2, ?_⟩
        obtain ⟨vq2, q2, _⟩ := a4.len
        refine ⟨_, rfl, .inl ⟨rfl, _, SqL.of q2⟩, _, rfl, _, _, rfl, rfl, _, rfl, (by show 2 ≤ sizeLine; decide), fun u2 hu2 => ?_⟩
        obtain ⟨vs2, b1, b2, b3, b4⟩ := snoc_heap (x := l + 1) (bit := bit) hq a3 a4 (by rw [List.length_append, List.length_cons, List.length_nil]; omega) hu2
        refine ⟨q, vs2, _, rfl, rfl, b1, b2, ?_⟩
        refine ⟨_, rfl, _, _, rfl, rfl, ⟨l + 1, _, _, _, _, rfl, b3, ?_, b4, ?_⟩⟩
        · have n1 : s ≠ q := nsq.symm
          have n2 : s ≠ u := ne_of_none hs1 hu
          have e1 : (upd (upd H1 u (.tup [.int (if done > f then done else f), .int bit])) q (.lst (vs ++ [.ref u]))) s = some (.lst (ts'.map V.ref)) := by rw [upd_ne n1, upd_ne n2]; exact hs1
          rw [upd_ne n1, upd_ne (ne_of_none e1 hu2)]
          exact e1
        · rw [tk]
          exact W.step before h'
      · have h' : ¬ (if done > f then done else f) ≤ l := fun z => h (decide_eq_true z)
        exact ⟨done, tl, _, _, _, rfl, sm, hs1, hp, by rw [tk]; exact W.pass before h'⟩
    · rintro σ H1 ⟨done, tl, v4, v5, v6, rfl, sm, hs1, hp, W⟩
      have ql : qs.length = ts'.length := by rw [← hqs, List.length_map]
      rw [List.length_map, ← ql, List.take_length] at W
      refine ⟨_, rfl, k H1 q tl hq sm hp (fun x hx => ?_) ?_⟩
      · rw [W.told x hx, inAny_perm x qperm]
      · have := W.len
        rw [qperm.length_eq] at this
        exact this
end
end Toy

end
section
set_option Elab.async false
set_option linter.all false
set_option maxRecDepth 100000
set_option maxHeartbeats 4000000
namespace Toy
open PySem PySem.Spec PyProof.Rows L2
open PySem.W (Codec)
theorem turn_upp (c : Int) : turnOf [(97, 122, 65), (224, 246, 192), (248, 254, 216), (255, 255, 376), (383, 383, 83), (945, 961, 913), (962, 962, 931), (963, 969, 931), (1072, 1103, 1040), (1104, 1119, 1024), (65345, 65370, 65313)] c = Wt.upp c := by
  unfold Wt.upp
  rw [turn_cons]
  by_cases h0 : 97 ≤ c ∧ c ≤ 122
  · rw [if_pos h0, if_pos h0]
    omega
  rw [if_neg h0, if_neg h0]
  rw [turn_cons]
  by_cases h1 : 224 ≤ c ∧ c ≤ 246
  · rw [if_pos h1, if_pos h1]
    omega
  rw [if_neg h1, if_neg h1]
  rw [turn_cons]
  by_cases h2 : 248 ≤ c ∧ c ≤ 254
  · rw [if_pos h2, if_pos h2]
    omega
  rw [if_neg h2, if_neg h2]
  rw [turn_cons]
  by_cases h3 : 255 ≤ c ∧ c ≤ 255
  · rw [if_pos h3, if_pos h3]
    omega
  rw [if_neg h3, if_neg h3]
  rw [turn_cons]
  by_cases h4 : 383 ≤ c ∧ c ≤ 383
  · rw [if_pos h4, if_pos h4]
    omega
  rw [if_neg h4, if_neg h4]
  rw [turn_cons]
  by_cases h5 : 945 ≤ c ∧ c ≤ 961
  · rw [if_pos h5, if_pos h5]
    omega
  rw [if_neg h5, if_neg h5]
  rw [turn_cons]
  by_cases h6 : 962 ≤ c ∧ c ≤ 962
  · rw [if_pos h6, if_pos h6]
    omega
  rw [if_neg h6, if_neg h6]
  rw [turn_cons]
  by_cases h7 : 963 ≤ c ∧ c ≤ 969
  · rw [if_pos h7, if_pos h7]
    omega
  rw [if_neg h7, if_neg h7]
  rw [turn_cons]
  by_cases h8 : 1072 ≤ c ∧ c ≤ 1103
  · rw [if_pos h8, if_pos h8]
    omega
  rw [if_neg h8, if_neg h8]
  rw [turn_cons]
  by_cases h9 : 1104 ≤ c ∧ c ≤ 1119
  · rw [if_pos h9, if_pos h9]
    omega
  rw [if_neg h9, if_neg h9]
  rw [turn_cons]
  by_cases h10 : 65345 ≤ c ∧ c ≤ 65370
  · rw [if_pos h10, if_pos h10]
    omega
  rw [if_neg h10, if_neg h10]
  rfl

def bitsOf (f : Part → Bool) : List Part → Nat
  | [] => 0
  | p :: ps => (if f p = true then 1 else 0) + 2 * bitsOf f ps
theorem bits_test (f : Part → Bool) : ∀ (P : List Part) (k : Nat), (bitsOf f P).testBit k = (P[k]?.map f).getD false
  | [], k => by simp [bitsOf]
  | p :: ps, 0 => by
    rw [bitsOf, Nat.testBit_zero]
    cases h : f p <;> simp [h] <;> omega
  | p :: ps, k + 1 => by
    have ih := bits_test f ps k
    rw [bitsOf, Nat.testBit_succ]
    have e : ((if f p = true then 1 else 0) + 2 * bitsOf f ps) / 2 = bitsOf f ps := by split <;> omega
    rw [e, ih]
    rfl
theorem bits_snoc_test (f : Part → Bool) (P : List Part) (p : Part) (k : Nat) : (bitsOf f (P ++ [p])).testBit k = if k = P.length then f p else (bitsOf f P).testBit k := by
  rw [bits_test, bits_test]
  by_cases h : k = P.length
  · rw [if_pos h, h]
    simp
  · rw [if_neg h]
    by_cases g : k < P.length
    · rw [List.getElem?_append_left g]
    · rw [List.getElem?_eq_none (by rw [List.length_append, List.length_cons, List.length_nil]; omega), List.getElem?_eq_none (by omega)]
theorem bits_over (f : Part → Bool) (P : List Part) {k : Nat} (h : P.length ≤ k) : (bitsOf f P).testBit k = false := by
  rw [bits_test, List.getElem?_eq_none h]
  rfl
theorem bits_no (f : Part → Bool) (P : List Part) {p : Part} (h : f p = false) : bitsOf f (P ++ [p]) = bitsOf f P := by
  refine Nat.eq_of_testBit_eq fun k => ?_
  rw [bits_snoc_test]
  by_cases e : k = P.length
  · rw [if_pos e, h, bits_over f P (by omega)]
  · rw [if_neg e]
theorem bits_or (f : Part → Bool) (P : List Part) {p : Part} (h : f p = true) : bitsOf f (P ++ [p]) = bitsOf f P ||| 2 ^ P.length := by
  refine Nat.eq_of_testBit_eq fun k => ?_
  rw [bits_snoc_test, Nat.testBit_or, Nat.testBit_two_pow]
  by_cases e : k = P.length
  · rw [if_pos e, h, decide_eq_true e.symm, Bool.or_true]
  · rw [if_neg e, decide_eq_false (fun z => e z.symm), Bool.or_false]
theorem bits_xor (f : Part → Bool) (P : List Part) {p : Part} (h : f p = true) : bitsOf f (P ++ [p]) = bitsOf f P ^^^ 2 ^ P.length := by
  refine Nat.eq_of_testBit_eq fun k => ?_
  rw [bits_snoc_test, Nat.testBit_xor, Nat.testBit_two_pow]
  by_cases e : k = P.length
  · rw [if_pos e, h, decide_eq_true e.symm, bits_over f P (by omega)]
    rfl
  · rw [if_neg e, decide_eq_false (fun z => e z.symm), Bool.xor_false]
theorem bits_lt (f : Part → Bool) (P : List Part) : bitsOf f P < 2 ^ P.length := Nat.lt_pow_two_of_testBit _ fun k h => bits_over f P h
def isOne : Part → Bool
  | .one => true
  | _ => false
def isIt (v : Int) : Part → Bool
  | .itself c => decide (c = v)
  | _ => false
def isNeg : Part → Bool
  | .set n _ => n
  | _ => false
def hasC (x : Int) : Part → Bool
  | .set _ ps => inAny ps x
  | _ => false
def fitsP (c : Int) : Part → Bool
  | .row => false
  | .one => true
  | .itself v => decide (v = Wt.low c)
  | .set n ps => (inAny ps c || inAny ps (Wt.low c) || inAny ps (Wt.upp c)) != n
theorem fit_bits (P : List Part) (c : Int) : (bitsOf isOne P ||| bitsOf (isIt (Wt.low c)) P) ||| ((bitsOf (hasC c) P ||| bitsOf (hasC (Wt.low c)) P ||| bitsOf (hasC (Wt.upp c)) P) ^^^ bitsOf isNeg P) = bitsOf (fitsP c) P := by
  refine Nat.eq_of_testBit_eq fun k => ?_
  simp only [Nat.testBit_or, Nat.testBit_xor, bits_test]
  cases P[k]? with
  | none => rfl
  | some p =>
    cases p with
    | row => rfl
    | one => rfl
    | itself v =>
      simp [isOne, isIt, hasC, isNeg, fitsP]
    | set n ps =>
      simp [isOne, isIt, hasC, isNeg, fitsP]
/-! the prefixes' xors -/
def xorAll : List (Int × Nat) → Nat
  | [] => 0
  | y :: r => y.2 ^^^ xorAll r
theorem xorAll_snoc (y : Int × Nat) : ∀ l : List (Int × Nat), xorAll (l ++ [y]) = xorAll l ^^^ y.2
  | [] => by simp [xorAll]
  | z :: l => by
    rw [List.cons_append, xorAll, xorAll, xorAll_snoc y l, Nat.xor_assoc]
def pre (l : List (Int × Nat)) : List Nat := (List.range (l.length + 1)).map fun m => xorAll (l.take m)
theorem pre_last (l : List (Int × Nat)) : pre l = ((List.range l.length).map fun m => xorAll (l.take m)) ++ [xorAll l] := by
  unfold pre
  rw [List.range_succ, List.map_append, List.map_cons, List.map_nil, List.take_length]
theorem pre_len (l : List (Int × Nat)) : (pre l).length = l.length + 1 := by
  unfold pre
  rw [List.length_map, List.length_range]
theorem pre_snoc (l : List (Int × Nat)) (y : Int × Nat) : pre (l ++ [y]) = pre l ++ [xorAll l ^^^ y.2] := by
  rw [pre_last, xorAll_snoc]
  congr 1
  unfold pre
  rw [List.length_append, List.length_cons, List.length_nil]
  refine List.map_congr_left fun m hm => ?_
  rw [List.mem_range] at hm
  rw [List.take_append_of_le_length (by omega)]
theorem pre_at {l : List (Int × Nat)} {m : Nat} (h : m ≤ l.length) : (pre l)[m]? = some (xorAll (l.take m)) := by
  unfold pre
  rw [List.getElem?_map, List.getElem?_range (by omega)]
  rfl
theorem xor_none {x : Int} : ∀ l : List (Int × Nat), (∀ y ∈ l, ¬ y.1 ≤ x) → xorAt l x = 0
  | [], _ => rfl
  | y :: l, h => by
    rw [xorAt, if_neg (h y (List.mem_cons_self ..)), xor_none l fun z hz => h z (List.mem_cons_of_mem _ hz)]
    rfl
theorem xor_all {x : Int} : ∀ l : List (Int × Nat), (∀ y ∈ l, y.1 ≤ x) → xorAt l x = xorAll l
  | [], _ => rfl
  | y :: l, h => by
    rw [xorAt, if_pos (h y (List.mem_cons_self ..)), xor_all l fun z hz => h z (List.mem_cons_of_mem _ hz), xorAll]
theorem xor_split {l : List (Int × Nat)} {x : Int} {m : Nat} (h1 : ∀ y ∈ l.take m, y.1 ≤ x) (h2 : ∀ y ∈ l.drop m, ¬ y.1 ≤ x) : xorAt l x = xorAll (l.take m) := by
  conv => lhs; rw [← List.take_append_drop m l]
  rw [xorAt_append, xor_all _ h1, xor_none _ h2, Nat.xor_zero]
/-! the instance -/
def fsOf (r o t : Int) (d b s : Addr) : List (Str × V) := [("rows", .int r), ("ones", .int o), ("turned_round", .int t), ("by_letter", .ref d), ("bounds", .ref b), ("sets_from_bounds", .ref s)]
section
variable (r o t x : Int) (d b s : Addr)
theorem fs_rows : (fsOf r o t d b s).lookup ("rows" : Str) = some (V.int r) := rfl
theorem fs_ones : (fsOf r o t d b s).lookup ("ones" : Str) = some (V.int o) := rfl
theorem fs_turned : (fsOf r o t d b s).lookup ("turned_round" : Str) = some (V.int t) := rfl
theorem fs_by : (fsOf r o t d b s).lookup ("by_letter" : Str) = some (V.ref d) := rfl
theorem fs_bounds : (fsOf r o t d b s).lookup ("bounds" : Str) = some (V.ref b) := rfl
theorem fs_sets : (fsOf r o t d b s).lookup ("sets_from_bounds" : Str) = some (V.ref s) := rfl
theorem fs_no1 : (fsOf r o t d b s).lookup ("sets_with" : Str) = none := rfl
theorem fs_no2 : (fsOf r o t d b s).lookup ("fitting" : Str) = none := rfl
theorem put_rows : putF "rows" (.int x) (fsOf r o t d b s) = fsOf x o t d b s := by simp (config := { decide := true }) [fsOf, putF]
theorem put_ones : putF "ones" (.int x) (fsOf r o t d b s) = fsOf r x t d b s := by simp (config := { decide := true }) [fsOf, putF]
theorem put_turned : putF "turned_round" (.int x) (fsOf r o t d b s) = fsOf r o x d b s := by simp (config := { decide := true }) [fsOf, putF]
theorem put_all : putF "sets_from_bounds" (.ref s) (putF "bounds" (.ref b) (putF "by_letter" (.ref d) (putF "turned_round" (.int t) (putF "ones" (.int o) (putF "rows" (.int r) []))))) = fsOf r o t d b s := by simp (config := { decide := true }) [fsOf, putF]
end
theorem strT {k : Str} {A B : Prop} [Decidable (V.str k = V.str k)] (h : A) : if decide (V.str k = V.str k) = true then A else B := by
  rw [if_pos (decide_eq_true rfl)]
  exact h
theorem strF {k k' : Str} {A B : Prop} [Decidable (V.str k = V.str k')] (hk : k ≠ k') (h : B) : if decide (V.str k = V.str k') = true then A else B := by
  rw [if_neg (fun z => hk (V.str.inj (of_decide_eq_true z)))]
  exact h
end Toy

end
section
set_option Elab.async false
set_option linter.all false
set_option maxRecDepth 100000
set_option maxHeartbeats 4000000
namespace Toy
open PySem PySem.Spec PyProof.Rows L2
open PySem.W (Codec)
section
variable {P : Program} {w : World} {K : PySem.W.Frag} {mg : Str → Option Value} {base : Heap}

theorem shl_ok {n m : Nat} (hm : m ≤ 40000) (h : n < 2 ^ m) : ((n : Nat) : Int).natAbs < 2 ^ 100000 := by
  rw [Int.natAbs_natCast]
  exact Nat.lt_of_lt_of_le h (Nat.pow_le_pow_right (by decide) (Nat.le_trans hm (by decide)))
theorem shl_val (n : Nat) : (n : Int) * 2 ^ ((1 : Int).toNat) = ((n * 2 : Nat) : Int) := by
  show (n : Int) * 2 ^ 1 = _
  rw [Int.pow_one, Int.natCast_mul]
  rfl
theorem Keep.free {H H' : Hp} {x p : Addr} (k : Keep H x H') (h : H' p = none) (n : p ≠ x) : H p = none := by
  cases e : H p with
  | none => rfl
  | some o =>
    rw [k p o e n] at h
    cases h
theorem Keep.put {H H' : Hp} {x : Addr} {o : HO} (k : Keep H x H') : Keep H x (upd H' x o) := fun b u h n => by
  rw [upd_ne n]
  exact k b u h n
theorem Keep.lay {H H' : Hp} {x p : Addr} {o : HO} (k : Keep H x H') (hp : H' p = none) : Keep H x (upd H' p o) := fun b u h n => by
  have := k b u h n
  rw [upd_ne (ne_of_none this hp)]
  exact this
theorem Keep.new {H H' : Hp} {x p : Addr} {o : HO} (k : Keep H x H') (hp : H p = none) : Keep H x (upd H' p o) := fun b u h n => by
  rw [upd_ne (ne_of_none h hp)]
  exact k b u h n
theorem PairsIn.extend {H : Hp} {q q2 : Addr} {a c : List (Int × Int)} (h : PairsIn H q a) (h2 : PairsIn H q2 c) :
    ∃ xs zs, H q = some (.lst xs) ∧ H q2 = some (.lst zs) ∧ xs.length = a.length ∧ zs.length = c.length ∧ PairsIn (upd H q (.lst (xs ++ zs))) q (a ++ c) := by
  obtain ⟨ts, a1, a2, a3⟩ := h
  obtain ⟨us, b1, b2, b3⟩ := h2
  have at_ : ∀ t ∈ ts ++ us, ∃ x y : Int, H t = some (.tup [.int x, .int y]) ∧ (upd H q (.lst (ts.map V.ref ++ us.map V.ref))) t = some (.tup [.int x, .int y]) := fun t ht => by
    have : ∃ x y : Int, H t = some (.tup [.int x, .int y]) := by
      rcases List.mem_append.mp ht with m | m
      · exact a2 t m
      · exact b2 t m
    obtain ⟨x, y, e⟩ := this
    exact ⟨x, y, e, by rw [upd_ne (ne_of e a1 (by intro z; cases z))]; exact e⟩
  refine ⟨_, _, a1, b1, by rw [a3, List.length_map, List.length_map], by rw [b3, List.length_map, List.length_map], ts ++ us, by rw [upd_same, List.map_append], fun t ht => ?_, ?_⟩
  · obtain ⟨x, y, _, e⟩ := at_ t ht
    exact ⟨x, y, e⟩
  · rw [a3, b3, ← List.map_append]
    refine List.map_congr_left fun t ht => ?_
    obtain ⟨x, y, e1, e2⟩ := at_ t ht
    rw [pairOf_at e1, pairOf_at e2]
structure Hp1 (C : Addr) (H : Hp) (x dx : Addr) (H' : Hp) (d b s q : Addr) (r o t : Int) (kvs : List (Key × V)) (tl : List (Int × Nat)) : Prop where
  kp : Keep H x H'
  hx : H' x = some (.ins C dx (fsOf r o t d b s))
  hd : H' d = some (.dK kvs)
  hb : H' b = some (.lst [])
  hs : H' s = some (.lst [.int 0])
  bs : b ≠ s
  qb : q ≠ b
  qs : q ≠ s
  hq : PairsIn H' q (tl.map castT)
  fd : H d = none
  fq : H q = none
  fb : H b = none
  fs : H s = none
section
variable {C x dx d b s q : Addr} {H H' : Hp} {r o t : Int} {kvs : List (Key × V)} {tl : List (Int × Nat)}
theorem Hp1.setX (h : Hp1 C H x dx H' d b s q r o t kvs tl) (r' o' t' : Int) : Hp1 C H x dx (upd H' x (.ins C dx (fsOf r' o' t' d b s))) d b s q r' o' t' kvs tl := by
  obtain ⟨vq, q1, _⟩ := h.hq.len
  refine ⟨h.kp.put, upd_same, ?_, ?_, ?_, h.bs, h.qb, h.qs, ?_, h.fd, h.fq, h.fb, h.fs⟩
  · rw [upd_ne (ne_of h.hd h.hx (by intro z; cases z))]
    exact h.hd
  · rw [upd_ne (ne_of h.hb h.hx (by intro z; cases z))]
    exact h.hb
  · rw [upd_ne (ne_of h.hs h.hx (by intro z; cases z))]
    exact h.hs
  · exact h.hq.keep (x := x) (fun b u hb hn => by rw [upd_ne hn]; exact hb) (ne_of q1 h.hx (by intro z; cases z)) fun t a b ht => ne_of ht h.hx (by intro z; cases z)
theorem Hp1.setD (h : Hp1 C H x dx H' d b s q r o t kvs tl) (kvs' : List (Key × V)) : Hp1 C H x dx (upd H' d (.dK kvs')) d b s q r o t kvs' tl := by
  obtain ⟨vq, q1, _⟩ := h.hq.len
  refine ⟨h.kp.new h.fd, ?_, upd_same, ?_, ?_, h.bs, h.qb, h.qs, ?_, h.fd, h.fq, h.fb, h.fs⟩
  · rw [upd_ne (ne_of h.hx h.hd (by intro z; cases z))]
    exact h.hx
  · rw [upd_ne (ne_of h.hb h.hd (by intro z; cases z))]
    exact h.hb
  · rw [upd_ne (ne_of h.hs h.hd (by intro z; cases z))]
    exact h.hs
  · exact h.hq.keep (x := d) (fun b u hb hn => by rw [upd_ne hn]; exact hb) (ne_of q1 h.hd (by intro z; cases z)) fun t a b ht => ne_of ht h.hd (by intro z; cases z)
theorem Hp1.same {H2 : Hp} (h : Hp1 C H x dx H' d b s q r o t kvs tl) (sm : Same H' H2) : Hp1 C H x dx H2 d b s q r o t kvs tl :=
  ⟨h.kp.trans (Keep.of sm), sm _ _ h.hx, sm _ _ h.hd, sm _ _ h.hb, sm _ _ h.hs, h.bs, h.qb, h.qs, h.hq.same sm, h.fd, h.fq, h.fb, h.fs⟩
theorem Hp1.setQ {us : List V} {tl' : List (Int × Nat)} (h : Hp1 C H x dx H' d b s q r o t kvs tl) (hq' : PairsIn (upd H' q (.lst us)) q (tl'.map castT)) : Hp1 C H x dx (upd H' q (.lst us)) d b s q r o t kvs tl' := by
  obtain ⟨vq, q1, _⟩ := h.hq.len
  refine ⟨h.kp.new h.fq, ?_, ?_, ?_, ?_, h.bs, h.qb, h.qs, hq', h.fd, h.fq, h.fb, h.fs⟩
  · rw [upd_ne (ne_of h.hx q1 (by intro z; cases z))]
    exact h.hx
  · rw [upd_ne (ne_of h.hd q1 (by intro z; cases z))]
    exact h.hd
  · rw [upd_ne h.qb.symm]
    exact h.hb
  · rw [upd_ne h.qs.symm]
    exact h.hs
end
structure Pu1 (P : List Part) (r o t : Int) (kvs : List (Key × V)) (tl : List (Int × Nat)) : Prop where
  er : r = (bitsOf isRow P : Nat)
  eo : o = (bitsOf isOne P : Nat)
  et : t = (bitsOf isNeg P : Nat)
  ek : ∀ v : Int, (valV kvs (Sum.inl v)).getD (.int 0) = .int (bitsOf (isIt v) P : Nat)
  kl : kvs.length ≤ P.length
  ex : ∀ z : Int, 0 ≤ z → xorAt tl z = bitsOf (hasC z) P
  tw : tl.length ≤ 2 * weight P
theorem Pu1.start : Pu1 [] 0 0 0 [] [] := ⟨rfl, rfl, rfl, fun _ => rfl, Nat.le_refl _, fun _ _ => rfl, Nat.le_refl _⟩
section
variable {P : List Part} {r o t : Int} {kvs : List (Key × V)} {tl : List (Int × Nat)}
theorem Pu1.row (h : Pu1 P r o t kvs tl) : Pu1 (P ++ [.row]) (Builtin.bitOr r ((2 ^ P.length : Nat) : Int)) o t kvs tl := by
  refine ⟨?_, ?_, ?_, fun v => ?_, ?_, fun z hz => ?_, ?_⟩
  · rw [h.er, or_nat, bits_or isRow P rfl]
  · rw [h.eo, bits_no isOne P rfl]
  · rw [h.et, bits_no isNeg P rfl]
  · rw [h.ek, bits_no (isIt v) P rfl]
  · rw [List.length_append]
    exact Nat.le_trans h.kl (Nat.le_add_right _ _)
  · rw [h.ex z hz, bits_no (hasC z) P rfl]
  · rw [weight_snoc]
    exact h.tw
theorem Pu1.one (h : Pu1 P r o t kvs tl) : Pu1 (P ++ [.one]) r (Builtin.bitOr o ((2 ^ P.length : Nat) : Int)) t kvs tl := by
  refine ⟨?_, ?_, ?_, fun v => ?_, ?_, fun z hz => ?_, ?_⟩
  · rw [h.er, bits_no isRow P rfl]
  · rw [h.eo, or_nat, bits_or isOne P rfl]
  · rw [h.et, bits_no isNeg P rfl]
  · rw [h.ek, bits_no (isIt v) P rfl]
  · rw [List.length_append]
    exact Nat.le_trans h.kl (Nat.le_add_right _ _)
  · rw [h.ex z hz, bits_no (hasC z) P rfl]
  · rw [weight_snoc]
    exact h.tw
theorem Pu1.itself (h : Pu1 P r o t kvs tl) (c : Int) : Pu1 (P ++ [.itself c]) r o t (putK kvs (Sum.inl c) (.int (Builtin.bitOr ((bitsOf (isIt c) P : Nat) : Int) ((2 ^ P.length : Nat) : Int)))) tl := by
  refine ⟨?_, ?_, ?_, fun v => ?_, ?_, fun z hz => ?_, ?_⟩
  · rw [h.er, bits_no isRow P rfl]
  · rw [h.eo, bits_no isOne P rfl]
  · rw [h.et, bits_no isNeg P rfl]
  · rw [valV_put]
    by_cases e : v = c
    · rw [if_pos (by rw [e]), e, or_nat, bits_or (isIt c) P (p := .itself c) (decide_eq_true rfl)]
      rfl
    · rw [if_neg (fun z => e (Sum.inl.inj z)), h.ek, bits_no (isIt v) P (p := .itself c) (decide_eq_false (fun z => e z.symm))]
  · have := length_putK kvs (Sum.inl c) (.int (Builtin.bitOr ((bitsOf (isIt c) P : Nat) : Int) ((2 ^ P.length : Nat) : Int)))
    rw [List.length_append]
    exact Nat.le_trans this (Nat.add_le_add_right h.kl 1)
  · rw [h.ex z hz, bits_no (hasC z) P rfl]
  · rw [weight_snoc]
    exact h.tw
theorem Pu1.set (h : Pu1 P r o t kvs tl) (n : Bool) (ps : List (Int × Int)) (t' : Int) (tl2 : List (Int × Nat)) (ht : t' = if n = true then Builtin.bitOr t ((2 ^ P.length : Nat) : Int) else t)
    (h2 : ∀ x : Int, 0 ≤ x → xorAt tl2 x = if inAny ps x = true then 2 ^ P.length else 0) (h3 : tl2.length ≤ 2 * ps.length) : Pu1 (P ++ [.set n ps]) r o t' kvs (tl ++ tl2) := by
  refine ⟨?_, ?_, ?_, fun v => ?_, ?_, fun z hz => ?_, ?_⟩
  · rw [h.er, bits_no isRow P rfl]
  · rw [h.eo, bits_no isOne P rfl]
  · rw [ht]
    cases n with
    | true => rw [if_pos rfl, h.et, or_nat, bits_or isNeg P rfl]
    | false => rw [if_neg Bool.false_ne_true, h.et, bits_no isNeg P rfl]
  · rw [h.ek, bits_no (isIt v) P rfl]
  · rw [List.length_append]
    exact Nat.le_trans h.kl (Nat.le_add_right _ _)
  · rw [xorAt_append, h.ex z hz, h2 z hz]
    by_cases g : inAny ps z = true
    · rw [if_pos g, bits_xor (hasC z) P (p := .set n ps) g]
    · rw [if_neg g, Nat.xor_zero, bits_no (hasC z) P (p := .set n ps) (Bool.eq_false_iff.mpr g)]
  · rw [weight_snoc, List.length_append]
    have := h.tw
    have e : weigh (.set n ps) = ps.length := rfl
    rw [e]
    omega
end
/-- the instance as it is made -/
structure BitsIn (C : Addr) (H : Hp) (x : Addr) (P : List Part) : Prop where
  ex : ∃ (dx d b s : Addr) (kvs : List (Key × V)) (qs : List (Int × Nat)), H x = some (.ins C dx (fsOf (bitsOf isRow P : Nat) (bitsOf isOne P : Nat) (bitsOf isNeg P : Nat) d b s)) ∧ H d = some (.dK kvs) ∧
    (∀ v : Int, (valV kvs (Sum.inl v)).getD (.int 0) = .int (bitsOf (isIt v) P : Nat)) ∧ H b = some (.lst (qs.map fun y => V.int y.1)) ∧ H s = some (.lst ((pre qs).map fun n => V.int (n : Nat))) ∧ qs.Pairwise (fun a b => a.1 ≤ b.1) ∧ ∀ z : Int, 0 ≤ z → xorAt qs z = bitsOf (hasC z) P
def spInit (C rowA oneA : Addr) : Sp := fun vs H Q _ => ∃ (x dx l : Addr) (P : List Part), vs = [.ref x, .ref l] ∧ H x = some (.ins C dx []) ∧ PartsIn rowA oneA H l P ∧ P.length ≤ 30000 ∧ weight P ≤ 30000 ∧ ∀ H' : Hp, BitsIn C H' x P → Keep H x H' → Q .non H'
def unT (x : Int × Int) : Int × Nat := (x.1, x.2.toNat)
theorem unT_cast (x : Int × Nat) : unT (castT x) = x := rfl
theorem ok___init__ (T : Txt K mg) : FnOk P w K mg base CX0 2 T.a___init__ T.fd___init__ ["self", "parts"] (spInit T.C T.a_ANY_ROW T.a_ANY_ONE) := by
  have G_turns_of := ok_turns_of (P := P) (w := w) (base := base) T
  refine T.F___init__.ok sc___init__ (fun vs H Q E h => ?_) (fun cdv A outer s H vs Q E hr h => ?_)
  · obtain ⟨x, dx, l, P, rfl, _⟩ := h
    rfl
  · obtain ⟨x, dx, l, P, rfl, hx0, hP, hlen, hwt, k⟩ := h
    have hr_turns_of : Room 1 _ := hr.mono (by decide)
    have hu := hu_of hr
    refine ⟨_, (pss_cons (ps_fld (pv 0) pe_int rfl)
      (pss_cons (ps_fld (pv 0) pe_int rfl)
      (pss_cons (ps_fld (pv 0) pe_int rfl)
      (pss_cons (ps_fld (pv 0) pe_dnewK rfl)
      (pss_cons (ps_fld (pv 0) (pe_lst pa_nil) rfl)
      (pss_cons (ps_fld (pv 0) (pe_lst (pa_cons pe_int pa_nil)) rfl)
      (pss_cons (ps_set (i := 2) sc___init__.nd rfl (Or.inl rfl) (pe_lst pa_nil))
      (pss_cons (ps_set (i := 3) sc___init__.nd rfl (Or.inl rfl) pe_int)
      (pss_cons (ps_for PassesOwn.never rfl (pi_list (pv 1)) (pg_tup rfl (pgs_cons (pg_name (i := 4) sc___init__.nd rfl (Or.inl rfl)) (pgs_cons (pg_name (i := 5) sc___init__.nd rfl (Or.inl rfl)) pgs_nil)))
        (pss_cons (ps_if (pt_cmpR op_eq (pv 4) pe_str (nomark _))
          (pss_one (ps_fld (pv 0) (pe_op op_or (pe_fld (pv 0) rfl) (pv 3)) rfl))
          (pss_one (ps_if (pt_cmpR op_eq (pv 4) pe_str (nomark _))
            (pss_one (ps_fld (pv 0) (pe_op op_or (pe_fld (pv 0) rfl) (pv 3)) rfl))
            (pss_one (ps_if (pt_cmpR op_eq (pv 4) pe_str (nomark _))
              (pss_one (ps_dput hu (pe_fld (pv 0) rfl) (pv 5) (pe_op op_or (pe_dget2 hu (pe_fld (pv 0) rfl) (pv 5) pe_int ⟨rfl, rfl, rfl, rfl⟩) (pv 3)) rfl))
              (pss_one (ps_expr (pe_bm PySem.F.plainAttrs_list PySem.F.slot_list_extend PySem.F.type_list_extend mt_extend (pv 2) (pa_cons (pe_call G_turns_of hr_turns_of (by rfl) T.m_turns_of T.k_turns_of T.B_turns_of .nil pass0 (pa_cons (pv 5) (pa_cons (pv 3) pa_nil))) pa_nil)))))))))
        (pss_cons (ps_if (pt_cmpR op_eq (pv 4) pe_str (nomark _))
          (pss_one (ps_fld (pv 0) (pe_op op_or (pe_fld (pv 0) rfl) (pv 3)) rfl))
          pss_nil)
        (pss_one (ps_set (i := 3) sc___init__.nd rfl (Or.inl rfl) (pe_op op_shlB (pv 3) pe_int))))))
      (pss_one (ps_for PassesOwn.never rfl (pi_list (pe_callB call_sortedP (by rfl) T.sorted boot_sorted7 (pa_cons (pv 2) pa_nil))) (pg_tup rfl (pgs_cons (pg_name (i := 6) sc___init__.nd rfl (Or.inl rfl)) (pgs_cons (pg_name (i := 7) sc___init__.nd rfl (Or.inl rfl)) pgs_nil)))
        (pss_cons (ps_expr (pe_bm PySem.F.plainAttrs_list PySem.F.slot_list_append PySem.F.type_list_append mt_append (pe_fld (pv 0) rfl) (pa_cons (pv 6) pa_nil)))
        (pss_one (ps_expr (pe_bm PySem.F.plainAttrs_list PySem.F.slot_list_append PySem.F.type_list_append mt_append (pe_fld (pv 0) rfl) (pa_cons (pe_op op_xor (pe_ix ix_list (pe_fld (pv 0) rfl) (pe_un un_neg pe_int) (fun _ _ => rfl)) (pv 7)) pa_nil)))))))))))))))), ?_⟩
    obtain ⟨pvs, hL, hR⟩ := hP
    have nlx : l ≠ x := ne_of hL hx0 (by intro z; cases z)
    refine ⟨_, rfl, x, T.C, dx, [], rfl, hx0, T.cl, T.n_rows, (by decide), ?_⟩
    refine ⟨_, rfl, x, T.C, dx, _, rfl, upd_same, T.cl, T.n_ones, (by decide), ?_⟩
    refine ⟨_, rfl, x, T.C, dx, _, rfl, upd_same, T.cl, T.n_turned_round, (by decide), ?_⟩
    intro d hd
    rw [upd_upd, upd_upd] at hd ⊢
    have K3 : Keep H x (upd H x (.ins T.C dx (putF "turned_round" (.int 0) (putF "ones" (.int 0) (putF "rows" (.int 0) []))))) := (Keep.of (Same.refl H)).put
    generalize hH3 : upd H x (.ins T.C dx (putF "turned_round" (.int 0) (putF "ones" (.int 0) (putF "rows" (.int 0) [])))) = H3 at *
    have x3 : H3 x = some (.ins T.C dx (putF "turned_round" (.int 0) (putF "ones" (.int 0) (putF "rows" (.int 0) [])))) := by rw [← hH3, upd_same]
    have nxd : x ≠ d := ne_of_none x3 hd
    refine ⟨_, rfl, x, T.C, dx, _, rfl, (by rw [upd_ne nxd]; exact x3), T.cl, T.n_by_letter, (by decide), ?_⟩
    have fd := K3.free hd nxd.symm
    have K5 := (K3.lay (o := .dK []) hd).put (o := .ins T.C dx (putF "by_letter" (.ref d) (putF "turned_round" (.int 0) (putF "ones" (.int 0) (putF "rows" (.int 0) [])))))
    have d5 : (upd (upd H3 d (.dK [])) x (.ins T.C dx (putF "by_letter" (.ref d) (putF "turned_round" (.int 0) (putF "ones" (.int 0) (putF "rows" (.int 0) [])))))) d = some (.dK []) := by rw [upd_ne nxd.symm, upd_same]
    generalize hH5 : upd (upd H3 d (.dK [])) x (.ins T.C dx (putF "by_letter" (.ref d) (putF "turned_round" (.int 0) (putF "ones" (.int 0) (putF "rows" (.int 0) []))))) = H5 at *
    have x5 : H5 x = some (.ins T.C dx (putF "by_letter" (.ref d) (putF "turned_round" (.int 0) (putF "ones" (.int 0) (putF "rows" (.int 0) []))))) := by rw [← hH5, upd_same]
    refine ⟨Nat.zero_le _, fun b hb => ?_⟩
    have nxb : x ≠ b := ne_of_none x5 hb
    refine ⟨_, rfl, x, T.C, dx, _, rfl, (by rw [upd_ne nxb]; exact x5), T.cl, T.n_bounds, (by show 4 < 1000; decide), ?_⟩
    have fb := K5.free hb nxb.symm
    have K7 := (K5.lay (o := .lst []) hb).put (o := .ins T.C dx (putF "bounds" (.ref b) (putF "by_letter" (.ref d) (putF "turned_round" (.int 0) (putF "ones" (.int 0) (putF "rows" (.int 0) []))))))
    have d7 : (upd (upd H5 b (.lst [])) x (.ins T.C dx (putF "bounds" (.ref b) (putF "by_letter" (.ref d) (putF "turned_round" (.int 0) (putF "ones" (.int 0) (putF "rows" (.int 0) []))))))) d = some (.dK []) := by rw [upd_ne nxd.symm, upd_ne (ne_of_none d5 hb)]; exact d5
    have b7 : (upd (upd H5 b (.lst [])) x (.ins T.C dx (putF "bounds" (.ref b) (putF "by_letter" (.ref d) (putF "turned_round" (.int 0) (putF "ones" (.int 0) (putF "rows" (.int 0) []))))))) b = some (.lst []) := by rw [upd_ne nxb.symm, upd_same]
    generalize hH7 : upd (upd H5 b (.lst [])) x (.ins T.C dx (putF "bounds" (.ref b) (putF "by_letter" (.ref d) (putF "turned_round" (.int 0) (putF "ones" (.int 0) (putF "rows" (.int 0) [])))))) = H7 at *
    have x7 : H7 x = some (.ins T.C dx (putF "bounds" (.ref b) (putF "by_letter" (.ref d) (putF "turned_round" (.int 0) (putF "ones" (.int 0) (putF "rows" (.int 0) [])))))) := by rw [← hH7, upd_same]
    refine ⟨(by show 1 ≤ sizeLine; decide), fun s hs => ?_⟩
    have nxs : x ≠ s := ne_of_none x7 hs
    refine ⟨_, rfl, x, T.C, dx, _, rfl, (by rw [upd_ne nxs]; exact x7), T.cl, T.n_sets_from_bounds, (by show 5 < 1000; decide), ?_⟩
    rw [put_all]
    have fs := K7.free hs nxs.symm
    have K9 := (K7.lay (o := .lst [.int 0]) hs).put (o := .ins T.C dx (fsOf 0 0 0 d b s))
    have d9 : (upd (upd H7 s (.lst [.int 0])) x (.ins T.C dx (fsOf 0 0 0 d b s))) d = some (.dK []) := by rw [upd_ne nxd.symm, upd_ne (ne_of_none d7 hs)]; exact d7
    have b9 : (upd (upd H7 s (.lst [.int 0])) x (.ins T.C dx (fsOf 0 0 0 d b s))) b = some (.lst []) := by rw [upd_ne nxb.symm, upd_ne (ne_of_none b7 hs)]; exact b7
    have s9 : (upd (upd H7 s (.lst [.int 0])) x (.ins T.C dx (fsOf 0 0 0 d b s))) s = some (.lst [.int 0]) := by rw [upd_ne nxs.symm, upd_same]
    generalize hH9 : upd (upd H7 s (.lst [.int 0])) x (.ins T.C dx (fsOf 0 0 0 d b s)) = H9 at *
    have x9 : H9 x = some (.ins T.C dx (fsOf 0 0 0 d b s)) := by rw [← hH9, upd_same]
    refine ⟨Nat.zero_le _, fun q hq => ?_⟩
    have nxq : x ≠ q := ne_of_none x9 hq
    have fq := K9.free hq nxq.symm
    have h10 : Hp1 T.C H x dx (upd H9 q (.lst [])) d b s q 0 0 0 [] [] := by
      refine ⟨K9.lay hq, by rw [upd_ne nxq]; exact x9, by rw [upd_ne (ne_of_none d9 hq)]; exact d9, by rw [upd_ne (ne_of_none b9 hq)]; exact b9, by rw [upd_ne (ne_of_none s9 hq)]; exact s9, ne_of_none b7 hs, (ne_of_none b9 hq).symm, (ne_of_none s9 hq).symm, PairsIn.nil upd_same, fd, fq, fb, fs⟩
    refine ⟨_, rfl, l, rfl, ⟨_, SqL.of (h10.kp l _ hL nlx)⟩, for_list (K := K) (a := l) (xs := pvs) (fun i σ H' => ∃ (v4 v5 v6 v7 : Option V) (d b s q : Addr) (r o t : Int) (kvs : List (Key × V)) (tl : List (Int × Nat)) (bit : Nat), σ = [some (.ref x), some (.ref l), some (.ref q), some (.int bit), v4, v5, v6, v7] ∧ (bit = 2 ^ i ∧ Hp1 T.C H x dx H' d b s q r o t kvs tl) ∧ Pu1 (P.take i) r o t kvs tl)
      ⟨none, none, none, none, d, b, s, q, 0, 0, 0, [], [], 1, rfl, ⟨rfl, h10⟩, Pu1.start⟩ (fun i σ H' _ ⟨_, _, _, _, _, _, _, _, _, _, _, _, _, _, _, ⟨_, h⟩, _⟩ => SqL.of (h.kp l _ hL nlx)) ?_ ?_⟩
    · rintro i v σ H1 hv ⟨v4, v5, v6, v7, d, b, s, q, r, o, t, kvs, tl, bit, rfl, ⟨rfl, hp⟩, pu⟩
      obtain ⟨p, hp1, hp2⟩ := hR.at hv
      have hi : i < P.length := by
        have := congrArg List.length hp1
        rw [List.length_drop, List.length_cons] at this
        omega
      have pi : P[i]? = some p := by
        have := congrArg List.head? hp1
        rw [List.head?_drop] at this
        exact this
      have tk : P.take (i + 1) = P.take i ++ [p] := by
        rw [List.take_succ, pi]
        rfl
      have tl_ : (P.take i).length = i := by rw [List.length_take]; omega
      have step2 : (2 : Nat) ^ i = 2 ^ (P.take i).length := by rw [tl_]
      cases p with
      | row =>
        obtain rfl : v = .ref T.a_ANY_ROW := hp2
        refine ⟨T.a_ANY_ROW, _, rfl, .inr T.t_ANY_ROW, rfl, _, _, rfl, _, _, rfl, rfl, ?_⟩
        refine ⟨_, rfl, rfl, _, rfl, strT ?_⟩
        refine ⟨_, rfl, x, T.C, dx, _, _, rfl, hp.hx, T.cl, T.n_rows, fs_rows .., _, rfl, _, _, rfl, rfl, _, rfl, x, T.C, dx, _, rfl, hp.hx, T.cl, T.n_rows, (by show 6 < 1000; decide), ?_⟩
        rw [put_rows]
        have hp' := hp.setX (Builtin.bitOr r ((2 ^ i : Nat) : Int)) o t
        have pu' := pu.row
        rw [← step2] at pu'
        refine ⟨_, rfl, rfl, _, rfl, strF (by decide) ?_⟩
        refine ⟨_, rfl, _, _, rfl, rfl, ⟨by decide, shl_ok (m := i + 1) (by omega) (Nat.pow_lt_pow_right (by decide) (Nat.lt_succ_self i)), by decide⟩, ?_⟩
        exact ⟨_, _, _, _, _, _, _, _, _, _, _, _, _, 2 ^ (i + 1), congrArg (fun z => [some (V.ref x), some (V.ref l), some (V.ref q), some z, _, _, _, _]) (congrArg V.int ((shl_val (2 ^ i)).trans (by rw [← Nat.pow_succ]))), ⟨rfl, hp'⟩, by rw [tk]; exact pu'⟩
      | one =>
        obtain rfl : v = .ref T.a_ANY_ONE := hp2
        refine ⟨T.a_ANY_ONE, _, rfl, .inr T.t_ANY_ONE, rfl, _, _, rfl, _, _, rfl, rfl, ?_⟩
        refine ⟨_, rfl, rfl, _, rfl, strF (by decide) ?_⟩
        refine ⟨_, rfl, rfl, _, rfl, strT ?_⟩
        refine ⟨_, rfl, x, T.C, dx, _, _, rfl, hp.hx, T.cl, T.n_ones, fs_ones .., _, rfl, _, _, rfl, rfl, _, rfl, x, T.C, dx, _, rfl, hp.hx, T.cl, T.n_ones, (by show 6 < 1000; decide), ?_⟩
        rw [put_ones]
        have hp' := hp.setX r (Builtin.bitOr o ((2 ^ i : Nat) : Int)) t
        have pu' := pu.one
        rw [← step2] at pu'
        refine ⟨_, rfl, rfl, _, rfl, strF (by decide) ?_⟩
        refine ⟨_, rfl, _, _, rfl, rfl, ⟨by decide, shl_ok (m := i + 1) (by omega) (Nat.pow_lt_pow_right (by decide) (Nat.lt_succ_self i)), by decide⟩, ?_⟩
        exact ⟨_, _, _, _, _, _, _, _, _, _, _, _, _, 2 ^ (i + 1), congrArg (fun z => [some (V.ref x), some (V.ref l), some (V.ref q), some z, _, _, _, _]) (congrArg V.int ((shl_val (2 ^ i)).trans (by rw [← Nat.pow_succ]))), ⟨rfl, hp'⟩, by rw [tk]; exact pu'⟩
      | itself c =>
        obtain ⟨tt, rfl, ht⟩ := hp2
        have ht1 := hp.kp tt _ ht (ne_of ht hx0 (by intro z; cases z))
        refine ⟨tt, _, rfl, SqT.of ht1, rfl, _, _, rfl, _, _, rfl, rfl, ?_⟩
        refine ⟨_, rfl, rfl, _, rfl, strF (by decide) ?_⟩
        refine ⟨_, rfl, rfl, _, rfl, strF (by decide) ?_⟩
        refine ⟨_, rfl, rfl, _, rfl, strT ?_⟩
        refine ⟨_, rfl, x, T.C, dx, _, _, rfl, hp.hx, T.cl, T.n_by_letter, fs_by .., d, rfl, .inl ⟨kvs, .inl hp.hd⟩, _, rfl, _, DGet.k (k := Sum.inl c) hp.hd, _, rfl, _, _, pu.ek c, rfl, ?_⟩
        refine ⟨_, rfl, x, T.C, dx, _, _, rfl, hp.hx, T.cl, T.n_by_letter, fs_by .., _, rfl, d, _, rfl, DPut.k (k := Sum.inl c) hp.hd (Nat.lt_of_le_of_lt (Nat.le_trans pu.kl (by rw [tl_]; exact Nat.le_trans (Nat.le_of_lt hi) hlen)) (by decide)), ?_⟩
        have hp' := hp.setD (putK kvs (Sum.inl c) (.int (Builtin.bitOr ((bitsOf (isIt c) (P.take i) : Nat) : Int) ((2 ^ i : Nat) : Int))))
        have pu' := pu.itself c
        rw [← step2] at pu'
        refine ⟨_, rfl, rfl, _, rfl, strF (by decide) ?_⟩
        refine ⟨_, rfl, _, _, rfl, rfl, ⟨by decide, shl_ok (m := i + 1) (by omega) (Nat.pow_lt_pow_right (by decide) (Nat.lt_succ_self i)), by decide⟩, ?_⟩
        exact ⟨_, _, _, _, _, _, _, _, _, _, _, _, _, 2 ^ (i + 1), congrArg (fun z => [some (V.ref x), some (V.ref l), some (V.ref q), some z, _, _, _, _]) (congrArg V.int ((shl_val (2 ^ i)).trans (by rw [← Nat.pow_succ]))), ⟨rfl, hp'⟩, by rw [tk]; exact pu'⟩
      | set n ps =>
        obtain ⟨tt, pa, rfl, ht, _, hps⟩ := hp2
        have ht1 := hp.kp tt _ ht (ne_of ht hx0 (by intro z; cases z))
        obtain ⟨pav, pa1, _⟩ := hps.len
        have hps1 := hps.keep hp.kp (ne_of pa1 hx0 (by intro z; cases z)) fun t a b ht => ne_of ht hx0 (by intro z; cases z)
        have wi : weight (P.take i) + ps.length ≤ 30000 := by
          have e : P = P.take i ++ Part.set n ps :: P.drop (i + 1) := by rw [← hp1, List.take_append_drop]
          have w : weight P = weight (P.take i) + (ps.length + weight (P.drop (i + 1))) := by
            conv => lhs; rw [e]
            unfold weight
            rw [List.map_append, List.sum_append, List.map_cons, List.sum_cons]
            rfl
          omega
        refine ⟨tt, _, rfl, SqT.of ht1, rfl, _, _, rfl, _, _, rfl, rfl, ?_⟩
        refine ⟨_, rfl, rfl, _, rfl, strF (by cases n <;> decide) ?_⟩
        refine ⟨_, rfl, rfl, _, rfl, strF (by cases n <;> decide) ?_⟩
        refine ⟨_, rfl, rfl, _, rfl, strF (by cases n <;> decide) ?_⟩
        obtain ⟨qv, qv1, _⟩ := hp.hq.len
        refine ⟨_, rfl, .inl ⟨rfl, _, SqL.of qv1⟩, _, rfl, _, rfl, pa, 2 ^ i, ps, rfl, hps1, (by omega), fun H2 q2 tl2 hq2 sm2 pr2 tx2 tn2 => ?_⟩
        have hp2' := hp.same sm2
        obtain ⟨xs, zs, e1, e2, e3, e4, e5⟩ := hp2'.hq.extend pr2
        rw [← List.map_append] at e5
        have twi := pu.tw
        have zl : sizeLine = 16777216 := rfl
        refine ⟨q, q2, xs, zs, rfl, rfl, e1, e2, (by rw [List.length_map] at e3 e4; omega), ?_⟩
        have hp3 := hp2'.setQ e5
        cases n with
        | false =>
          have pu' := pu.set false ps t tl2 (by rw [if_neg Bool.false_ne_true]) (by rw [← step2]; exact tx2) tn2
          refine ⟨_, rfl, rfl, _, rfl, strF (by decide) ?_⟩
          have hp' := hp3
          refine ⟨_, rfl, _, _, rfl, rfl, ⟨by decide, shl_ok (m := i + 1) (by omega) (Nat.pow_lt_pow_right (by decide) (Nat.lt_succ_self i)), by decide⟩, ?_⟩
          exact ⟨_, _, _, _, _, _, _, _, _, _, _, _, _, 2 ^ (i + 1), congrArg (fun z => [some (V.ref x), some (V.ref l), some (V.ref q), some z, _, _, _, _]) (congrArg V.int ((shl_val (2 ^ i)).trans (by rw [← Nat.pow_succ]))), ⟨rfl, hp'⟩, by rw [tk]; exact pu'⟩
        | true =>
          have pu' := pu.set true ps (Builtin.bitOr t ((2 ^ i : Nat) : Int)) tl2 (by rw [if_pos rfl, step2]) (by rw [← step2]; exact tx2) tn2
          refine ⟨_, rfl, rfl, _, rfl, strT ?_⟩
          refine ⟨_, rfl, x, T.C, dx, _, _, rfl, hp3.hx, T.cl, T.n_turned_round, fs_turned .., _, rfl, _, _, rfl, rfl, _, rfl, x, T.C, dx, _, rfl, hp3.hx, T.cl, T.n_turned_round, (by show 6 < 1000; decide), ?_⟩
          rw [put_turned]
          have hp' := hp3.setX r o (Builtin.bitOr t ((2 ^ i : Nat) : Int))
          refine ⟨_, rfl, _, _, rfl, rfl, ⟨by decide, shl_ok (m := i + 1) (by omega) (Nat.pow_lt_pow_right (by decide) (Nat.lt_succ_self i)), by decide⟩, ?_⟩
          exact ⟨_, _, _, _, _, _, _, _, _, _, _, _, _, 2 ^ (i + 1), congrArg (fun z => [some (V.ref x), some (V.ref l), some (V.ref q), some z, _, _, _, _]) (congrArg V.int ((shl_val (2 ^ i)).trans (by rw [← Nat.pow_succ]))), ⟨rfl, hp'⟩, by rw [tk]; exact pu'⟩
    · rintro σ H1 ⟨v4, v5, v6, v7, d, b, s, q, r, o, t, kvs, tl, bit, rfl, ⟨hbit, hp⟩, pu⟩
      rw [hR.len, List.take_length] at pu
      obtain ⟨er, eo, et, ek, kl, ex, tw⟩ := pu
      subst er eo et
      obtain ⟨ts, t1, t2, t3⟩ := hp.hq
      refine ⟨_, rfl, q, ts, rfl, t1, t2, fun w ts' hw hperm hsort => ?_⟩
      have qperm0 : (ts'.map (pairOf H1)).Perm (tl.map castT) := by
        rw [t3]
        exact hperm.map _
      obtain ⟨qs, hqs1, hqs2⟩ : ∃ qs : List (Int × Nat), qs.Perm tl ∧ qs.map castT = ts'.map (pairOf H1) := by
        refine ⟨(ts'.map (pairOf H1)).map unT, ?_, ?_⟩
        · have := qperm0.map unT
          rw [List.map_map (f := castT)] at this
          have e : tl.map (unT ∘ castT) = tl := by
            conv => rhs; rw [← List.map_id tl]
            rfl
          rw [e] at this
          exact this
        · conv => rhs; rw [← List.map_id (ts'.map (pairOf H1))]
          rw [List.map_map (l := ts'.map (pairOf H1))]
          refine List.map_congr_left fun y hy => ?_
          obtain ⟨z, _, rfl⟩ := List.mem_map.mp (qperm0.mem_iff.mp hy)
          rfl
      have qlen : qs.length = ts'.length := by
        have := congrArg List.length hqs2
        rw [List.length_map, List.length_map] at this
        exact this
      have qle : qs.length ≤ 60000 := by
        rw [hqs1.length_eq]
        omega
      have qsort : qs.Pairwise (fun a b => a.1 ≤ b.1) := by
        have : (qs.map castT).Pairwise (fun a b => a.1 ≤ b.1) := by
          rw [hqs2, List.pairwise_map]
          exact hsort
        rw [List.pairwise_map] at this
        exact this
      have nwb : w ≠ b := (ne_of_none hp.hb hw).symm
      have nws : w ≠ s := (ne_of_none hp.hs hw).symm
      generalize hHm : upd H1 w (.lst (ts'.map V.ref)) = Hm
      have sm : Same H1 Hm := by rw [← hHm]; exact same_new hw
      have mw : Hm w = some (.lst (ts'.map V.ref)) := by rw [← hHm, upd_same]
      have mx := sm _ _ hp.hx
      have nxb : x ≠ b := ne_of hp.hx hp.hb (by intro z; cases z)
      have nxs : x ≠ s := ne_of hp.hx hp.hs (by intro z; cases z)
      refine ⟨w, rfl, ⟨_, SqL.of mw⟩, for_list (K := K) (a := w) (xs := ts'.map V.ref) (fun j σ H' => ∃ (v6 v7 : Option V), σ = [some (.ref x), some (.ref l), some (.ref q), some (.int bit), v4, v5, v6, v7] ∧ (∀ c u, Hm c = some u → c ≠ b → c ≠ s → H' c = some u) ∧ H' b = some (.lst ((qs.take j).map fun y => V.int y.1)) ∧ H' s = some (.lst ((pre (qs.take j)).map fun n => V.int (n : Nat))))
        ⟨v6, v7, rfl, fun c u h _ _ => h, sm _ _ hp.hb, sm _ _ hp.hs⟩ (fun j σ H' _ ⟨_, _, _, h, _⟩ => SqL.of (h w _ mw nwb nws)) ?_ ?_⟩
      · rintro j v σ H2 hv ⟨v6, v7, rfl, kp, hb2, hs2⟩
        rw [List.getElem?_map] at hv
        obtain ⟨tt, htt, rfl⟩ := Option.map_eq_some_iff.mp hv
        have hj : j < ts'.length := (List.getElem?_eq_some_iff.mp htt).1
        have hmem : tt ∈ ts := hperm.mem_iff.mp (List.mem_of_getElem? htt)
        obtain ⟨ya, yb, hy⟩ := t2 tt hmem
        obtain ⟨y, hyq⟩ : ∃ y, qs[j]? = some y := ⟨_, List.getElem?_eq_getElem (by omega)⟩
        have yeq : castT y = (ya, yb) := by
          have e1 : (qs.map castT)[j]? = some (castT y) := by rw [List.getElem?_map, hyq]; rfl
          rw [hqs2, List.getElem?_map, htt] at e1
          have := Option.some.inj e1
          rw [← this]
          exact pairOf_at hy
        have y1 : y.1 = ya := congrArg Prod.fst yeq
        have y2 : (y.2 : Int) = yb := congrArg Prod.snd yeq
        subst y1 y2
        have hT := kp tt _ (sm _ _ hy) (ne_of hy hp.hb (by intro z; cases z)) (ne_of hy hp.hs (by intro z; cases z))
        have tkj : qs.take (j + 1) = qs.take j ++ [y] := by
          rw [List.take_succ, hyq]
          rfl
        have hx2 := kp x _ mx nxb nxs
        have zl : sizeLine = 16777216 := rfl
        refine ⟨tt, _, rfl, SqT.of hT, rfl, _, _, rfl, _, _, rfl, rfl, ?_⟩
        refine ⟨_, rfl, x, T.C, dx, _, _, rfl, hx2, T.cl, T.n_bounds, fs_bounds .., .inl ⟨rfl, _, SqL.of hb2⟩, _, rfl, b, _, _, rfl, rfl, hb2, (by rw [List.length_map, List.length_take]; omega), ?_⟩
        have hx3 : (upd H2 b (.lst (((qs.take j).map fun y => V.int y.1) ++ [.int y.1]))) x = _ := (upd_ne nxb).trans hx2
        have hs3 : (upd H2 b (.lst (((qs.take j).map fun y => V.int y.1) ++ [.int y.1]))) s = _ := (upd_ne hp.bs.symm).trans hs2
        refine ⟨_, rfl, x, T.C, dx, _, _, rfl, hx3, T.cl, T.n_sets_from_bounds, fs_sets .., .inl ⟨rfl, _, SqL.of hs3⟩, _, rfl, x, T.C, dx, _, _, rfl, hx3, T.cl, T.n_sets_from_bounds, fs_sets .., _, rfl, s, _, _, .int (xorAll (qs.take j) : Nat), rfl, rfl, SqL.of hs3, (by rw [pre_last, List.map_append]; exact atI_last _ _), _, rfl, _, _, rfl, rfl, s, _, _, rfl, rfl, hs3, (by rw [List.length_map, pre_len, List.length_take]; omega), ?_⟩
        refine ⟨_, _, rfl, fun c u hc n1 n2 => ?_, ?_, ?_⟩
        · rw [upd_ne n2, upd_ne n1]
          exact kp c u hc n1 n2
        · rw [upd_ne hp.bs, upd_same, tkj, List.map_append]
          rfl
        · rw [upd_same, tkj, pre_snoc, List.map_append]
          show some (HO.lst (_ ++ [V.int (Builtin.bitXor ((xorAll (qs.take j) : Nat) : Int) ((y.2 : Nat) : Int))])) = _
          rw [xor_nat]
          rfl
      · rintro σ H2 ⟨v6, v7, rfl, kp, hb2, hs2⟩
        rw [List.length_map, ← qlen, List.take_length] at hb2 hs2
        refine k H2 ⟨dx, d, b, s, kvs, qs, kp x _ mx nxb nxs, kp d _ (sm _ _ hp.hd) (ne_of hp.hd hp.hb (by intro z; cases z)) (ne_of hp.hd hp.hs (by intro z; cases z)), ek, hb2, hs2, qsort, fun z hz => ?_⟩ fun c u hc hn => ?_
        · rw [xorAt_perm z hqs1, ex z hz]
        · exact kp c u (sm _ _ (hp.kp c u hc hn)) (ne_of_none hc hp.fb) (ne_of_none hc hp.fs)
end
end Toy

end
section
set_option Elab.async false
set_option linter.all false
set_option maxRecDepth 100000
set_option maxHeartbeats 4000000
namespace Toy
open PySem PySem.Spec PyProof.Rows L2
open PySem.W (Codec)

def Fit : List Part → List Int → Prop
  | [], t => t = []
  | p :: P, t => (isRow p = true ∧ ∃ k, Fit P (t.drop k)) ∨ (isRow p = false ∧ ∃ c u, t = c :: u ∧ fitsP c p = true ∧ Fit P u)
theorem fit_nil (t : List Int) : Fit [] t ↔ t = [] := by rw [Fit]
theorem fit_row (P : List Part) (t : List Int) : Fit (.row :: P) t ↔ ∃ k, Fit P (t.drop k) := by
  rw [Fit]
  constructor
  · rintro (⟨_, h⟩ | ⟨h, _⟩)
    · exact h
    · cases h
  · exact fun h => .inl ⟨rfl, h⟩
theorem fit_solid {p : Part} (h : isRow p = false) (P : List Part) (t : List Int) : Fit (p :: P) t ↔ ∃ c u, t = c :: u ∧ fitsP c p = true ∧ Fit P u := by
  rw [Fit]
  constructor
  · rintro (⟨g, _⟩ | ⟨_, g⟩)
    · rw [h] at g
      cases g
    · exact g
  · exact fun g => .inr ⟨h, g⟩
theorem fit_append : ∀ (P Q : List Part) (t : List Int), Fit (P ++ Q) t ↔ ∃ u v, t = u ++ v ∧ Fit P u ∧ Fit Q v
  | [], Q, t => by
    constructor
    · exact fun h => ⟨[], t, rfl, (fit_nil []).mpr rfl, h⟩
    · rintro ⟨u, v, rfl, hu, hv⟩
      rw [(fit_nil u).mp hu]
      exact hv
  | p :: P, Q, t => by
    have ih := fun t => fit_append P Q t
    rw [List.cons_append]
    cases hp : isRow p with
    | true =>
      have e : p = .row := by cases p <;> first | rfl | cases hp
      subst e
      rw [fit_row]
      constructor
      · rintro ⟨k, h⟩
        obtain ⟨u, v, e, hu, hv⟩ := (ih _).mp h
        refine ⟨t.take k ++ u, v, ?_, (fit_row P _).mpr ⟨(t.take k).length, ?_⟩, hv⟩
        · rw [List.append_assoc, ← e, List.take_append_drop]
        · rw [List.drop_left]
          exact hu
      · rintro ⟨u, v, rfl, hu, hv⟩
        obtain ⟨k, hk⟩ := (fit_row P _).mp hu
        refine ⟨min k u.length, (ih _).mpr ⟨u.drop k, v, ?_, hk, hv⟩⟩
        rw [List.drop_append_of_le_length (Nat.min_le_right _ _)]
        congr 1
        by_cases h : k ≤ u.length
        · rw [Nat.min_eq_left h]
        · rw [Nat.min_eq_right (by omega), List.drop_length, List.drop_eq_nil_of_le (by omega)]
    | false =>
      rw [fit_solid hp]
      constructor
      · rintro ⟨c, r, rfl, hc, h⟩
        obtain ⟨u, v, rfl, hu, hv⟩ := (ih _).mp h
        exact ⟨c :: u, v, rfl, (fit_solid hp P _).mpr ⟨c, u, rfl, hc, hu⟩, hv⟩
      · rintro ⟨u, v, rfl, hu, hv⟩
        obtain ⟨c, r, rfl, hc, hr⟩ := (fit_solid hp P _).mp hu
        exact ⟨c, r ++ v, rfl, hc, (ih _).mpr ⟨r, v, rfl, hr, hv⟩⟩
theorem fit_snoc_row (P : List Part) (t : List Int) : Fit (P ++ [.row]) t ↔ ∃ u v, t = u ++ v ∧ Fit P u := by
  rw [fit_append]
  constructor
  · rintro ⟨u, v, e, hu, _⟩
    exact ⟨u, v, e, hu⟩
  · rintro ⟨u, v, e, hu⟩
    exact ⟨u, v, e, hu, (fit_row [] v).mpr ⟨v.length, (fit_nil _).mpr List.drop_length⟩⟩
theorem fit_snoc {p : Part} (h : isRow p = false) (P : List Part) (t : List Int) : Fit (P ++ [p]) t ↔ ∃ u c, t = u ++ [c] ∧ Fit P u ∧ fitsP c p = true := by
  rw [fit_append]
  constructor
  · rintro ⟨u, v, rfl, hu, hv⟩
    obtain ⟨c, r, rfl, hc, hr⟩ := (fit_solid h [] v).mp hv
    rw [(fit_nil r).mp hr]
    exact ⟨u, c, rfl, hu, hc⟩
  · rintro ⟨u, c, rfl, hu, hc⟩
    exact ⟨u, [c], rfl, hu, (fit_solid h [] [c]).mpr ⟨c, [], rfl, hc, (fit_nil []).mpr rfl⟩⟩
/-! the walk with all states at once -/
def rowAt (P : List Part) (k : Nat) : Bool := (bitsOf isRow P).testBit k
def NoAdj (P : List Part) : Prop := ∀ k, rowAt P k = true → rowAt P (k + 1) = false
def F (P : List Part) (j : Nat) (t : List Int) : Prop := Fit (P.take j) t
def S (P : List Part) (k : Nat) (t : List Int) : Prop := F P (if rowAt P k = true then k + 1 else k) t
def Reach (P : List Part) (t : List Int) (r : Nat) : Prop := ∀ k, r.testBit k = true ↔ (k ≤ P.length ∧ S P k t)
def past (r w : Nat) : Nat := r ||| ((r &&& w) * 2)
section
variable {P : List Part}
theorem rowAt_iff (k : Nat) : rowAt P k = true ↔ P[k]? = some .row := by
  unfold rowAt
  rw [bits_test]
  cases h : P[k]? with
  | none => simp
  | some p => cases p <;> simp [isRow]
theorem F_zero (t : List Int) : F P 0 t ↔ t = [] := fit_nil t
theorem F_row {j : Nat} (h : rowAt P j = true) (t : List Int) : F P (j + 1) t ↔ ∃ u v, t = u ++ v ∧ F P j u := by
  unfold F
  rw [List.take_succ, (rowAt_iff j).mp h]
  exact fit_snoc_row _ t
theorem F_row_step {j : Nat} (h : rowAt P j = true) (t : List Int) (c : Int) : F P (j + 1) (t ++ [c]) ↔ F P (j + 1) t ∨ F P j (t ++ [c]) := by
  rw [F_row h, F_row h]
  constructor
  · rintro ⟨u, v, e, hu⟩
    rcases List.eq_nil_or_concat v with rfl | ⟨w, x, rfl⟩
    · rw [List.append_nil] at e
      rw [e]
      exact .inr hu
    · rw [List.concat_eq_append, ← List.append_assoc] at e
      have := List.append_inj' e rfl
      exact .inl ⟨u, w, this.1, hu⟩
  · rintro (⟨u, v, rfl, hu⟩ | hu)
    · exact ⟨u, v ++ [c], by rw [List.append_assoc], hu⟩
    · exact ⟨t ++ [c], [], by rw [List.append_nil], hu⟩
theorem F_sol_step {j : Nat} {p : Part} (hp : P[j]? = some p) (h : isRow p = false) (t : List Int) (c : Int) : F P (j + 1) (t ++ [c]) ↔ F P j t ∧ fitsP c p = true := by
  unfold F
  rw [List.take_succ, hp]
  show Fit (P.take j ++ [p]) _ ↔ _
  rw [fit_snoc h]
  constructor
  · rintro ⟨u, x, e, hu, hx⟩
    have := List.append_inj' e rfl
    have e2 : c = x := by simpa using this.2
    rw [this.1, e2]
    exact ⟨hu, hx⟩
  · rintro ⟨hu, hx⟩
    exact ⟨t, c, rfl, hu, hx⟩
theorem F_sol_nil {j : Nat} {p : Part} (hp : P[j]? = some p) (h : isRow p = false) : ¬ F P (j + 1) [] := by
  unfold F
  rw [List.take_succ, hp]
  show ¬ Fit (P.take j ++ [p]) _
  rw [fit_snoc h]
  rintro ⟨u, x, e, _⟩
  simp at e
theorem fit_test (c : Int) (k : Nat) : (bitsOf (fitsP c) P).testBit k = true ↔ ∃ p, P[k]? = some p ∧ isRow p = false ∧ fitsP c p = true := by
  rw [bits_test]
  cases h : P[k]? with
  | none => simp
  | some p => cases p <;> simp [isRow, fitsP]
theorem two_test (x k : Nat) : (x * 2).testBit k = true ↔ ∃ j, k = j + 1 ∧ x.testBit j = true := by
  have := Nat.testBit_mul_two_pow x k 1
  rw [Nat.pow_one] at this
  rw [this]
  cases k with
  | zero => simp
  | succ j => simp
theorem rowAt_lt {k : Nat} (h : rowAt P k = true) : k < P.length := by
  have := (rowAt_iff k).mp h
  exact (List.getElem?_eq_some_iff.mp this).1
theorem solid_at {k : Nat} (h : rowAt P k = false) (hk : k < P.length) : ∃ p, P[k]? = some p ∧ isRow p = false := by
  refine ⟨P[k], List.getElem?_eq_getElem hk, ?_⟩
  cases e : isRow P[k] with
  | false => rfl
  | true =>
    have : P[k]? = some .row := by
      rw [List.getElem?_eq_getElem hk]
      cases q : P[k] with
      | row => rfl
      | one => rw [q] at e; cases e
      | itself c => rw [q] at e; cases e
      | set n ps => rw [q] at e; cases e
    rw [(rowAt_iff k).mpr this] at h
    cases h
theorem reach_step (na : NoAdj P) {t : List Int} {r : Nat} (R : Reach P t r) (c : Int) : Reach P (t ++ [c]) (past ((r &&& bitsOf isRow P) ||| ((r &&& bitsOf (fitsP c) P) * 2)) (bitsOf isRow P)) := by
  have pre : ∀ k, ((r &&& bitsOf isRow P) ||| ((r &&& bitsOf (fitsP c) P) * 2)).testBit k = true ↔ ((k ≤ P.length ∧ S P k t) ∧ rowAt P k = true) ∨ ∃ j, k = j + 1 ∧ (j ≤ P.length ∧ S P j t) ∧ ∃ p, P[j]? = some p ∧ isRow p = false ∧ fitsP c p = true := by
    intro k
    rw [Nat.testBit_or, Bool.or_eq_true, Nat.testBit_and, Bool.and_eq_true, R k, two_test]
    refine or_congr Iff.rfl ⟨?_, ?_⟩
    · rintro ⟨j, e, h⟩
      rw [Nat.testBit_and, Bool.and_eq_true, R j, fit_test] at h
      exact ⟨j, e, h⟩
    · rintro ⟨j, e, h⟩
      refine ⟨j, e, ?_⟩
      rw [Nat.testBit_and, Bool.and_eq_true, R j, fit_test]
      exact h
  generalize ((r &&& bitsOf isRow P) ||| ((r &&& bitsOf (fitsP c) P) * 2)) = q at pre ⊢
  -- where a row stands
  have A : ∀ k, rowAt P k = true → (q.testBit k = true ↔ F P (k + 1) (t ++ [c])) := by
    intro k hk
    have kl := rowAt_lt hk
    rw [pre k, F_row_step hk]
    unfold S
    rw [if_pos hk]
    constructor
    · rintro (h | ⟨j, rfl, ⟨_, h⟩, p, hp, hs, hf⟩)
      · exact .inl h.1.2
      · right
        have hj : rowAt P j = false := by
          cases e : rowAt P j with
          | false => rfl
          | true =>
            have := na j e
            rw [hk] at this
            cases this
        rw [if_neg (by rw [hj]; exact Bool.false_ne_true)] at h
        exact (F_sol_step hp hs t c).mpr ⟨h, hf⟩
    · rintro (h | h)
      · exact .inl ⟨⟨by omega, h⟩, hk⟩
      · right
        cases k with
        | zero =>
          have := (F_zero _).mp h
          simp at this
        | succ j =>
          have hj : rowAt P j = false := by
            cases e : rowAt P j with
            | false => rfl
            | true =>
              have := na j e
              rw [hk] at this
              cases this
          obtain ⟨p, hp, hs⟩ := solid_at hj (by omega)
          obtain ⟨h1, h2⟩ := (F_sol_step hp hs t c).mp h
          exact ⟨j, rfl, ⟨by omega, by rw [if_neg (by rw [hj]; exact Bool.false_ne_true)]; exact h1⟩, p, hp, hs, h2⟩
  intro k
  unfold past
  rw [Nat.testBit_or, Bool.or_eq_true, two_test]
  have B : (∃ j, k = j + 1 ∧ (q &&& bitsOf isRow P).testBit j = true) ↔ ∃ j, k = j + 1 ∧ rowAt P j = true ∧ F P (j + 1) (t ++ [c]) := by
    constructor
    · rintro ⟨j, e, h⟩
      rw [Nat.testBit_and, Bool.and_eq_true] at h
      exact ⟨j, e, h.2, (A j h.2).mp h.1⟩
    · rintro ⟨j, e, h1, h2⟩
      refine ⟨j, e, ?_⟩
      rw [Nat.testBit_and, Bool.and_eq_true]
      exact ⟨(A j h1).mpr h2, h1⟩
  rw [B]
  unfold S
  cases hk : rowAt P k with
  | true =>
    rw [if_pos rfl, A k hk]
    have kl := rowAt_lt hk
    constructor
    · rintro (h | ⟨j, rfl, h, _⟩)
      · exact ⟨by omega, h⟩
      · have := na j h
        rw [hk] at this
        cases this
    · exact fun h => .inl h.2
  | false =>
    rw [if_neg Bool.false_ne_true, pre k]
    constructor
    · rintro ((h | ⟨j, rfl, ⟨_, h⟩, p, hp, hs, hf⟩) | ⟨j, rfl, h1, h2⟩)
      · rw [hk] at h
        cases h.2
      · have jl := (List.getElem?_eq_some_iff.mp hp).1
        have hj : rowAt P j = false := by
          cases e : rowAt P j with
          | false => rfl
          | true =>
            rw [(rowAt_iff j).mp e] at hp
            cases hp
            cases hs
        unfold S at h
        rw [if_neg (by rw [hj]; exact Bool.false_ne_true)] at h
        exact ⟨by omega, (F_sol_step hp hs t c).mpr ⟨h, hf⟩⟩
      · have := rowAt_lt h1
        exact ⟨by omega, h2⟩
    · rintro ⟨kl, h⟩
      cases k with
      | zero =>
        have := (F_zero _).mp h
        simp at this
      | succ j =>
        cases hj : rowAt P j with
        | true => exact .inr ⟨j, rfl, hj, h⟩
        | false =>
          obtain ⟨p, hp, hs⟩ := solid_at hj (by omega)
          obtain ⟨h1, h2⟩ := (F_sol_step hp hs t c).mp h
          refine .inl (.inr ⟨j, rfl, ⟨by omega, ?_⟩, p, hp, hs, h2⟩)
          unfold S
          rw [if_neg (by rw [hj]; exact Bool.false_ne_true)]
          exact h1
theorem reach_start (na : NoAdj P) : Reach P [] (past 1 (bitsOf isRow P)) := by
  intro k
  unfold past
  have one : ∀ j, (1 : Nat).testBit j = true ↔ j = 0 := fun j => by
    have := @Nat.testBit_two_pow 0 j
    rw [Nat.pow_zero] at this
    rw [this]
    simp [eq_comm]
  rw [Nat.testBit_or, Bool.or_eq_true, two_test, one]
  have B : (∃ j, k = j + 1 ∧ (1 &&& bitsOf isRow P).testBit j = true) ↔ k = 1 ∧ rowAt P 0 = true := by
    constructor
    · rintro ⟨j, e, h⟩
      rw [Nat.testBit_and, Bool.and_eq_true, one] at h
      obtain ⟨rfl, h⟩ := h
      exact ⟨e, h⟩
    · rintro ⟨e, h⟩
      refine ⟨0, e, ?_⟩
      rw [Nat.testBit_and, Bool.and_eq_true, one]
      exact ⟨rfl, h⟩
  rw [B]
  unfold S
  have rowF : ∀ j, rowAt P j = true → (F P (j + 1) [] ↔ F P j []) := fun j hj => by
    rw [F_row hj]
    constructor
    · rintro ⟨u, v, e, h⟩
      have := List.append_eq_nil_iff.mp e.symm
      rw [this.1] at h
      exact h
    · exact fun h => ⟨[], [], rfl, h⟩
  constructor
  · rintro (rfl | ⟨rfl, h⟩)
    · refine ⟨Nat.zero_le _, ?_⟩
      cases h : rowAt P 0 with
      | true =>
        rw [if_pos rfl, rowF 0 h]
        exact (F_zero _).mpr rfl
      | false =>
        rw [if_neg Bool.false_ne_true]
        exact (F_zero _).mpr rfl
    · have l := rowAt_lt h
      refine ⟨l, ?_⟩
      have n1 : rowAt P 1 = false := na 0 h
      rw [if_neg (by rw [n1]; exact Bool.false_ne_true), rowF 0 h]
      exact (F_zero _).mpr rfl
  · rintro ⟨kl, h⟩
    -- the first F that holds of nothing
    have key : ∀ j, j ≤ P.length → F P j [] → j = 0 ∨ (j = 1 ∧ rowAt P 0 = true) := by
      intro j hj hF
      cases j with
      | zero => exact .inl rfl
      | succ i =>
        cases e : rowAt P i with
        | false =>
          obtain ⟨p, hp, hs⟩ := solid_at e (by omega)
          exact absurd hF (F_sol_nil hp hs)
        | true =>
          have h1 := (rowF i e).mp hF
          cases i with
          | zero => exact .inr ⟨rfl, e⟩
          | succ m =>
            have hm : rowAt P m = false := by
              cases g : rowAt P m with
              | false => rfl
              | true =>
                have := na m g
                rw [e] at this
                cases this
            obtain ⟨p, hp, hs⟩ := solid_at hm (by omega)
            exact absurd h1 (F_sol_nil hp hs)
    cases hk : rowAt P k with
    | true =>
      rw [if_pos hk] at h
      have l := rowAt_lt hk
      rcases key (k + 1) (by omega) h with h | ⟨h, g⟩
      · omega
      · exact .inl (by omega)
    | false =>
      rw [if_neg (by rw [hk]; exact Bool.false_ne_true)] at h
      rcases key k kl h with h | ⟨h, g⟩
      · exact .inl h
      · exact .inr ⟨h, g⟩
theorem reach_lt {t : List Int} {r : Nat} (R : Reach P t r) : r < 2 ^ (P.length + 1) := Nat.lt_pow_two_of_testBit _ fun k hk => by
  cases e : r.testBit k with
  | false => rfl
  | true =>
    have := ((R k).mp e).1
    omega
theorem reach_end {t : List Int} {r : Nat} (R : Reach P t r) : (Fit P t → r / 2 ^ P.length = 1) ∧ (¬ Fit P t → r / 2 ^ P.length = 0) := by
  have no : rowAt P P.length = false := by
    cases e : rowAt P P.length with
    | false => rfl
    | true => exact absurd (rowAt_lt e) (Nat.lt_irrefl _)
  have h := R P.length
  unfold S at h
  rw [if_neg (by rw [no]; exact Bool.false_ne_true)] at h
  unfold F at h
  rw [List.take_length] at h
  have lt := reach_lt R
  have d : r / 2 ^ P.length < 2 := by
    rw [Nat.div_lt_iff_lt_mul (Nat.two_pow_pos _)]
    rw [Nat.pow_succ, Nat.mul_comm] at lt
    exact lt
  have tb : (r / 2 ^ P.length).testBit 0 = r.testBit P.length := by
    rw [Nat.testBit_div_two_pow, Nat.zero_add]
  rw [Nat.testBit_zero] at tb
  generalize r / 2 ^ P.length = m at d tb ⊢
  constructor
  · intro f
    have := h.mpr ⟨Nat.le_refl _, f⟩
    rw [this] at tb
    have := of_decide_eq_true tb
    omega
  · intro f
    have : r.testBit P.length = false := by
      cases e : r.testBit P.length with
      | false => rfl
      | true => exact absurd (h.mp e).2 f
    rw [this] at tb
    have := of_decide_eq_false tb
    omega
end
/-! from the specification's items -/
theorem fit_two (L : List Part) (t : List Int) : Fit (.row :: .row :: L) t ↔ Fit (.row :: L) t := by
  rw [fit_row, fit_row]
  constructor
  · rintro ⟨k, h⟩
    obtain ⟨j, h⟩ := (fit_row L _).mp h
    rw [List.drop_drop] at h
    exact ⟨_, h⟩
  · rintro ⟨k, h⟩
    exact ⟨k, (fit_row L _).mpr ⟨0, h⟩⟩
theorem lastRow_split {acc : List Part} (h : lastRow acc = true) : ∃ A, acc = A ++ [.row] := by
  unfold lastRow at h
  cases e : acc.getLast? with
  | none =>
    rw [e] at h
    cases h
  | some x =>
    rw [e] at h
    obtain ⟨A, rfl⟩ := List.getLast?_eq_some_iff.mp e
    cases x with
    | row => exact ⟨A, rfl⟩
    | one => cases h
    | itself c => cases h
    | set n ps => cases h
theorem fit_merge : ∀ (L acc : List Part) (t : List Int), Fit (L.foldl addPart acc) t ↔ Fit (acc ++ L) t
  | [], acc, t => by rw [List.foldl_nil, List.append_nil]
  | p :: L, acc, t => by
    rw [List.foldl_cons, fit_merge L (addPart acc p) t]
    have plain : addPart acc p = acc ++ [p] → (Fit (addPart acc p ++ L) t ↔ Fit (acc ++ p :: L) t) := fun e => by
      rw [e, List.append_assoc]
      rfl
    cases p with
    | row =>
      by_cases h : lastRow acc = true
      · have e : addPart acc .row = acc := by rw [addPart, if_pos h]
        rw [e]
        obtain ⟨A, rfl⟩ := lastRow_split h
        rw [List.append_assoc, List.append_assoc, fit_append A, fit_append A]
        refine exists_congr fun u => exists_congr fun v => and_congr Iff.rfl (and_congr Iff.rfl ?_)
        exact (fit_two L v).symm
      · exact plain (by rw [addPart, if_neg h])
    | one => exact plain rfl
    | itself c => exact plain rfl
    | set n ps => exact plain rfl
theorem noAdj_snoc {P : List Part} {p : Part} (h : NoAdj P) (hp : isRow p = true → lastRow P = false) : NoAdj (P ++ [p]) := by
  intro k hk
  unfold rowAt at *
  rw [bits_snoc_test] at hk ⊢
  by_cases e : k + 1 = P.length
  · rw [if_pos e]
    rw [if_neg (by omega)] at hk
    cases g : isRow p with
    | false => rfl
    | true =>
      have lr := hp g
      have : P[k]? = some .row := (rowAt_iff k).mp hk
      have gl : P.getLast? = some .row := by
        rw [List.getLast?_eq_getElem?, show P.length - 1 = k by omega]
        exact this
      unfold lastRow at lr
      rw [gl] at lr
      cases lr
  · rw [if_neg e]
    by_cases e2 : k = P.length
    · exact bits_over isRow P (by omega)
    · rw [if_neg e2] at hk
      exact h k hk
theorem noAdj_fold : ∀ (L acc : List Part), NoAdj acc → NoAdj (L.foldl addPart acc)
  | [], acc, h => h
  | p :: L, acc, h => by
    rw [List.foldl_cons]
    refine noAdj_fold L _ ?_
    cases p with
    | row =>
      by_cases g : lastRow acc = true
      · rw [addPart, if_pos g]
        exact h
      · rw [addPart, if_neg g]
        exact noAdj_snoc h fun _ => Bool.eq_false_iff.mpr g
    | one => exact noAdj_snoc h fun z => by cases z
    | itself c => exact noAdj_snoc h fun z => by cases z
    | set n ps => exact noAdj_snoc h fun z => by cases z
theorem noAdj_merged (its : List Sc05.Item) : NoAdj (merged its) := noAdj_fold _ [] fun k hk => by
  unfold rowAt at hk
  rw [bits_over isRow [] (Nat.zero_le _)] at hk
  cases hk
theorem among_in (l : List (Nat × Nat)) {c : Int} (h : 0 ≤ c) : Sc05.among l c.toNat = inAny (l.map fun x => ((x.1 : Int), (x.2 : Int))) c := by
  have e : Sc05.among l c.toNat = true ↔ inAny (l.map fun x => ((x.1 : Int), (x.2 : Int))) c = true := by
    unfold Sc05.among
    rw [List.any_eq_true, inAny_iff]
    constructor
    · rintro ⟨x, hx, hh⟩
      rw [Bool.and_eq_true, decide_eq_true_eq, decide_eq_true_eq] at hh
      exact ⟨_, List.mem_map.mpr ⟨x, hx, rfl⟩, by show (x.1 : Int) ≤ c; omega, by show c ≤ (x.2 : Int); omega⟩
    · rintro ⟨p, hp, h1, h2⟩
      obtain ⟨x, hx, rfl⟩ := List.mem_map.mp hp
      have h1' : (x.1 : Int) ≤ c := h1
      have h2' : c ≤ (x.2 : Int) := h2
      refine ⟨x, hx, ?_⟩
      rw [Bool.and_eq_true, decide_eq_true_eq, decide_eq_true_eq]
      omega
  cases a : Sc05.among l c.toNat <;> cases b : inAny (l.map fun x => ((x.1 : Int), (x.2 : Int))) c <;> simp_all
theorem fits_eq (i : Sc05.Item) (hs : Wt.solid i = true) {c : Int} (h0 : 0 ≤ c) (h1 : c ≤ 4294967295) : Sc05.fits i c.toNat = fitsP c (toPart i) := by
  have fl := Wt.fold_low h0
  have fu := Wt.upper_upp h0
  cases i with
  | any => cases hs
  | one => rfl
  | set o l =>
    have l0 := (Wt.low_le h0 h1).1
    have u0 := (Wt.upp_le h0 h1).1
    show ((Sc05.among l c.toNat || (Sc05.among l (Sc05.fold c.toNat) || Sc05.among l (Sc05.upper c.toNat))) != o) = ((inAny _ c || inAny _ (Wt.low c) || inAny _ (Wt.upp c)) != o)
    rw [among_in l h0, show Sc05.fold c.toNat = (Wt.low c).toNat by omega, show Sc05.upper c.toNat = (Wt.upp c).toNat by omega, among_in l l0, among_in l u0, Bool.or_assoc]
  | char d =>
    show (Sc05.fold c.toNat == Sc05.fold d) = decide (Wt.low (d : Int) = Wt.low c)
    have fd := Wt.fold_low (c := (d : Int)) (Int.natCast_nonneg d)
    rw [Int.toNat_natCast] at fd
    have e : (Sc05.fold c.toNat == Sc05.fold d) = true ↔ decide (Wt.low (d : Int) = Wt.low c) = true := by
      rw [beq_iff_eq, decide_eq_true_eq]
      omega
    cases a : (Sc05.fold c.toNat == Sc05.fold d) <;> cases b : decide (Wt.low (d : Int) = Wt.low c) <;> simp_all
theorem matches_fit : ∀ (its : List Sc05.Item) (t : List Int), Wt.Fine t → (Sc05.matches_ its (Wt.nats t) = true ↔ Fit (its.map toPart) t)
  | [], t, _ => by
    rw [Wt.m_nil, List.map_nil, fit_nil]
    cases t <;> simp [Wt.nats_nil, Wt.nats_cons]
  | i :: its, t, hf => by
    have ih := fun t hf => matches_fit its t hf
    rw [List.map_cons]
    cases hs : Wt.solid i with
    | false =>
      have e : i = .any := by cases i <;> first | rfl | cases hs
      subst e
      rw [Wt.m_any, List.any_eq_true]
      show _ ↔ Fit (.row :: _) t
      rw [fit_row]
      constructor
      · rintro ⟨u, hu, hm⟩
        obtain ⟨k, _, rfl⟩ := (Wt.rests_mem _ _).mp hu
        rw [← Wt.nats_drop] at hm
        exact ⟨k, (ih _ (hf.drop k)).mp hm⟩
      · rintro ⟨k, hk⟩
        have := (ih _ (hf.drop k)).mpr hk
        rw [Wt.nats_drop] at this
        by_cases hl : k ≤ (Wt.nats t).length
        · exact ⟨_, (Wt.rests_mem _ _).mpr ⟨k, hl, rfl⟩, this⟩
        · refine ⟨_, (Wt.rests_mem _ _).mpr ⟨(Wt.nats t).length, Nat.le_refl _, rfl⟩, ?_⟩
          rw [List.drop_length]
          rw [List.drop_eq_nil_of_le (by omega)] at this
          exact this
    | true =>
      have hr : isRow (toPart i) = false := by cases i <;> first | rfl | cases hs
      rw [fit_solid hr]
      cases t with
      | nil =>
        rw [Wt.nats_nil, Wt.m_solid_nil hs]
        constructor
        · intro h
          cases h
        · rintro ⟨c, u, e, _⟩
          cases e
      | cons c t =>
        have fc := hf.cons.1
        rw [Wt.nats_cons, Wt.m_solid hs, Bool.and_eq_true, fits_eq i hs fc.1 fc.2, ih t hf.cons.2]
        constructor
        · rintro ⟨h1, h2⟩
          exact ⟨c, t, rfl, h1, h2⟩
        · rintro ⟨c', u, e, h1, h2⟩
          injection e with e1 e2
          subst e1 e2
          exact ⟨h1, h2⟩
theorem match_told {ns ms : List Int} (hm : Wt.Fine ms) {r : Nat} (R : Reach (merged (Wt.itemsOf (Wt.nats ns))) ms r) : PySc05.match_of ns ms = [((r / 2 ^ (merged (Wt.itemsOf (Wt.nats ns))).length : Nat) : Int)] := by
  have e := reach_end R
  have m := matches_fit (Wt.itemsOf (Wt.nats ns)) ms hm
  have f : Fit (merged (Wt.itemsOf (Wt.nats ns))) ms ↔ Fit ((Wt.itemsOf (Wt.nats ns)).map toPart) ms := by
    unfold merged
    rw [fit_merge]
    rfl
  show [(if Sc05.matches_ (Wt.itemsOf (Wt.nats ns)) (Wt.nats ms) = true then (1 : Int) else 0)] = _
  by_cases h : Fit (merged (Wt.itemsOf (Wt.nats ns))) ms
  · rw [if_pos (m.mpr (f.mp h)), e.1 h]
    rfl
  · rw [if_neg (fun z => h (f.mpr (m.mp z))), e.2 h]
    rfl
end Toy

end
section
set_option Elab.async false
set_option linter.all false
set_option maxRecDepth 100000
set_option maxHeartbeats 4000000
namespace Toy
open PySem PySem.Spec PyProof.Rows L2
open PySem.W (Codec)
section
variable {P : Program} {w : World} {K : PySem.W.Frag} {mg : Str → Option Value} {base : Heap}
def spSets (C : Addr) : Sp := fun vs H Q _ => ∃ (x : Addr) (c : Int) (P : List Part), vs = [.ref x, .int c] ∧ BitsIn C H x P ∧ 0 ≤ c ∧ Q (.int (bitsOf (hasC c) P : Nat)) H
theorem at_map {α : Type} {f : α → V} {qs : List α} {i : Int} {y : α} (h0 : 0 ≤ i) (h : qs[i.toNat]? = some y) : atI (qs.map f) i = some (f y) := by
  have := atI_nat (xs := qs.map f) (j := i.toNat) (v := f y) (by rw [List.getElem?_map, h]; rfl)
  rw [show ((i.toNat : Nat) : Int) = i by omega] at this
  exact this
theorem low_le {qs : List (Int × Nat)} (hs : qs.Pairwise (fun a b => a.1 ≤ b.1)) {m : Nat} {y : Int × Nat} (h : qs[m]? = some y) {c : Int} (hc : y.1 ≤ c) : ∀ z ∈ qs.take (m + 1), z.1 ≤ c := by
  intro z hz
  obtain ⟨hm, e⟩ := List.getElem?_eq_some_iff.mp h
  obtain ⟨i, hi, ez⟩ := List.mem_iff_getElem.mp hz
  rw [List.length_take] at hi
  rw [List.getElem_take] at ez
  by_cases g : i = m
  · subst g
    rw [← ez, e]
    exact hc
  · have := List.pairwise_iff_getElem.mp hs i m (by omega) hm (by omega)
    rw [ez, e] at this
    omega
theorem high_gt {qs : List (Int × Nat)} (hs : qs.Pairwise (fun a b => a.1 ≤ b.1)) {m : Nat} {y : Int × Nat} (h : qs[m]? = some y) {c : Int} (hc : ¬ y.1 ≤ c) : ∀ z ∈ qs.drop m, ¬ z.1 ≤ c := by
  intro z hz
  obtain ⟨hm, e⟩ := List.getElem?_eq_some_iff.mp h
  obtain ⟨i, hi, ez⟩ := List.mem_iff_getElem.mp hz
  rw [List.length_drop] at hi
  rw [List.getElem_drop] at ez
  by_cases g : i = 0
  · subst g
    have : z = y := by rw [← ez, ← e]; rfl
    rw [this]
    exact hc
  · have := List.pairwise_iff_getElem.mp hs m (m + i) hm (by omega) (by omega)
    rw [ez, e] at this
    omega
theorem ok_sets_with (T : Txt K mg) : FnOk P w K mg base CX0 1 T.a_sets_with T.fd_sets_with ["self", "c"] (spSets T.C) := by
  refine T.F_sets_with.ok sc_sets_with (fun vs H Q E h => ?_) (fun cdv A outer s H vs Q E hr h => ?_)
  · obtain ⟨x, c, P, rfl, _⟩ := h
    rfl
  · obtain ⟨x, c, P, rfl, ⟨dx, d, b, s, kvs, qs, hx, hd, hk, hb, hs, hso, hxo⟩, c0, k⟩ := h
    have hu := hu_of hr
    refine ⟨_, (pss_cons (ps_set (i := 2) sc_sets_with.nd rfl (Or.inl rfl) pe_int)
      (pss_cons (ps_set (i := 3) sc_sets_with.nd rfl (Or.inl rfl) (pe_callB call_len_seq (by rfl) T.len PySem.boot_len (pa_cons (pe_fld (pv 0) rfl) pa_nil)))
      (pss_cons (ps_while PassesOwn.never (pt_cmpR op_lt (pv 2) (pv 3) (nomark _))
        (pss_cons (ps_set (i := 4) sc_sets_with.nd rfl (Or.inl rfl) (pe_op op_fdiv (pe_op op_add (pv 2) (pv 3)) pe_int))
        (pss_one (ps_if (pt_cmpR op_le (pe_ix ix_list (pe_fld (pv 0) rfl) (pv 4) (fun _ _ => rfl)) (pv 1) (nomark _))
          (pss_one (ps_set (i := 2) sc_sets_with.nd rfl (Or.inl rfl) (pe_op op_add (pv 4) pe_int)))
          (pss_one (ps_set (i := 3) sc_sets_with.nd rfl (Or.inl rfl) (pv 4)))))))
      (pss_one (ps_ret (pe_ix ix_list (pe_fld (pv 0) rfl) (pv 2) (fun _ _ => rfl))))))), ?_⟩
    refine ⟨_, rfl, x, T.C, dx, _, _, rfl, hx, T.cl, T.n_bounds, fs_bounds .., b, _, rfl, .inl (SqL.of hb), ?_⟩
    refine while_by (fun σ H' => ∃ (lo hi : Int) (v4 : Option V), σ = [some (.ref x), some (.int c), some (.int lo), some (.int hi), v4] ∧ H' = H ∧ 0 ≤ lo ∧ lo ≤ hi ∧ hi ≤ (qs.length : Int) ∧ (∀ y ∈ qs.take lo.toNat, y.1 ≤ c) ∧ ∀ y ∈ qs.drop hi.toNat, ¬ y.1 ≤ c)
      (fun σ _ => match σ with | [_, _, some (.int lo), some (.int hi), _] => (hi - lo).toNat | _ => 0) ?_ ?_ (by show MonT _; (repeat (first | apply mon_and | apply mon_test | apply mon_B | apply mon_op | apply mon_call | apply mon_cb | apply mon_un | apply mon_cons | exact mon_nil | exact mon_var _ | exact mon_C _ | exact mon_i0 _ | exact mon_eq | exact mon_ne | exact mon_ix _ | exact mon_len _ | exact mon_sp1 _)))
    · refine ⟨0, _, none, rfl, rfl, Int.le_refl _, by omega, by rw [List.length_map]; exact Int.le_refl _, fun y hy => ?_, fun y hy => ?_⟩
      · simp at hy
      · rw [List.length_map, Int.toNat_natCast, List.drop_length] at hy
        simp at hy
    rintro σ H' ⟨lo, hi, v4, rfl, rfl, l0, lh, hl, h1, h2⟩
    refine ⟨_, rfl, _, rfl, _, _, rfl, rfl, _, rfl, ite2 (fun h => ?_) (fun h => ?_)⟩
    · have hlt : lo < hi := of_decide_eq_true h
      refine ⟨_, rfl, _, rfl, _, _, rfl, rfl, _, _, rfl, rfl, ⟨by decide, by decide⟩, ?_⟩
      have m0 : lo ≤ (lo + hi) / 2 ∧ (lo + hi) / 2 < hi := by omega
      obtain ⟨y, hy⟩ : ∃ y, qs[((lo + hi) / 2).toNat]? = some y := ⟨_, List.getElem?_eq_getElem (by omega)⟩
      refine ⟨_, rfl, x, T.C, dx, _, _, rfl, hx, T.cl, T.n_bounds, fs_bounds .., _, rfl, b, _, _, _, rfl, rfl, SqL.of hb, at_map (by omega) hy, _, rfl, _, _, rfl, rfl, _, rfl, ite2 (fun g => ?_) (fun g => ?_)⟩
      · have g' : y.1 ≤ c := of_decide_eq_true g
        refine ⟨_, rfl, _, _, rfl, rfl, ⟨(lo + hi) / 2 + 1, hi, _, rfl, rfl, by omega, by omega, hl, ?_, h2⟩, ?_⟩
        · rw [show ((lo + hi) / 2 + 1).toNat = ((lo + hi) / 2).toNat + 1 by omega]
          exact low_le hso hy g'
        · show (hi - ((lo + hi) / 2 + 1)).toNat < (hi - lo).toNat
          omega
      · have g' : ¬ y.1 ≤ c := fun z => g (decide_eq_true z)
        refine ⟨_, rfl, ⟨lo, (lo + hi) / 2, _, rfl, rfl, l0, by omega, by omega, h1, high_gt hso hy g'⟩, ?_⟩
        show ((lo + hi) / 2 - lo).toNat < (hi - lo).toNat
        omega
    · have e : lo = hi := by
        have : ¬ lo < hi := fun z => h (decide_eq_true z)
        omega
      subst e
      have v := xor_split h1 h2
      rw [hxo c c0] at v
      refine ⟨_, rfl, x, T.C, dx, _, _, rfl, hx, T.cl, T.n_sets_from_bounds, fs_sets .., _, rfl, s, _, _, _, rfl, rfl, SqL.of hs, at_map (by omega) (pre_at (by omega)), ?_⟩
      rw [v] at k
      exact k
def spFit (C : Addr) : Sp := fun vs H Q _ => ∃ (x : Addr) (c : Int) (P : List Part), vs = [.ref x, .int c] ∧ BitsIn C H x P ∧ 0 ≤ c ∧ c ≤ 4294967295 ∧ Q (.int (bitsOf (fitsP c) P : Nat)) H
theorem ok_fitting (T : Txt K mg) : FnOk P w K mg base CX0 3 T.a_fitting T.fd_fitting ["self", "c"] (spFit T.C) := by
  have G_small_letter := ok_small_letter (P := P) (w := w) (base := base) T
  have G_sets_with := ok_sets_with (P := P) (w := w) (base := base) T
  have G_capital := ok_capital (P := P) (w := w) (base := base) T
  refine T.F_fitting.ok sc_fitting (fun vs H Q E h => ?_) (fun cdv A outer s H vs Q E hr h => ?_)
  · obtain ⟨x, c, P, rfl, _⟩ := h
    rfl
  · obtain ⟨x, c, P, rfl, hB, c0, c1, k⟩ := h
    have hr_small_letter : Room 2 _ := hr.mono (by decide)
    have hr_sets_with : Room 1 _ := hr.mono (by decide)
    have hr_capital : Room 2 _ := hr.mono (by decide)
    have hu := hu_of hr
    refine ⟨_, (pss_cons (ps_set (i := 2) sc_fitting.nd rfl (Or.inl rfl) (pe_call G_small_letter hr_small_letter (by rfl) T.m_small_letter T.k_small_letter T.B_small_letter .nil pass0 (pa_cons (pv 1) pa_nil)))
      (pss_cons (ps_set (i := 3) sc_fitting.nd rfl (Or.inl rfl) (pe_op op_or (pe_op op_or (pe_meth (pv 0) T.cl T.M_sets_with G_sets_with hr_sets_with T.B_sets_with .nil pass0 (pa_cons (pv 1) pa_nil)) (pe_meth (pv 0) T.cl T.M_sets_with G_sets_with hr_sets_with T.B_sets_with .nil pass0 (pa_cons (pv 2) pa_nil))) (pe_meth (pv 0) T.cl T.M_sets_with G_sets_with hr_sets_with T.B_sets_with .nil pass0 (pa_cons (pe_call G_capital hr_capital (by rfl) T.m_capital T.k_capital T.B_capital .nil pass0 (pa_cons (pv 1) pa_nil)) pa_nil))))
      (pss_one (ps_ret (pe_op op_or (pe_op op_or (pe_fld (pv 0) rfl) (pe_dget2 hu (pe_fld (pv 0) rfl) (pv 2) pe_int ⟨rfl, rfl, rfl, rfl⟩)) (pe_op op_xor (pv 3) (pe_fld (pv 0) rfl))))))), ?_⟩
    obtain ⟨dx, d, b, s, kvs, qs, hx, hd, hk, hb, hs, hso, hxo⟩ := hB.ex
    have eL : turnOf tTO_SMALL c = Wt.low c := turn_low c
    have eU : turnOf tTO_CAPITAL c = Wt.upp c := turn_upp c
    have l0 := (Wt.low_le c0 c1).1
    have u0 := (Wt.upp_le c0 c1).1
    refine ⟨_, rfl, c, rfl, ?_⟩
    refine ⟨_, rfl, x, dx, _, rfl, hx, fs_no1 .., _, rfl, x, c, P, rfl, hB, c0, ?_⟩
    refine ⟨_, rfl, x, dx, _, rfl, hx, fs_no1 .., _, rfl, x, _, P, rfl, hB, (by rw [eL]; exact l0), ?_⟩
    refine ⟨_, _, rfl, rfl, ?_⟩
    refine ⟨_, rfl, x, dx, _, rfl, hx, fs_no1 .., _, rfl, c, rfl, x, _, P, rfl, hB, (by rw [eU]; exact u0), ?_⟩
    refine ⟨_, _, rfl, rfl, ?_⟩
    refine ⟨_, rfl, x, T.C, dx, _, _, rfl, hx, T.cl, T.n_ones, fs_ones .., _, rfl, x, T.C, dx, _, _, rfl, hx, T.cl, T.n_by_letter, fs_by .., d, rfl, .inl ⟨kvs, .inl hd⟩, _, rfl, _, DGet.k (k := Sum.inl (turnOf tTO_SMALL c)) hd, _, _, rfl, hk _, ?_⟩
    refine ⟨_, rfl, _, rfl, x, T.C, dx, _, _, rfl, hx, T.cl, T.n_turned_round, fs_turned .., _, _, rfl, rfl, _, _, rfl, rfl, ?_⟩
    rw [eL, eU]
    have e : Builtin.bitOr (Builtin.bitOr ((bitsOf isOne P : Nat) : Int) ((bitsOf (isIt (Wt.low c)) P : Nat) : Int)) (Builtin.bitXor (Builtin.bitOr (Builtin.bitOr ((bitsOf (hasC c) P : Nat) : Int) ((bitsOf (hasC (Wt.low c)) P : Nat) : Int)) ((bitsOf (hasC (Wt.upp c)) P : Nat) : Int)) ((bitsOf isNeg P : Nat) : Int)) = ((bitsOf (fitsP c) P : Nat) : Int) := by
      rw [or_nat, or_nat, or_nat, xor_nat, or_nat, fit_bits]
    show Q (.int _) H
    rw [e]
    exact k
def spPast : Sp := fun vs H Q _ => ∃ (r w : Nat), vs = [.int r, .int w] ∧ r < 2 ^ 40000 ∧ Q (.int (past r w : Nat)) H
theorem ok_past_rows (T : Txt K mg) : FnOk P w K mg base CX0 1 T.a_past_rows T.fd_past_rows ["reached", "rows"] (spPast) := by
  refine T.F_past_rows.ok sc_past_rows (fun vs H Q E h => ?_) (fun cdv A outer s H vs Q E hr h => ?_)
  · obtain ⟨r, w, rfl, _⟩ := h
    rfl
  · obtain ⟨r, w, rfl, hb, k⟩ := h
    have hu := hu_of hr
    refine ⟨_, (pss_one (ps_ret (pe_op op_or (pv 0) (pe_op op_shlB (pe_op op_and (pv 0) (pv 1)) pe_int)))), ?_⟩
    refine ⟨_, rfl, _, rfl, _, rfl, _, _, rfl, rfl, _, _, rfl, rfl, ⟨by decide, ?_, by decide⟩, _, _, rfl, rfl, ?_⟩
    · rw [and_nat]
      exact shl_ok (Nat.le_refl 40000) (Nat.lt_of_le_of_lt Nat.and_le_left hb)
    · show Q (.int (Builtin.bitOr (r : Int) (Builtin.bitAnd (r : Int) (w : Int) * 2 ^ ((1 : Int).toNat)))) H
      rw [and_nat, shl_val, or_nat]
      exact k
def spMatch (K : PySem.W.Frag) : Sp := fun vs H Q _ => ∃ (a b : Addr) (ns ms : List Int), vs = [.ref a, .ref b] ∧ SqL K H a (ns.map V.int) ∧ SqL K H b (ms.map V.int) ∧ Wt.Fine ns ∧ Wt.Fine ms ∧ ns.length ≤ 30000 ∧ ms.length ≤ 30000 ∧ ∀ (H' : Hp) (p : Addr), H' p = some (.lst ((PySc05.match_of ns ms).map V.int)) → Q (.ref p) H'
theorem big_ok {n m : Nat} (h : n < 2 ^ m) (hm : m ≤ 40000) : n < 2 ^ 40000 := Nat.lt_of_lt_of_le h (Nat.pow_le_pow_right (by decide) hm)
theorem ok_match_of (T : Txt K mg) : FnOk P w K mg base CX0 4 T.a_match_of T.fd_match_of ["pattern", "text"] (spMatch K) := by
  have G_parts_of := ok_parts_of (P := P) (w := w) (base := base) T
  have G___init__ := ok___init__ (P := P) (w := w) (base := base) T
  have G_past_rows := ok_past_rows (P := P) (w := w) (base := base) T
  have G_fitting := ok_fitting (P := P) (w := w) (base := base) T
  refine T.F_match_of.ok sc_match_of (fun vs H Q E h => ?_) (fun cdv A outer s H vs Q E hr h => ?_)
  · obtain ⟨a, b, ns, ms, rfl, _⟩ := h
    rfl
  · obtain ⟨a, b, ns, ms, rfl, hA, hB, fa, fb, la, lb, k⟩ := h
    have hr_parts_of : Room 3 _ := hr.mono (by decide)
    have hr___init__ : Room 2 _ := hr.mono (by decide)
    have hr_past_rows : Room 1 _ := hr.mono (by decide)
    have hr_fitting : Room 3 _ := hr.mono (by decide)
    have hr_make : Room 3 _ := hr.mono (by decide)
    have hu := hu_of hr
    refine ⟨_, (pss_cons (ps_set (i := 2) sc_match_of.nd rfl (Or.inl rfl) (pe_call G_parts_of hr_parts_of (by rfl) T.m_parts_of T.k_parts_of T.B_parts_of .nil pass0 (pa_cons (pv 0) pa_nil)))
      (pss_cons (ps_set (i := 3) sc_match_of.nd rfl (Or.inl rfl) (pe_make T.MK G___init__ hr_make (by rfl) T.mgC T.B___init__ .nil pass0 (pa_cons (pv 2) pa_nil)))
      (pss_cons (ps_set (i := 4) sc_match_of.nd rfl (Or.inl rfl) (pe_call G_past_rows hr_past_rows (by rfl) T.m_past_rows T.k_past_rows T.B_past_rows .nil pass0 (pa_cons pe_int (pa_cons (pe_fld (pv 3) rfl) pa_nil))))
      (pss_cons (ps_for PassesOwn.never rfl (pi_list (pv 1)) (pg_name (i := 5) sc_match_of.nd rfl (Or.inl rfl))
        (pss_cons (ps_set (i := 6) sc_match_of.nd rfl (Or.inl rfl) (pe_op op_and (pv 4) (pe_fld (pv 3) rfl)))
        (pss_cons (ps_set (i := 7) sc_match_of.nd rfl (Or.inl rfl) (pe_op op_shlB (pe_op op_and (pv 4) (pe_meth (pv 3) T.cl T.M_fitting G_fitting hr_fitting T.B_fitting .nil pass0 (pa_cons (pv 5) pa_nil))) pe_int))
        (pss_one (ps_set (i := 4) sc_match_of.nd rfl (Or.inl rfl) (pe_call G_past_rows hr_past_rows (by rfl) T.m_past_rows T.k_past_rows T.B_past_rows .nil pass0 (pa_cons (pe_op op_or (pv 6) (pv 7)) (pa_cons (pe_fld (pv 3) rfl) pa_nil))))))))
      (pss_one (ps_ret (pe_lst (pa_cons (pe_op op_shr (pv 4) (pe_callB call_len_seq (by rfl) T.len PySem.boot_len (pa_cons (pv 2) pa_nil))) pa_nil)))))))), ?_⟩
    refine ⟨_, rfl, a, ns, rfl, hA, fa, la, fun H1 l P hP sm1 hPI plen pw => ?_⟩
    refine ⟨_, rfl, fun x dx nx ndx nex => ?_⟩
    have sm2 : Same H1 (upd (upd H1 dx (.own x)) x (.ins T.C dx [])) := fun c u h => by
      rw [upd_ne (ne_of_none h nx), upd_ne (ne_of_none h ndx)]
      exact h
    refine ⟨x, dx, l, P, rfl, upd_same, hPI.same sm2, plen, pw, fun H2 hBI hK => ⟨rfl, ?_⟩⟩
    have sm3 : Same H1 H2 := fun c u h => hK c u (sm2 c u h) (ne_of_none h nx)
    have hB2 := (sm1.trans sm3).seq hB
    obtain ⟨pvs, hL, hLn⟩ := (hPI.same sm3).len
    obtain ⟨dx', d, bb, s, kvs, qs, hx, _⟩ := hBI.ex
    have na : NoAdj P := by rw [hP]; exact noAdj_merged _
    refine ⟨_, rfl, x, T.C, dx', _, _, rfl, hx, T.cl, T.n_rows, fs_rows .., 1, bitsOf isRow P, rfl, big_ok (m := 1) (by decide) (by decide), ?_⟩
    refine ⟨_, rfl, b, rfl, ⟨_, hB2⟩, for_list (K := K) (a := b) (xs := ms.map V.int) (fun i σ H' => ∃ (r : Nat) (v5 v6 v7 : Option V), σ = [some (.ref a), some (.ref b), some (.ref l), some (.ref x), some (.int r), v5, v6, v7] ∧ H' = H2 ∧ Reach P (ms.take i) r)
      ⟨_, none, none, none, rfl, rfl, reach_start na⟩ (fun i σ H' _ ⟨_, _, _, _, _, e, _⟩ => e ▸ hB2) ?_ ?_⟩
    · rintro i v σ H' hv ⟨r, v5, v6, v7, rfl, rfl, R⟩
      rw [List.getElem?_map] at hv
      obtain ⟨c, hc, rfl⟩ := Option.map_eq_some_iff.mp hv
      have hmem : c ∈ ms := List.mem_of_getElem? hc
      have fc := fb c hmem
      have tk : ms.take (i + 1) = ms.take i ++ [c] := by
        rw [List.take_succ, hc]
        rfl
      have rl := reach_lt R
      have R' := reach_step na R c
      have rb : r < 2 ^ 40000 := big_ok rl (by omega)
      refine ⟨_, rfl, _, rfl, x, T.C, dx', _, _, rfl, hx, T.cl, T.n_rows, fs_rows .., _, _, rfl, rfl, ?_⟩
      refine ⟨_, rfl, _, rfl, x, dx', _, rfl, hx, fs_no2 .., _, rfl, x, c, P, rfl, hBI, fc.1, fc.2, _, _, rfl, rfl, _, _, rfl, rfl, ⟨by decide, ?_, by decide⟩, ?_⟩
      · rw [and_nat]
        exact shl_ok (Nat.le_refl 40000) (Nat.lt_of_le_of_lt Nat.and_le_left rb)
      refine ⟨_, rfl, _, rfl, _, _, rfl, rfl, _, rfl, x, T.C, dx', _, _, rfl, hx, T.cl, T.n_rows, fs_rows .., (r &&& bitsOf isRow P) ||| ((r &&& bitsOf (fitsP c) P) * 2), bitsOf isRow P, ?_, ?_, ?_⟩
      · show [V.int (Builtin.bitOr (Builtin.bitAnd (r : Int) ((bitsOf isRow P : Nat) : Int)) (Builtin.bitAnd (r : Int) ((bitsOf (fitsP c) P : Nat) : Int) * 2 ^ ((1 : Int).toNat))), _] = _
        rw [and_nat, and_nat, shl_val, or_nat]
      · have h1 : r &&& bitsOf isRow P < 2 ^ (P.length + 2) := Nat.lt_of_le_of_lt Nat.and_le_left (Nat.lt_of_lt_of_le rl (Nat.pow_le_pow_right (by decide) (Nat.le_succ _)))
        have h2 : (r &&& bitsOf (fitsP c) P) * 2 < 2 ^ (P.length + 2) := by
          rw [Nat.pow_succ 2 (P.length + 1)]
          exact Nat.mul_lt_mul_of_pos_right (Nat.lt_of_le_of_lt Nat.and_le_left rl) (by decide)
        exact big_ok (Nat.or_lt_two_pow h1 h2) (by omega)
      · exact ⟨_, _, _, _, rfl, rfl, by rw [tk]; exact R'⟩
    · rintro σ H' ⟨r, v5, v6, v7, rfl, rfl, R⟩
      rw [List.length_map, List.take_length] at R
      refine ⟨_, rfl, _, rfl, l, pvs, rfl, .inl (SqL.of hL), _, _, rfl, rfl, (by show (0 : Int) ≤ (pvs.length : Int); omega), (by show 1 ≤ sizeLine; decide), fun p hp => ?_⟩
      refine k _ p ?_
      rw [hP] at R hLn
      rw [upd_same, match_told fb R]
      show some (HO.lst [V.int ((r : Int) / 2 ^ ((pvs.length : Int)).toNat)]) = _
      rw [Int.toNat_natCast, hLn]
      show _ = some (HO.lst [V.int _])
      rw [Int.natCast_ediv, Int.natCast_pow]
      rfl
end
end Toy

end
set_option Elab.async false
set_option linter.all false
set_option maxRecDepth 100000
set_option maxHeartbeats 4000000
namespace Toy
open PySem PySem.Spec PyProof.Rows L2
open PySem.W (Codec)
theorem kind_mk {K : PySem.W.Frag} {a e : Addr} {o : Obj} {k : Str} {t : Tok} {n : Nat} (hk : K.lookup a = some o) (hc : o.cls = .type "tuple") (hd : o.data = .seq #[.str k t, .ref e] n) : TupK K a [.str k, .ref e] :=
  ⟨o, _, n, hk, hc, hd, (by show 2 ≤ sizeLine; decide), .cons ⟨_, rfl⟩ (.cons rfl .nil)⟩
theorem all_mk {P : Program} {w : World} {K : PySem.W.Frag} {h : Heap} {mg : Str → Option Value} {fa : Addr} (X : K.In h) (G : h.Ns mainGlobals mg) (hfa : mg "match_of" = some (.ref fa))
    {tk_BACKSLASH : Tok} (g_BACKSLASH : PySem.W.nsIn K mainGlobals "BACKSLASH" = some (some (.int 92 tk_BACKSLASH)))
    {tk_EXCLAMATION : Tok} (g_EXCLAMATION : PySem.W.nsIn K mainGlobals "EXCLAMATION" = some (some (.int 33 tk_EXCLAMATION)))
    {tk_STAR : Tok} (g_STAR : PySem.W.nsIn K mainGlobals "STAR" = some (some (.int 42 tk_STAR)))
    {tk_HYPHEN : Tok} (g_HYPHEN : PySem.W.nsIn K mainGlobals "HYPHEN" = some (some (.int 45 tk_HYPHEN)))
    {tk_QUESTION : Tok} (g_QUESTION : PySem.W.nsIn K mainGlobals "QUESTION" = some (some (.int 63 tk_QUESTION)))
    {tk_OPENING : Tok} (g_OPENING : PySem.W.nsIn K mainGlobals "OPENING" = some (some (.int 91 tk_OPENING)))
    {tk_CLOSING : Tok} (g_CLOSING : PySem.W.nsIn K mainGlobals "CLOSING" = some (some (.int 93 tk_CLOSING)))
    {tk_CARET : Tok} (g_CARET : PySem.W.nsIn K mainGlobals "CARET" = some (some (.int 94 tk_CARET)))
    {a_TO_SMALL : Addr} (g_TO_SMALL : PySem.W.nsIn K mainGlobals "TO_SMALL" = some (some (.ref a_TO_SMALL))) (t_TO_SMALL : Tab3 K a_TO_SMALL tTO_SMALL)
    {a_TO_CAPITAL : Addr} (g_TO_CAPITAL : PySem.W.nsIn K mainGlobals "TO_CAPITAL" = some (some (.ref a_TO_CAPITAL))) (t_TO_CAPITAL : Tab3 K a_TO_CAPITAL tTO_CAPITAL)
    {a_ANY_ROW e_ANY_ROW : Addr} (g_ANY_ROW : PySem.W.nsIn K mainGlobals "ANY_ROW" = some (some (.ref a_ANY_ROW))) (u_ANY_ROW : TupK K a_ANY_ROW [.str "row", .ref e_ANY_ROW])
    {a_ANY_ONE e_ANY_ONE : Addr} (g_ANY_ONE : PySem.W.nsIn K mainGlobals "ANY_ONE" = some (some (.ref a_ANY_ONE))) (u_ANY_ONE : TupK K a_ANY_ONE [.str "one", .ref e_ANY_ONE])
    (n_len : PySem.W.nsIn K mainGlobals "len" = some none)
    (n_max : PySem.W.nsIn K mainGlobals "max" = some none)
    (n_sorted : PySem.W.nsIn K mainGlobals "sorted" = some none)
    {C : Addr} (aC : PySem.W.nsIn K mainGlobals "PartBits" = some (some (.ref C))) (pg : PySem.W.plainGet K C Str.empty = true) (hd : PySem.W.hasDictIn K C = true) (po : PySem.W.plainOver K C = true) (sa : PySem.W.findIn K (.ref C) "__setattr__" = some (some (.builtin "object.__setattr__"))) (mk : PySem.W.makesIn K C = true) (kc : PySem.W.keepIn K (.ref C) = true)
    (nf_rows : PySem.W.findIn K (.ref C) "rows" = some none)
    (nf_ones : PySem.W.findIn K (.ref C) "ones" = some none)
    (nf_turned_round : PySem.W.findIn K (.ref C) "turned_round" = some none)
    (nf_by_letter : PySem.W.findIn K (.ref C) "by_letter" = some none)
    (nf_bounds : PySem.W.findIn K (.ref C) "bounds" = some none)
    (nf_sets_from_bounds : PySem.W.findIn K (.ref C) "sets_from_bounds" = some none)
    {f_turned : Addr} {od_turned an_turned : Option Addr} {sl_turned : Array (Option Value)} {oc_turned kV_turned dc_turned pm_turned cd_turned ct_turned : Value}
    (a_turned : PySem.W.nsIn K mainGlobals "turned" = some (some (.ref f_turned)))
    (l_turned : K.lookup f_turned = some ⟨oc_turned, od_turned, .func (PySem.W.fnOf "turned" "turned" (defArgs s_turned) (defBody s_turned) (defScope s_turned) .none kV_turned dc_turned pm_turned an_turned cd_turned ct_turned), sl_turned⟩) (c_turned : PySem.W.codeIn K cd_turned "turned" = true) (k_turned : PySem.W.keepIn K (.ref f_turned) = true)
    {f_small_letter : Addr} {od_small_letter an_small_letter : Option Addr} {sl_small_letter : Array (Option Value)} {oc_small_letter kV_small_letter dc_small_letter pm_small_letter cd_small_letter ct_small_letter : Value}
    (a_small_letter : PySem.W.nsIn K mainGlobals "small_letter" = some (some (.ref f_small_letter)))
    (l_small_letter : K.lookup f_small_letter = some ⟨oc_small_letter, od_small_letter, .func (PySem.W.fnOf "small_letter" "small_letter" (defArgs s_small_letter) (defBody s_small_letter) (defScope s_small_letter) .none kV_small_letter dc_small_letter pm_small_letter an_small_letter cd_small_letter ct_small_letter), sl_small_letter⟩) (c_small_letter : PySem.W.codeIn K cd_small_letter "small_letter" = true) (k_small_letter : PySem.W.keepIn K (.ref f_small_letter) = true)
    {f_capital : Addr} {od_capital an_capital : Option Addr} {sl_capital : Array (Option Value)} {oc_capital kV_capital dc_capital pm_capital cd_capital ct_capital : Value}
    (a_capital : PySem.W.nsIn K mainGlobals "capital" = some (some (.ref f_capital)))
    (l_capital : K.lookup f_capital = some ⟨oc_capital, od_capital, .func (PySem.W.fnOf "capital" "capital" (defArgs s_capital) (defBody s_capital) (defScope s_capital) .none kV_capital dc_capital pm_capital an_capital cd_capital ct_capital), sl_capital⟩) (c_capital : PySem.W.codeIn K cd_capital "capital" = true) (k_capital : PySem.W.keepIn K (.ref f_capital) = true)
    {f_last_place : Addr} {od_last_place an_last_place : Option Addr} {sl_last_place : Array (Option Value)} {oc_last_place kV_last_place dc_last_place pm_last_place cd_last_place ct_last_place : Value}
    (a_last_place : PySem.W.nsIn K mainGlobals "last_place" = some (some (.ref f_last_place)))
    (l_last_place : K.lookup f_last_place = some ⟨oc_last_place, od_last_place, .func (PySem.W.fnOf "last_place" "last_place" (defArgs s_last_place) (defBody s_last_place) (defScope s_last_place) .none kV_last_place dc_last_place pm_last_place an_last_place cd_last_place ct_last_place), sl_last_place⟩) (c_last_place : PySem.W.codeIn K cd_last_place "last_place" = true) (k_last_place : PySem.W.keepIn K (.ref f_last_place) = true)
    {f_set_start : Addr} {od_set_start an_set_start : Option Addr} {sl_set_start : Array (Option Value)} {oc_set_start kV_set_start dc_set_start pm_set_start cd_set_start ct_set_start : Value}
    (a_set_start : PySem.W.nsIn K mainGlobals "set_start" = some (some (.ref f_set_start)))
    (l_set_start : K.lookup f_set_start = some ⟨oc_set_start, od_set_start, .func (PySem.W.fnOf "set_start" "set_start" (defArgs s_set_start) (defBody s_set_start) (defScope s_set_start) .none kV_set_start dc_set_start pm_set_start an_set_start cd_set_start ct_set_start), sl_set_start⟩) (c_set_start : PySem.W.codeIn K cd_set_start "set_start" = true) (k_set_start : PySem.W.keepIn K (.ref f_set_start) = true)
    {f_set_end : Addr} {od_set_end an_set_end : Option Addr} {sl_set_end : Array (Option Value)} {oc_set_end kV_set_end dc_set_end pm_set_end cd_set_end ct_set_end : Value}
    (a_set_end : PySem.W.nsIn K mainGlobals "set_end" = some (some (.ref f_set_end)))
    (l_set_end : K.lookup f_set_end = some ⟨oc_set_end, od_set_end, .func (PySem.W.fnOf "set_end" "set_end" (defArgs s_set_end) (defBody s_set_end) (defScope s_set_end) .none kV_set_end dc_set_end pm_set_end an_set_end cd_set_end ct_set_end), sl_set_end⟩) (c_set_end : PySem.W.codeIn K cd_set_end "set_end" = true) (k_set_end : PySem.W.keepIn K (.ref f_set_end) = true)
    {f_stretches_between : Addr} {od_stretches_between an_stretches_between : Option Addr} {sl_stretches_between : Array (Option Value)} {oc_stretches_between kV_stretches_between dc_stretches_between pm_stretches_between cd_stretches_between ct_stretches_between : Value}
    (a_stretches_between : PySem.W.nsIn K mainGlobals "stretches_between" = some (some (.ref f_stretches_between)))
    (l_stretches_between : K.lookup f_stretches_between = some ⟨oc_stretches_between, od_stretches_between, .func (PySem.W.fnOf "stretches_between" "stretches_between" (defArgs s_stretches_between) (defBody s_stretches_between) (defScope s_stretches_between) .none kV_stretches_between dc_stretches_between pm_stretches_between an_stretches_between cd_stretches_between ct_stretches_between), sl_stretches_between⟩) (c_stretches_between : PySem.W.codeIn K cd_stretches_between "stretches_between" = true) (k_stretches_between : PySem.W.keepIn K (.ref f_stretches_between) = true)
    {f_parts_of : Addr} {od_parts_of an_parts_of : Option Addr} {sl_parts_of : Array (Option Value)} {oc_parts_of kV_parts_of dc_parts_of pm_parts_of cd_parts_of ct_parts_of : Value}
    (a_parts_of : PySem.W.nsIn K mainGlobals "parts_of" = some (some (.ref f_parts_of)))
    (l_parts_of : K.lookup f_parts_of = some ⟨oc_parts_of, od_parts_of, .func (PySem.W.fnOf "parts_of" "parts_of" (defArgs s_parts_of) (defBody s_parts_of) (defScope s_parts_of) .none kV_parts_of dc_parts_of pm_parts_of an_parts_of cd_parts_of ct_parts_of), sl_parts_of⟩) (c_parts_of : PySem.W.codeIn K cd_parts_of "parts_of" = true) (k_parts_of : PySem.W.keepIn K (.ref f_parts_of) = true)
    {f_turns_of : Addr} {od_turns_of an_turns_of : Option Addr} {sl_turns_of : Array (Option Value)} {oc_turns_of kV_turns_of dc_turns_of pm_turns_of cd_turns_of ct_turns_of : Value}
    (a_turns_of : PySem.W.nsIn K mainGlobals "turns_of" = some (some (.ref f_turns_of)))
    (l_turns_of : K.lookup f_turns_of = some ⟨oc_turns_of, od_turns_of, .func (PySem.W.fnOf "turns_of" "turns_of" (defArgs s_turns_of) (defBody s_turns_of) (defScope s_turns_of) .none kV_turns_of dc_turns_of pm_turns_of an_turns_of cd_turns_of ct_turns_of), sl_turns_of⟩) (c_turns_of : PySem.W.codeIn K cd_turns_of "turns_of" = true) (k_turns_of : PySem.W.keepIn K (.ref f_turns_of) = true)
    {f___init__ : Addr} {od___init__ an___init__ : Option Addr} {sl___init__ : Array (Option Value)} {oc___init__ kV___init__ dc___init__ pm___init__ cd___init__ ct___init__ : Value}
    (a___init__ : PySem.W.findIn K (.ref C) "__init__" = some (some (.ref f___init__))) (i___init__ : PySem.W.isFn K (.ref f___init__) = true)
    (l___init__ : K.lookup f___init__ = some ⟨oc___init__, od___init__, .func (PySem.W.fnOf "__init__" "PartBits.__init__" (defArgs s___init__) (defBody s___init__) (defScope s___init__) .none kV___init__ dc___init__ pm___init__ an___init__ cd___init__ ct___init__), sl___init__⟩) (c___init__ : PySem.W.codeIn K cd___init__ "PartBits.__init__" = true) (k___init__ : PySem.W.keepIn K (.ref f___init__) = true)
    {f_sets_with : Addr} {od_sets_with an_sets_with : Option Addr} {sl_sets_with : Array (Option Value)} {oc_sets_with kV_sets_with dc_sets_with pm_sets_with cd_sets_with ct_sets_with : Value}
    (a_sets_with : PySem.W.findIn K (.ref C) "sets_with" = some (some (.ref f_sets_with))) (i_sets_with : PySem.W.isFn K (.ref f_sets_with) = true)
    (l_sets_with : K.lookup f_sets_with = some ⟨oc_sets_with, od_sets_with, .func (PySem.W.fnOf "sets_with" "PartBits.sets_with" (defArgs s_sets_with) (defBody s_sets_with) (defScope s_sets_with) .none kV_sets_with dc_sets_with pm_sets_with an_sets_with cd_sets_with ct_sets_with), sl_sets_with⟩) (c_sets_with : PySem.W.codeIn K cd_sets_with "PartBits.sets_with" = true) (k_sets_with : PySem.W.keepIn K (.ref f_sets_with) = true)
    {f_fitting : Addr} {od_fitting an_fitting : Option Addr} {sl_fitting : Array (Option Value)} {oc_fitting kV_fitting dc_fitting pm_fitting cd_fitting ct_fitting : Value}
    (a_fitting : PySem.W.findIn K (.ref C) "fitting" = some (some (.ref f_fitting))) (i_fitting : PySem.W.isFn K (.ref f_fitting) = true)
    (l_fitting : K.lookup f_fitting = some ⟨oc_fitting, od_fitting, .func (PySem.W.fnOf "fitting" "PartBits.fitting" (defArgs s_fitting) (defBody s_fitting) (defScope s_fitting) .none kV_fitting dc_fitting pm_fitting an_fitting cd_fitting ct_fitting), sl_fitting⟩) (c_fitting : PySem.W.codeIn K cd_fitting "PartBits.fitting" = true) (k_fitting : PySem.W.keepIn K (.ref f_fitting) = true)
    {f_past_rows : Addr} {od_past_rows an_past_rows : Option Addr} {sl_past_rows : Array (Option Value)} {oc_past_rows kV_past_rows dc_past_rows pm_past_rows cd_past_rows ct_past_rows : Value}
    (a_past_rows : PySem.W.nsIn K mainGlobals "past_rows" = some (some (.ref f_past_rows)))
    (l_past_rows : K.lookup f_past_rows = some ⟨oc_past_rows, od_past_rows, .func (PySem.W.fnOf "past_rows" "past_rows" (defArgs s_past_rows) (defBody s_past_rows) (defScope s_past_rows) .none kV_past_rows dc_past_rows pm_past_rows an_past_rows cd_past_rows ct_past_rows), sl_past_rows⟩) (c_past_rows : PySem.W.codeIn K cd_past_rows "past_rows" = true) (k_past_rows : PySem.W.keepIn K (.ref f_past_rows) = true)
    {f_match_of : Addr} {od_match_of an_match_of : Option Addr} {sl_match_of : Array (Option Value)} {oc_match_of kV_match_of dc_match_of pm_match_of cd_match_of ct_match_of : Value}
    (a_match_of : PySem.W.nsIn K mainGlobals "match_of" = some (some (.ref f_match_of)))
    (l_match_of : K.lookup f_match_of = some ⟨oc_match_of, od_match_of, .func (PySem.W.fnOf "match_of" "match_of" (defArgs s_match_of) (defBody s_match_of) (defScope s_match_of) .none kV_match_of dc_match_of pm_match_of an_match_of cd_match_of ct_match_of), sl_match_of⟩) (c_match_of : PySem.W.codeIn K cd_match_of "match_of" = true) (k_match_of : PySem.W.keepIn K (.ref f_match_of) = true) :
    ∃ fd : FuncData, (∀ (s : Shared) (us : List Value), us.length = (["pattern", "text"] : List Str).length → BindsTo s fd ⟨us, []⟩ ((["pattern", "text"] : List Str).zip us)) ∧ ∀ base : Heap, K.In base → base.Ns mainGlobals mg → FnOk P w K mg base CX0 4 fa fd ["pattern", "text"] (spMatch K) := by
  have e := hfa.symm.trans (PySem.W.mg_of X G a_match_of)
  cases e
  have F_turned := fun_mk (st := s_turned) l_turned c_turned k_turned
  have F_small_letter := fun_mk (st := s_small_letter) l_small_letter c_small_letter k_small_letter
  have F_capital := fun_mk (st := s_capital) l_capital c_capital k_capital
  have F_last_place := fun_mk (st := s_last_place) l_last_place c_last_place k_last_place
  have F_set_start := fun_mk (st := s_set_start) l_set_start c_set_start k_set_start
  have F_set_end := fun_mk (st := s_set_end) l_set_end c_set_end k_set_end
  have F_stretches_between := fun_mk (st := s_stretches_between) l_stretches_between c_stretches_between k_stretches_between
  have F_parts_of := fun_mk (st := s_parts_of) l_parts_of c_parts_of k_parts_of
  have F_turns_of := fun_mk (st := s_turns_of) l_turns_of c_turns_of k_turns_of
  have F___init__ := fun_mk (st := s___init__) l___init__ c___init__ k___init__
  have F_sets_with := fun_mk (st := s_sets_with) l_sets_with c_sets_with k_sets_with
  have F_fitting := fun_mk (st := s_fitting) l_fitting c_fitting k_fitting
  have F_past_rows := fun_mk (st := s_past_rows) l_past_rows c_past_rows k_past_rows
  have F_match_of := fun_mk (st := s_match_of) l_match_of c_match_of k_match_of
  have B_turned := F_turned.binds (ps := ["c", "rows"]) fun _ _ _ _ _ _ us hl => match us, hl with | [_, _], _ => rfl
  have B_small_letter := F_small_letter.binds (ps := ["c"]) fun _ _ _ _ _ _ us hl => match us, hl with | [_], _ => rfl
  have B_capital := F_capital.binds (ps := ["c"]) fun _ _ _ _ _ _ us hl => match us, hl with | [_], _ => rfl
  have B_last_place := F_last_place.binds (ps := ["c", "text"]) fun _ _ _ _ _ _ us hl => match us, hl with | [_, _], _ => rfl
  have B_set_start := F_set_start.binds (ps := ["pattern", "k"]) fun _ _ _ _ _ _ us hl => match us, hl with | [_, _], _ => rfl
  have B_set_end := F_set_end.binds (ps := ["pattern", "start"]) fun _ _ _ _ _ _ us hl => match us, hl with | [_, _], _ => rfl
  have B_stretches_between := F_stretches_between.binds (ps := ["pattern", "start", "end"]) fun _ _ _ _ _ _ us hl => match us, hl with | [_, _, _], _ => rfl
  have B_parts_of := F_parts_of.binds (ps := ["pattern"]) fun _ _ _ _ _ _ us hl => match us, hl with | [_], _ => rfl
  have B_turns_of := F_turns_of.binds (ps := ["stretches", "bit"]) fun _ _ _ _ _ _ us hl => match us, hl with | [_, _], _ => rfl
  have B___init__ := F___init__.binds (ps := ["self", "parts"]) fun _ _ _ _ _ _ us hl => match us, hl with | [_, _], _ => rfl
  have B_sets_with := F_sets_with.binds (ps := ["self", "c"]) fun _ _ _ _ _ _ us hl => match us, hl with | [_, _], _ => rfl
  have B_fitting := F_fitting.binds (ps := ["self", "c"]) fun _ _ _ _ _ _ us hl => match us, hl with | [_, _], _ => rfl
  have B_past_rows := F_past_rows.binds (ps := ["reached", "rows"]) fun _ _ _ _ _ _ us hl => match us, hl with | [_, _], _ => rfl
  have B_match_of := F_match_of.binds (ps := ["pattern", "text"]) fun _ _ _ _ _ _ us hl => match us, hl with | [_, _], _ => rfl
  let T : Txt K mg := { len := PySem.W.mg_none_of X G n_len, max := PySem.W.mg_none_of X G n_max, sorted := PySem.W.mg_none_of X G n_sorted, tk_BACKSLASH := _, g_BACKSLASH := PySem.W.mg_of X G g_BACKSLASH, tk_EXCLAMATION := _, g_EXCLAMATION := PySem.W.mg_of X G g_EXCLAMATION, tk_STAR := _, g_STAR := PySem.W.mg_of X G g_STAR, tk_HYPHEN := _, g_HYPHEN := PySem.W.mg_of X G g_HYPHEN, tk_QUESTION := _, g_QUESTION := PySem.W.mg_of X G g_QUESTION, tk_OPENING := _, g_OPENING := PySem.W.mg_of X G g_OPENING, tk_CLOSING := _, g_CLOSING := PySem.W.mg_of X G g_CLOSING, tk_CARET := _, g_CARET := PySem.W.mg_of X G g_CARET, a_TO_SMALL := _, g_TO_SMALL := PySem.W.mg_of X G g_TO_SMALL, t_TO_SMALL := t_TO_SMALL, a_TO_CAPITAL := _, g_TO_CAPITAL := PySem.W.mg_of X G g_TO_CAPITAL, t_TO_CAPITAL := t_TO_CAPITAL, a_ANY_ROW := _, e_ANY_ROW := _, g_ANY_ROW := PySem.W.mg_of X G g_ANY_ROW, t_ANY_ROW := u_ANY_ROW, a_ANY_ONE := _, e_ANY_ONE := _, g_ANY_ONE := PySem.W.mg_of X G g_ANY_ONE, t_ANY_ONE := u_ANY_ONE, C := C, cl := ⟨pg, hd, po, sa⟩, mgC := PySem.W.mg_of X G aC, n_rows := nf_rows, n_ones := nf_ones, n_turned_round := nf_turned_round, n_by_letter := nf_by_letter, n_bounds := nf_bounds, n_sets_from_bounds := nf_sets_from_bounds, a_turned := _, fd_turned := _, F_turned := F_turned, B_turned := B_turned, m_turned := PySem.W.mg_of X G a_turned, k_turned := k_turned, a_small_letter := _, fd_small_letter := _, F_small_letter := F_small_letter, B_small_letter := B_small_letter, m_small_letter := PySem.W.mg_of X G a_small_letter, k_small_letter := k_small_letter, a_capital := _, fd_capital := _, F_capital := F_capital, B_capital := B_capital, m_capital := PySem.W.mg_of X G a_capital, k_capital := k_capital, a_last_place := _, fd_last_place := _, F_last_place := F_last_place, B_last_place := B_last_place, m_last_place := PySem.W.mg_of X G a_last_place, k_last_place := k_last_place, a_set_start := _, fd_set_start := _, F_set_start := F_set_start, B_set_start := B_set_start, m_set_start := PySem.W.mg_of X G a_set_start, k_set_start := k_set_start, a_set_end := _, fd_set_end := _, F_set_end := F_set_end, B_set_end := B_set_end, m_set_end := PySem.W.mg_of X G a_set_end, k_set_end := k_set_end, a_stretches_between := _, fd_stretches_between := _, F_stretches_between := F_stretches_between, B_stretches_between := B_stretches_between, m_stretches_between := PySem.W.mg_of X G a_stretches_between, k_stretches_between := k_stretches_between, a_parts_of := _, fd_parts_of := _, F_parts_of := F_parts_of, B_parts_of := B_parts_of, m_parts_of := PySem.W.mg_of X G a_parts_of, k_parts_of := k_parts_of, a_turns_of := _, fd_turns_of := _, F_turns_of := F_turns_of, B_turns_of := B_turns_of, m_turns_of := PySem.W.mg_of X G a_turns_of, k_turns_of := k_turns_of, a___init__ := _, fd___init__ := _, F___init__ := F___init__, B___init__ := B___init__, MK := ⟨mk, a___init__, i___init__, kc⟩, a_sets_with := _, fd_sets_with := _, F_sets_with := F_sets_with, B_sets_with := B_sets_with, M_sets_with := ⟨a_sets_with, i_sets_with, k_sets_with⟩, a_fitting := _, fd_fitting := _, F_fitting := F_fitting, B_fitting := B_fitting, M_fitting := ⟨a_fitting, i_fitting, k_fitting⟩, a_past_rows := _, fd_past_rows := _, F_past_rows := F_past_rows, B_past_rows := B_past_rows, m_past_rows := PySem.W.mg_of X G a_past_rows, k_past_rows := k_past_rows, a_match_of := _, fd_match_of := _, F_match_of := F_match_of, B_match_of := B_match_of, m_match_of := PySem.W.mg_of X G a_match_of, k_match_of := k_match_of }
  exact ⟨T.fd_match_of, fun s us hu => match us, hu with | [_, _], _ => .of_eq rfl, fun base _ _ => ok_match_of T⟩
end Toy
open PySem PySem.W PyProof.Rows
set_option maxRecDepth 100000 in
set_option maxHeartbeats 0 in
theorem PySem.Challenge.cw_widetexts_s07_match_of_holds : PySem.Challenge.rw_widetexts_s07_match_of.Holds := by
  w_on; k_headS; (case hw => exact ⟨[.list [], .list []], by decide +kernel, by decide +kernel⟩)
  k_fillS
  refine L2.walk_specK (r := PySem.Challenge.rw_widetexts_s07_match_of) (k := 4) (CX := L2.CX0) (ps := ["pattern", "text"]) (sp := fun K => Toy.spMatch K) (by decide +kernel) rfl rfl ⟨rfl, by decide, by decide⟩ (fun w h Y => PySem.W.kIn_of Y) ?F ?S (fun _ _ _ _ z => z)
  case F =>
    intro w mg fa h Y KX G hmg
    refine' Toy.all_mk KX G hmg ?p_g_BACKSLASH ?p_g_EXCLAMATION ?p_g_STAR ?p_g_HYPHEN ?p_g_QUESTION ?p_g_OPENING ?p_g_CLOSING ?p_g_CARET ?p_g_TO_SMALL ?p_t_TO_SMALL ?p_g_TO_CAPITAL ?p_t_TO_CAPITAL ?p_g_ANY_ROW ?p_u_ANY_ROW ?p_g_ANY_ONE ?p_u_ANY_ONE ?p_n_len ?p_n_max ?p_n_sorted ?p_aC ?p_pg ?p_hd ?p_po ?p_sa ?p_mk ?p_kc ?p_nf_rows ?p_nf_ones ?p_nf_turned_round ?p_nf_by_letter ?p_nf_bounds ?p_nf_sets_from_bounds ?p_a_turned ?p_l_turned ?p_c_turned ?p_k_turned ?p_a_small_letter ?p_l_small_letter ?p_c_small_letter ?p_k_small_letter ?p_a_capital ?p_l_capital ?p_c_capital ?p_k_capital ?p_a_last_place ?p_l_last_place ?p_c_last_place ?p_k_last_place ?p_a_set_start ?p_l_set_start ?p_c_set_start ?p_k_set_start ?p_a_set_end ?p_l_set_end ?p_c_set_end ?p_k_set_end ?p_a_stretches_between ?p_l_stretches_between ?p_c_stretches_between ?p_k_stretches_between ?p_a_parts_of ?p_l_parts_of ?p_c_parts_of ?p_k_parts_of ?p_a_turns_of ?p_l_turns_of ?p_c_turns_of ?p_k_turns_of ?p_a___init__ ?p_i___init__ ?p_l___init__ ?p_c___init__ ?p_k___init__ ?p_a_sets_with ?p_i_sets_with ?p_l_sets_with ?p_c_sets_with ?p_k_sets_with ?p_a_fitting ?p_i_fitting ?p_l_fitting ?p_c_fitting ?p_k_fitting ?p_a_past_rows ?p_l_past_rows ?p_c_past_rows ?p_k_past_rows ?p_a_match_of ?p_l_match_of ?p_c_match_of ?p_k_match_of
    (case p_g_BACKSLASH => k_is)
    (case p_g_EXCLAMATION => k_is)
    (case p_g_STAR => k_is)
    (case p_g_HYPHEN => k_is)
    (case p_g_QUESTION => k_is)
    (case p_g_OPENING => k_is)
    (case p_g_CLOSING => k_is)
    (case p_g_CARET => k_is)
    (case p_g_TO_SMALL => k_is)
    (case p_t_TO_SMALL => (apply Toy.tab_mk; (focus k_is); (focus exact rfl); (focus exact rfl); (focus decide); (focus (repeat (first | exact Toy.vals_nil | apply Toy.vals_ref_cons | apply Toy.vals_int_cons))); (repeat (first | exact Toy.rows_nil | (apply Toy.rows3_cons; (focus k_is); (focus exact rfl); (focus exact rfl))))))
    (case p_g_TO_CAPITAL => k_is)
    (case p_t_TO_CAPITAL => (apply Toy.tab_mk; (focus k_is); (focus exact rfl); (focus exact rfl); (focus decide); (focus (repeat (first | exact Toy.vals_nil | apply Toy.vals_ref_cons | apply Toy.vals_int_cons))); (repeat (first | exact Toy.rows_nil | (apply Toy.rows3_cons; (focus k_is); (focus exact rfl); (focus exact rfl))))))
    (case p_g_ANY_ROW => k_is)
    (case p_u_ANY_ROW => (apply Toy.kind_mk; (focus k_is); (focus exact rfl); (focus exact rfl)))
    (case p_g_ANY_ONE => k_is)
    (case p_u_ANY_ONE => (apply Toy.kind_mk; (focus k_is); (focus exact rfl); (focus exact rfl)))
    (case p_n_len => k_is)
    (case p_n_max => k_is)
    (case p_n_sorted => k_is)
    (case p_aC => k_is)
    (case p_pg => k_is)
    (case p_hd => k_is)
    (case p_po => k_is)
    (case p_sa => k_is)
    (case p_mk => k_is)
    (case p_kc => k_is)
    (case p_nf_rows => k_is)
    (case p_nf_ones => k_is)
    (case p_nf_turned_round => k_is)
    (case p_nf_by_letter => k_is)
    (case p_nf_bounds => k_is)
    (case p_nf_sets_from_bounds => k_is)
    (case p_a_turned => k_is)
    (case p_l_turned => k_is)
    (case p_c_turned => k_is)
    (case p_k_turned => k_is)
    (case p_a_small_letter => k_is)
    (case p_l_small_letter => k_is)
    (case p_c_small_letter => k_is)
    (case p_k_small_letter => k_is)
    (case p_a_capital => k_is)
    (case p_l_capital => k_is)
    (case p_c_capital => k_is)
    (case p_k_capital => k_is)
    (case p_a_last_place => k_is)
    (case p_l_last_place => k_is)
    (case p_c_last_place => k_is)
    (case p_k_last_place => k_is)
    (case p_a_set_start => k_is)
    (case p_l_set_start => k_is)
    (case p_c_set_start => k_is)
    (case p_k_set_start => k_is)
    (case p_a_set_end => k_is)
    (case p_l_set_end => k_is)
    (case p_c_set_end => k_is)
    (case p_k_set_end => k_is)
    (case p_a_stretches_between => k_is)
    (case p_l_stretches_between => k_is)
    (case p_c_stretches_between => k_is)
    (case p_k_stretches_between => k_is)
    (case p_a_parts_of => k_is)
    (case p_l_parts_of => k_is)
    (case p_c_parts_of => k_is)
    (case p_k_parts_of => k_is)
    (case p_a_turns_of => k_is)
    (case p_l_turns_of => k_is)
    (case p_c_turns_of => k_is)
    (case p_k_turns_of => k_is)
    (case p_a___init__ => k_is)
    (case p_i___init__ => k_is)
    (case p_l___init__ => k_is)
    (case p_c___init__ => k_is)
    (case p_k___init__ => k_is)
    (case p_a_sets_with => k_is)
    (case p_i_sets_with => k_is)
    (case p_l_sets_with => k_is)
    (case p_c_sets_with => k_is)
    (case p_k_sets_with => k_is)
    (case p_a_fitting => k_is)
    (case p_i_fitting => k_is)
    (case p_l_fitting => k_is)
    (case p_c_fitting => k_is)
    (case p_k_fitting => k_is)
    (case p_a_past_rows => k_is)
    (case p_l_past_rows => k_is)
    (case p_c_past_rows => k_is)
    (case p_k_past_rows => k_is)
    (case p_a_match_of => k_is)
    (case p_l_match_of => k_is)
    (case p_c_match_of => k_is)
    (case p_k_match_of => k_is)
  case S =>
    intro K H xs a hO hwi hask hx
    cases hx with
    | cons h1 h2 =>
      cases h2 with
      | cons h2 h3 =>
        cases h3
        cases h1 with
        | lst hs ha =>
          cases h2 with
          | lst hs2 ha2 =>
            have e := L2.ints_dw a.1 _ ha
            subst e
            have e2 := L2.ints_dw a.2.1 _ ha2
            subst e2
            have q : ((Codec.inLen 0 30000 a.1 && a.1.all (Codec.inInt 0 4294967295)) && ((Codec.inLen 0 30000 a.2.1 && a.2.1.all (Codec.inInt 0 4294967295)) && true)) = true := hwi
            simp only [Bool.and_eq_true, Bool.and_true] at q
            have hf : ∀ x ∈ a.1, 0 ≤ x ∧ x ≤ 4294967295 := fun x hx => Codec.inInt_iff.mp (List.all_eq_true.mp q.1.2 x hx)
            have hg : ∀ x ∈ a.2.1, 0 ≤ x ∧ x ≤ 4294967295 := fun x hx => Codec.inInt_iff.mp (List.all_eq_true.mp q.2.2 x hx)
            exact ⟨_, _, a.1, a.2.1, rfl, hs, hs2, hf, hg, (Codec.inNat_iff.mp q.1.1).2, (Codec.inNat_iff.mp q.2.1).2, fun H' p hp => .lst (L2.SqL.of hp) (L2.dw_ints _)⟩
#print axioms PySem.Challenge.cw_widetexts_s07_match_of_holds

