import PyProof.Rows.All
import KE.OsGo
import KE.OsArgs
import PySem.Challenge.RW_widetexts_s03_upper
open PySem PySem.W
set_option Elab.async false
namespace Wt
def upp (c : Int) : Int :=
  if 97 ≤ c ∧ c ≤ 122 then c - 32
  else if 224 ≤ c ∧ c ≤ 246 then c - 32
  else if 248 ≤ c ∧ c ≤ 254 then c - 32
  else if 255 ≤ c ∧ c ≤ 255 then c + 121
  else if 383 ≤ c ∧ c ≤ 383 then c - 300
  else if 945 ≤ c ∧ c ≤ 961 then c - 32
  else if 962 ≤ c ∧ c ≤ 962 then c - 31
  else if 963 ≤ c ∧ c ≤ 969 then c - 32
  else if 1072 ≤ c ∧ c ≤ 1103 then c - 32
  else if 1104 ≤ c ∧ c ≤ 1119 then c - 80
  else if 65345 ≤ c ∧ c ≤ 65370 then c - 32 else c
theorem upp_cases (c : Int) : (c < 97 ∧ upp c = c) ∨ (97 ≤ c ∧ c ≤ 122 ∧ upp c = c - 32) ∨ (123 ≤ c ∧ c ≤ 223 ∧ upp c = c) ∨ (224 ≤ c ∧ c ≤ 246 ∧ upp c = c - 32) ∨ (247 ≤ c ∧ c ≤ 247 ∧ upp c = c) ∨ (248 ≤ c ∧ c ≤ 254 ∧ upp c = c - 32) ∨ (255 ≤ c ∧ c ≤ 255 ∧ upp c = c + 121) ∨ (256 ≤ c ∧ c ≤ 382 ∧ upp c = c) ∨ (383 ≤ c ∧ c ≤ 383 ∧ upp c = c - 300) ∨ (384 ≤ c ∧ c ≤ 944 ∧ upp c = c) ∨ (945 ≤ c ∧ c ≤ 961 ∧ upp c = c - 32) ∨ (962 ≤ c ∧ c ≤ 962 ∧ upp c = c - 31) ∨ (963 ≤ c ∧ c ≤ 969 ∧ upp c = c - 32) ∨ (970 ≤ c ∧ c ≤ 1071 ∧ upp c = c) ∨ (1072 ≤ c ∧ c ≤ 1103 ∧ upp c = c - 32) ∨ (1104 ≤ c ∧ c ≤ 1119 ∧ upp c = c - 80) ∨ (1120 ≤ c ∧ c ≤ 65344 ∧ upp c = c) ∨ (65345 ≤ c ∧ c ≤ 65370 ∧ upp c = c - 32) ∨ (65371 ≤ c ∧ upp c = c) := by
  by_cases h0 : c < 97
  · exact Or.inl ⟨by omega, by rw [upp, if_neg (show ¬ (97 ≤ c ∧ c ≤ 122) by omega), if_neg (show ¬ (224 ≤ c ∧ c ≤ 246) by omega), if_neg (show ¬ (248 ≤ c ∧ c ≤ 254) by omega), if_neg (show ¬ (255 ≤ c ∧ c ≤ 255) by omega), if_neg (show ¬ (383 ≤ c ∧ c ≤ 383) by omega), if_neg (show ¬ (945 ≤ c ∧ c ≤ 961) by omega), if_neg (show ¬ (962 ≤ c ∧ c ≤ 962) by omega), if_neg (show ¬ (963 ≤ c ∧ c ≤ 969) by omega), if_neg (show ¬ (1072 ≤ c ∧ c ≤ 1103) by omega), if_neg (show ¬ (1104 ≤ c ∧ c ≤ 1119) by omega), if_neg (show ¬ (65345 ≤ c ∧ c ≤ 65370) by omega)]⟩
  by_cases h1 : c < 123
  · exact Or.inr (Or.inl ⟨by omega, by omega, by rw [upp, if_pos (show 97 ≤ c ∧ c ≤ 122 by omega)]⟩)
  by_cases h2 : c < 224
  · exact Or.inr (Or.inr (Or.inl ⟨by omega, by omega, by rw [upp, if_neg (show ¬ (97 ≤ c ∧ c ≤ 122) by omega), if_neg (show ¬ (224 ≤ c ∧ c ≤ 246) by omega), if_neg (show ¬ (248 ≤ c ∧ c ≤ 254) by omega), if_neg (show ¬ (255 ≤ c ∧ c ≤ 255) by omega), if_neg (show ¬ (383 ≤ c ∧ c ≤ 383) by omega), if_neg (show ¬ (945 ≤ c ∧ c ≤ 961) by omega), if_neg (show ¬ (962 ≤ c ∧ c ≤ 962) by omega), if_neg (show ¬ (963 ≤ c ∧ c ≤ 969) by omega), if_neg (show ¬ (1072 ≤ c ∧ c ≤ 1103) by omega), if_neg (show ¬ (1104 ≤ c ∧ c ≤ 1119) by omega), if_neg (show ¬ (65345 ≤ c ∧ c ≤ 65370) by omega)]⟩))
  by_cases h3 : c < 247
  · exact Or.inr (Or.inr (Or.inr (Or.inl ⟨by omega, by omega, by rw [upp, if_neg (show ¬ (97 ≤ c ∧ c ≤ 122) by omega), if_pos (show 224 ≤ c ∧ c ≤ 246 by omega)]⟩)))
  by_cases h4 : c < 248
  · exact Or.inr (Or.inr (Or.inr (Or.inr (Or.inl ⟨by omega, by omega, by rw [upp, if_neg (show ¬ (97 ≤ c ∧ c ≤ 122) by omega), if_neg (show ¬ (224 ≤ c ∧ c ≤ 246) by omega), if_neg (show ¬ (248 ≤ c ∧ c ≤ 254) by omega), if_neg (show ¬ (255 ≤ c ∧ c ≤ 255) by omega), if_neg (show ¬ (383 ≤ c ∧ c ≤ 383) by omega), if_neg (show ¬ (945 ≤ c ∧ c ≤ 961) by omega), if_neg (show ¬ (962 ≤ c ∧ c ≤ 962) by omega), if_neg (show ¬ (963 ≤ c ∧ c ≤ 969) by omega), if_neg (show ¬ (1072 ≤ c ∧ c ≤ 1103) by omega), if_neg (show ¬ (1104 ≤ c ∧ c ≤ 1119) by omega), if_neg (show ¬ (65345 ≤ c ∧ c ≤ 65370) by omega)]⟩))))
  by_cases h5 : c < 255
  · exact Or.inr (Or.inr (Or.inr (Or.inr (Or.inr (Or.inl ⟨by omega, by omega, by rw [upp, if_neg (show ¬ (97 ≤ c ∧ c ≤ 122) by omega), if_neg (show ¬ (224 ≤ c ∧ c ≤ 246) by omega), if_pos (show 248 ≤ c ∧ c ≤ 254 by omega)]⟩)))))
  by_cases h6 : c < 256
  · exact Or.inr (Or.inr (Or.inr (Or.inr (Or.inr (Or.inr (Or.inl ⟨by omega, by omega, by rw [upp, if_neg (show ¬ (97 ≤ c ∧ c ≤ 122) by omega), if_neg (show ¬ (224 ≤ c ∧ c ≤ 246) by omega), if_neg (show ¬ (248 ≤ c ∧ c ≤ 254) by omega), if_pos (show 255 ≤ c ∧ c ≤ 255 by omega)]⟩))))))
  by_cases h7 : c < 383
  · exact Or.inr (Or.inr (Or.inr (Or.inr (Or.inr (Or.inr (Or.inr (Or.inl ⟨by omega, by omega, by rw [upp, if_neg (show ¬ (97 ≤ c ∧ c ≤ 122) by omega), if_neg (show ¬ (224 ≤ c ∧ c ≤ 246) by omega), if_neg (show ¬ (248 ≤ c ∧ c ≤ 254) by omega), if_neg (show ¬ (255 ≤ c ∧ c ≤ 255) by omega), if_neg (show ¬ (383 ≤ c ∧ c ≤ 383) by omega), if_neg (show ¬ (945 ≤ c ∧ c ≤ 961) by omega), if_neg (show ¬ (962 ≤ c ∧ c ≤ 962) by omega), if_neg (show ¬ (963 ≤ c ∧ c ≤ 969) by omega), if_neg (show ¬ (1072 ≤ c ∧ c ≤ 1103) by omega), if_neg (show ¬ (1104 ≤ c ∧ c ≤ 1119) by omega), if_neg (show ¬ (65345 ≤ c ∧ c ≤ 65370) by omega)]⟩)))))))
  by_cases h8 : c < 384
  · exact Or.inr (Or.inr (Or.inr (Or.inr (Or.inr (Or.inr (Or.inr (Or.inr (Or.inl ⟨by omega, by omega, by rw [upp, if_neg (show ¬ (97 ≤ c ∧ c ≤ 122) by omega), if_neg (show ¬ (224 ≤ c ∧ c ≤ 246) by omega), if_neg (show ¬ (248 ≤ c ∧ c ≤ 254) by omega), if_neg (show ¬ (255 ≤ c ∧ c ≤ 255) by omega), if_pos (show 383 ≤ c ∧ c ≤ 383 by omega)]⟩))))))))
  by_cases h9 : c < 945
  · exact Or.inr (Or.inr (Or.inr (Or.inr (Or.inr (Or.inr (Or.inr (Or.inr (Or.inr (Or.inl ⟨by omega, by omega, by rw [upp, if_neg (show ¬ (97 ≤ c ∧ c ≤ 122) by omega), if_neg (show ¬ (224 ≤ c ∧ c ≤ 246) by omega), if_neg (show ¬ (248 ≤ c ∧ c ≤ 254) by omega), if_neg (show ¬ (255 ≤ c ∧ c ≤ 255) by omega), if_neg (show ¬ (383 ≤ c ∧ c ≤ 383) by omega), if_neg (show ¬ (945 ≤ c ∧ c ≤ 961) by omega), if_neg (show ¬ (962 ≤ c ∧ c ≤ 962) by omega), if_neg (show ¬ (963 ≤ c ∧ c ≤ 969) by omega), if_neg (show ¬ (1072 ≤ c ∧ c ≤ 1103) by omega), if_neg (show ¬ (1104 ≤ c ∧ c ≤ 1119) by omega), if_neg (show ¬ (65345 ≤ c ∧ c ≤ 65370) by omega)]⟩)))))))))
  by_cases h10 : c < 962
  · exact Or.inr (Or.inr (Or.inr (Or.inr (Or.inr (Or.inr (Or.inr (Or.inr (Or.inr (Or.inr (Or.inl ⟨by omega, by omega, by rw [upp, if_neg (show ¬ (97 ≤ c ∧ c ≤ 122) by omega), if_neg (show ¬ (224 ≤ c ∧ c ≤ 246) by omega), if_neg (show ¬ (248 ≤ c ∧ c ≤ 254) by omega), if_neg (show ¬ (255 ≤ c ∧ c ≤ 255) by omega), if_neg (show ¬ (383 ≤ c ∧ c ≤ 383) by omega), if_pos (show 945 ≤ c ∧ c ≤ 961 by omega)]⟩))))))))))
  by_cases h11 : c < 963
  · exact Or.inr (Or.inr (Or.inr (Or.inr (Or.inr (Or.inr (Or.inr (Or.inr (Or.inr (Or.inr (Or.inr (Or.inl ⟨by omega, by omega, by rw [upp, if_neg (show ¬ (97 ≤ c ∧ c ≤ 122) by omega), if_neg (show ¬ (224 ≤ c ∧ c ≤ 246) by omega), if_neg (show ¬ (248 ≤ c ∧ c ≤ 254) by omega), if_neg (show ¬ (255 ≤ c ∧ c ≤ 255) by omega), if_neg (show ¬ (383 ≤ c ∧ c ≤ 383) by omega), if_neg (show ¬ (945 ≤ c ∧ c ≤ 961) by omega), if_pos (show 962 ≤ c ∧ c ≤ 962 by omega)]⟩)))))))))))
  by_cases h12 : c < 970
  · exact Or.inr (Or.inr (Or.inr (Or.inr (Or.inr (Or.inr (Or.inr (Or.inr (Or.inr (Or.inr (Or.inr (Or.inr (Or.inl ⟨by omega, by omega, by rw [upp, if_neg (show ¬ (97 ≤ c ∧ c ≤ 122) by omega), if_neg (show ¬ (224 ≤ c ∧ c ≤ 246) by omega), if_neg (show ¬ (248 ≤ c ∧ c ≤ 254) by omega), if_neg (show ¬ (255 ≤ c ∧ c ≤ 255) by omega), if_neg (show ¬ (383 ≤ c ∧ c ≤ 383) by omega), if_neg (show ¬ (945 ≤ c ∧ c ≤ 961) by omega), if_neg (show ¬ (962 ≤ c ∧ c ≤ 962) by omega), if_pos (show 963 ≤ c ∧ c ≤ 969 by omega)]⟩))))))))))))
  by_cases h13 : c < 1072
  · exact Or.inr (Or.inr (Or.inr (Or.inr (Or.inr (Or.inr (Or.inr (Or.inr (Or.inr (Or.inr (Or.inr (Or.inr (Or.inr (Or.inl ⟨by omega, by omega, by rw [upp, if_neg (show ¬ (97 ≤ c ∧ c ≤ 122) by omega), if_neg (show ¬ (224 ≤ c ∧ c ≤ 246) by omega), if_neg (show ¬ (248 ≤ c ∧ c ≤ 254) by omega), if_neg (show ¬ (255 ≤ c ∧ c ≤ 255) by omega), if_neg (show ¬ (383 ≤ c ∧ c ≤ 383) by omega), if_neg (show ¬ (945 ≤ c ∧ c ≤ 961) by omega), if_neg (show ¬ (962 ≤ c ∧ c ≤ 962) by omega), if_neg (show ¬ (963 ≤ c ∧ c ≤ 969) by omega), if_neg (show ¬ (1072 ≤ c ∧ c ≤ 1103) by omega), if_neg (show ¬ (1104 ≤ c ∧ c ≤ 1119) by omega), if_neg (show ¬ (65345 ≤ c ∧ c ≤ 65370) by omega)]⟩)))))))))))))
  by_cases h14 : c < 1104
  · exact Or.inr (Or.inr (Or.inr (Or.inr (Or.inr (Or.inr (Or.inr (Or.inr (Or.inr (Or.inr (Or.inr (Or.inr (Or.inr (Or.inr (Or.inl ⟨by omega, by omega, by rw [upp, if_neg (show ¬ (97 ≤ c ∧ c ≤ 122) by omega), if_neg (show ¬ (224 ≤ c ∧ c ≤ 246) by omega), if_neg (show ¬ (248 ≤ c ∧ c ≤ 254) by omega), if_neg (show ¬ (255 ≤ c ∧ c ≤ 255) by omega), if_neg (show ¬ (383 ≤ c ∧ c ≤ 383) by omega), if_neg (show ¬ (945 ≤ c ∧ c ≤ 961) by omega), if_neg (show ¬ (962 ≤ c ∧ c ≤ 962) by omega), if_neg (show ¬ (963 ≤ c ∧ c ≤ 969) by omega), if_pos (show 1072 ≤ c ∧ c ≤ 1103 by omega)]⟩))))))))))))))
  by_cases h15 : c < 1120
  · exact Or.inr (Or.inr (Or.inr (Or.inr (Or.inr (Or.inr (Or.inr (Or.inr (Or.inr (Or.inr (Or.inr (Or.inr (Or.inr (Or.inr (Or.inr (Or.inl ⟨by omega, by omega, by rw [upp, if_neg (show ¬ (97 ≤ c ∧ c ≤ 122) by omega), if_neg (show ¬ (224 ≤ c ∧ c ≤ 246) by omega), if_neg (show ¬ (248 ≤ c ∧ c ≤ 254) by omega), if_neg (show ¬ (255 ≤ c ∧ c ≤ 255) by omega), if_neg (show ¬ (383 ≤ c ∧ c ≤ 383) by omega), if_neg (show ¬ (945 ≤ c ∧ c ≤ 961) by omega), if_neg (show ¬ (962 ≤ c ∧ c ≤ 962) by omega), if_neg (show ¬ (963 ≤ c ∧ c ≤ 969) by omega), if_neg (show ¬ (1072 ≤ c ∧ c ≤ 1103) by omega), if_pos (show 1104 ≤ c ∧ c ≤ 1119 by omega)]⟩)))))))))))))))
  by_cases h16 : c < 65345
  · exact Or.inr (Or.inr (Or.inr (Or.inr (Or.inr (Or.inr (Or.inr (Or.inr (Or.inr (Or.inr (Or.inr (Or.inr (Or.inr (Or.inr (Or.inr (Or.inr (Or.inl ⟨by omega, by omega, by rw [upp, if_neg (show ¬ (97 ≤ c ∧ c ≤ 122) by omega), if_neg (show ¬ (224 ≤ c ∧ c ≤ 246) by omega), if_neg (show ¬ (248 ≤ c ∧ c ≤ 254) by omega), if_neg (show ¬ (255 ≤ c ∧ c ≤ 255) by omega), if_neg (show ¬ (383 ≤ c ∧ c ≤ 383) by omega), if_neg (show ¬ (945 ≤ c ∧ c ≤ 961) by omega), if_neg (show ¬ (962 ≤ c ∧ c ≤ 962) by omega), if_neg (show ¬ (963 ≤ c ∧ c ≤ 969) by omega), if_neg (show ¬ (1072 ≤ c ∧ c ≤ 1103) by omega), if_neg (show ¬ (1104 ≤ c ∧ c ≤ 1119) by omega), if_neg (show ¬ (65345 ≤ c ∧ c ≤ 65370) by omega)]⟩))))))))))))))))
  by_cases h17 : c < 65371
  · exact Or.inr (Or.inr (Or.inr (Or.inr (Or.inr (Or.inr (Or.inr (Or.inr (Or.inr (Or.inr (Or.inr (Or.inr (Or.inr (Or.inr (Or.inr (Or.inr (Or.inr (Or.inl ⟨by omega, by omega, by rw [upp, if_neg (show ¬ (97 ≤ c ∧ c ≤ 122) by omega), if_neg (show ¬ (224 ≤ c ∧ c ≤ 246) by omega), if_neg (show ¬ (248 ≤ c ∧ c ≤ 254) by omega), if_neg (show ¬ (255 ≤ c ∧ c ≤ 255) by omega), if_neg (show ¬ (383 ≤ c ∧ c ≤ 383) by omega), if_neg (show ¬ (945 ≤ c ∧ c ≤ 961) by omega), if_neg (show ¬ (962 ≤ c ∧ c ≤ 962) by omega), if_neg (show ¬ (963 ≤ c ∧ c ≤ 969) by omega), if_neg (show ¬ (1072 ≤ c ∧ c ≤ 1103) by omega), if_neg (show ¬ (1104 ≤ c ∧ c ≤ 1119) by omega), if_pos (show 65345 ≤ c ∧ c ≤ 65370 by omega)]⟩)))))))))))))))))
  exact Or.inr (Or.inr (Or.inr (Or.inr (Or.inr (Or.inr (Or.inr (Or.inr (Or.inr (Or.inr (Or.inr (Or.inr (Or.inr (Or.inr (Or.inr (Or.inr (Or.inr (Or.inr (⟨by omega, by rw [upp, if_neg (show ¬ (97 ≤ c ∧ c ≤ 122) by omega), if_neg (show ¬ (224 ≤ c ∧ c ≤ 246) by omega), if_neg (show ¬ (248 ≤ c ∧ c ≤ 254) by omega), if_neg (show ¬ (255 ≤ c ∧ c ≤ 255) by omega), if_neg (show ¬ (383 ≤ c ∧ c ≤ 383) by omega), if_neg (show ¬ (945 ≤ c ∧ c ≤ 961) by omega), if_neg (show ¬ (962 ≤ c ∧ c ≤ 962) by omega), if_neg (show ¬ (963 ≤ c ∧ c ≤ 969) by omega), if_neg (show ¬ (1072 ≤ c ∧ c ≤ 1103) by omega), if_neg (show ¬ (1104 ≤ c ∧ c ≤ 1119) by omega), if_neg (show ¬ (65345 ≤ c ∧ c ≤ 65370) by omega)]⟩))))))))))))))))))
theorem upp_of {c v : Int} (h : ∀ x : Int, (c < 97 ∧ x = c) ∨ (97 ≤ c ∧ c ≤ 122 ∧ x = c - 32) ∨ (123 ≤ c ∧ c ≤ 223 ∧ x = c) ∨ (224 ≤ c ∧ c ≤ 246 ∧ x = c - 32) ∨ (247 ≤ c ∧ c ≤ 247 ∧ x = c) ∨ (248 ≤ c ∧ c ≤ 254 ∧ x = c - 32) ∨ (255 ≤ c ∧ c ≤ 255 ∧ x = c + 121) ∨ (256 ≤ c ∧ c ≤ 382 ∧ x = c) ∨ (383 ≤ c ∧ c ≤ 383 ∧ x = c - 300) ∨ (384 ≤ c ∧ c ≤ 944 ∧ x = c) ∨ (945 ≤ c ∧ c ≤ 961 ∧ x = c - 32) ∨ (962 ≤ c ∧ c ≤ 962 ∧ x = c - 31) ∨ (963 ≤ c ∧ c ≤ 969 ∧ x = c - 32) ∨ (970 ≤ c ∧ c ≤ 1071 ∧ x = c) ∨ (1072 ≤ c ∧ c ≤ 1103 ∧ x = c - 32) ∨ (1104 ≤ c ∧ c ≤ 1119 ∧ x = c - 80) ∨ (1120 ≤ c ∧ c ≤ 65344 ∧ x = c) ∨ (65345 ≤ c ∧ c ≤ 65370 ∧ x = c - 32) ∨ (65371 ≤ c ∧ x = c) → x = v) : upp c = v := h _ (upp_cases c)
theorem upper_props (n : Nat) : Sc05.upper n =
    if (97 ≤ n ∧ n ≤ 122) ∨ (224 ≤ n ∧ n ≤ 246) ∨ (248 ≤ n ∧ n ≤ 254) ∨ (945 ≤ n ∧ n ≤ 961) ∨ (963 ≤ n ∧ n ≤ 969) ∨ (1072 ≤ n ∧ n ≤ 1103) ∨ (65345 ≤ n ∧ n ≤ 65370) then n - 32
    else if 1104 ≤ n ∧ n ≤ 1119 then n - 80
    else if n = 255 then 376 else if n = 383 then 83 else if n = 962 then 931 else n := by
  simp only [Sc05.upper, Sc05.among, List.any_cons, List.any_nil, Bool.or_false, Bool.or_eq_true, Bool.and_eq_true, decide_eq_true_eq]
theorem upper_upp {c : Int} (h0 : 0 ≤ c) : ((Sc05.upper c.toNat : Nat) : Int) = upp c := by
  obtain ⟨n, rfl⟩ := Int.eq_ofNat_of_zero_le h0
  rw [Int.toNat_natCast]
  have e := upper_props n
  generalize Sc05.upper n = m at e ⊢
  unfold upp
  repeat' split
  all_goals (repeat (split at e <;> try omega))
theorem upp_le {c : Int} (h0 : 0 ≤ c) (h1 : c ≤ 4294967295) : 0 ≤ upp c ∧ upp c ≤ 4294967295 := by
  have := upp_cases c
  omega
theorem wide_back {n : Nat} (h : n ≤ 4294967295) : Sc05.wide n % 4294967296 = (n : Int) := by
  unfold Sc05.wide
  have : (2 : Int) ^ 32 = 4294967296 := by decide
  have : (2 : Nat) ^ 31 = 2147483648 := by decide
  split <;> omega
theorem upp_eq {c : Int} (h0 : 0 ≤ c) (h1 : c ≤ 4294967295) : PySc05.upper c = [upp c] := by
  show [(Sc05.wide (Sc05.upper c.toNat)) % 4294967296] = [upp c]
  refine congrArg (fun x => [x]) ?_
  have b := upper_upp h0
  have r := upp_le h0 h1
  rw [wide_back (by omega), b]
theorem said : PySem.Challenge.rw_widetexts_s03_upper.wellSaid = true := by decide +kernel
theorem shut {c v : Int} (hp : PySem.Challenge.rw_widetexts_s03_upper.pre [WData.int c] = true) (h : 0 ≤ c → c ≤ 4294967295 → PySc05.upper c = [v]) :
    PySem.Challenge.rw_widetexts_s03_upper.post [WData.int c] (ofPy (PyData.list [PyData.int v])) = true := by
  obtain ⟨a, w, q, e⟩ := os_pre said hp
  obtain ⟨k, u⟩ := a
  have e1 : c = k := os_j_int (List.cons.inj e).1
  subst e1
  have b : ((decide ((0 : Int) ≤ c) && decide (c ≤ 4294967295)) && true) = true := w
  simp only [Bool.and_true, Bool.and_eq_true, decide_eq_true_eq] at b
  rw [e]
  refine os_shut said w ?_
  show ofPy (PyData.list [PyData.int v]) = WData.list ((PySc05.upper c).map WData.int)
  rw [h b.1 b.2]
  exact os_list (ys := [v]) rfl
theorem fin {c v : Int} (hp : PySem.Challenge.rw_widetexts_s03_upper.pre [WData.int c] = true) (h : upp c = v) :
    PySem.Challenge.rw_widetexts_s03_upper.post [WData.int c] (ofPy (PyData.list [PyData.int v])) = true :=
  shut hp fun h0 h1 => by rw [upp_eq h0 h1, h]
end Wt
local macro_rules | `(tactic| walk_at "exec For Tuple Name cons nil") => `(tactic| (k_here; (rename PyProof.Rows.Fr _ _ _ _ => frNow); with_unfolding_all refine' For_turns frNow ?_; k_whole))
set_option maxRecDepth 100000 in
set_option maxHeartbeats 8000000 in
theorem PySem.Challenge.cw_widetexts_s03_upper_holds : PySem.Challenge.rw_widetexts_s03_upper.Holds := by
  open_ks with [.int 0]
  all_goals (refine Wt.fin hpre (Wt.upp_of ?_); law_clear; intro x hx; omega)
#print axioms PySem.Challenge.cw_widetexts_s03_upper_holds
