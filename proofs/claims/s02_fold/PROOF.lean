import PyProof.Rows.All
import KE.OsGo
import KE.OsArgs
import PySem.Challenge.RW_widetexts_s02_fold
open PySem PySem.W
set_option Elab.async false
namespace Wt
def low (c : Int) : Int :=
  if 65 ≤ c ∧ c ≤ 90 then c + 32
  else if 192 ≤ c ∧ c ≤ 214 then c + 32
  else if 216 ≤ c ∧ c ≤ 222 then c + 32
  else if 376 ≤ c ∧ c ≤ 376 then c - 121
  else if 383 ≤ c ∧ c ≤ 383 then c - 268
  else if 913 ≤ c ∧ c ≤ 929 then c + 32
  else if 931 ≤ c ∧ c ≤ 937 then c + 32
  else if 962 ≤ c ∧ c ≤ 962 then c + 1
  else if 1024 ≤ c ∧ c ≤ 1039 then c + 80
  else if 1040 ≤ c ∧ c ≤ 1071 then c + 32
  else if 8490 ≤ c ∧ c ≤ 8490 then c - 8383
  else if 65313 ≤ c ∧ c ≤ 65338 then c + 32 else c
theorem low_cases (c : Int) : (c < 65 ∧ low c = c) ∨ (65 ≤ c ∧ c ≤ 90 ∧ low c = c + 32) ∨ (91 ≤ c ∧ c ≤ 191 ∧ low c = c) ∨ (192 ≤ c ∧ c ≤ 214 ∧ low c = c + 32) ∨ (215 ≤ c ∧ c ≤ 215 ∧ low c = c) ∨ (216 ≤ c ∧ c ≤ 222 ∧ low c = c + 32) ∨ (223 ≤ c ∧ c ≤ 375 ∧ low c = c) ∨ (376 ≤ c ∧ c ≤ 376 ∧ low c = c - 121) ∨ (377 ≤ c ∧ c ≤ 382 ∧ low c = c) ∨ (383 ≤ c ∧ c ≤ 383 ∧ low c = c - 268) ∨ (384 ≤ c ∧ c ≤ 912 ∧ low c = c) ∨ (913 ≤ c ∧ c ≤ 929 ∧ low c = c + 32) ∨ (930 ≤ c ∧ c ≤ 930 ∧ low c = c) ∨ (931 ≤ c ∧ c ≤ 937 ∧ low c = c + 32) ∨ (938 ≤ c ∧ c ≤ 961 ∧ low c = c) ∨ (962 ≤ c ∧ c ≤ 962 ∧ low c = c + 1) ∨ (963 ≤ c ∧ c ≤ 1023 ∧ low c = c) ∨ (1024 ≤ c ∧ c ≤ 1039 ∧ low c = c + 80) ∨ (1040 ≤ c ∧ c ≤ 1071 ∧ low c = c + 32) ∨ (1072 ≤ c ∧ c ≤ 8489 ∧ low c = c) ∨ (8490 ≤ c ∧ c ≤ 8490 ∧ low c = c - 8383) ∨ (8491 ≤ c ∧ c ≤ 65312 ∧ low c = c) ∨ (65313 ≤ c ∧ c ≤ 65338 ∧ low c = c + 32) ∨ (65339 ≤ c ∧ low c = c) := by
  by_cases h0 : c < 65
  · exact Or.inl ⟨by omega, by rw [low, if_neg (show ¬ (65 ≤ c ∧ c ≤ 90) by omega), if_neg (show ¬ (192 ≤ c ∧ c ≤ 214) by omega), if_neg (show ¬ (216 ≤ c ∧ c ≤ 222) by omega), if_neg (show ¬ (376 ≤ c ∧ c ≤ 376) by omega), if_neg (show ¬ (383 ≤ c ∧ c ≤ 383) by omega), if_neg (show ¬ (913 ≤ c ∧ c ≤ 929) by omega), if_neg (show ¬ (931 ≤ c ∧ c ≤ 937) by omega), if_neg (show ¬ (962 ≤ c ∧ c ≤ 962) by omega), if_neg (show ¬ (1024 ≤ c ∧ c ≤ 1039) by omega), if_neg (show ¬ (1040 ≤ c ∧ c ≤ 1071) by omega), if_neg (show ¬ (8490 ≤ c ∧ c ≤ 8490) by omega), if_neg (show ¬ (65313 ≤ c ∧ c ≤ 65338) by omega)]⟩
  by_cases h1 : c < 91
  · exact Or.inr (Or.inl ⟨by omega, by omega, by rw [low, if_pos (show 65 ≤ c ∧ c ≤ 90 by omega)]⟩)
  by_cases h2 : c < 192
  · exact Or.inr (Or.inr (Or.inl ⟨by omega, by omega, by rw [low, if_neg (show ¬ (65 ≤ c ∧ c ≤ 90) by omega), if_neg (show ¬ (192 ≤ c ∧ c ≤ 214) by omega), if_neg (show ¬ (216 ≤ c ∧ c ≤ 222) by omega), if_neg (show ¬ (376 ≤ c ∧ c ≤ 376) by omega), if_neg (show ¬ (383 ≤ c ∧ c ≤ 383) by omega), if_neg (show ¬ (913 ≤ c ∧ c ≤ 929) by omega), if_neg (show ¬ (931 ≤ c ∧ c ≤ 937) by omega), if_neg (show ¬ (962 ≤ c ∧ c ≤ 962) by omega), if_neg (show ¬ (1024 ≤ c ∧ c ≤ 1039) by omega), if_neg (show ¬ (1040 ≤ c ∧ c ≤ 1071) by omega), if_neg (show ¬ (8490 ≤ c ∧ c ≤ 8490) by omega), if_neg (show ¬ (65313 ≤ c ∧ c ≤ 65338) by omega)]⟩))
  by_cases h3 : c < 215
  · exact Or.inr (Or.inr (Or.inr (Or.inl ⟨by omega, by omega, by rw [low, if_neg (show ¬ (65 ≤ c ∧ c ≤ 90) by omega), if_pos (show 192 ≤ c ∧ c ≤ 214 by omega)]⟩)))
  by_cases h4 : c < 216
  · exact Or.inr (Or.inr (Or.inr (Or.inr (Or.inl ⟨by omega, by omega, by rw [low, if_neg (show ¬ (65 ≤ c ∧ c ≤ 90) by omega), if_neg (show ¬ (192 ≤ c ∧ c ≤ 214) by omega), if_neg (show ¬ (216 ≤ c ∧ c ≤ 222) by omega), if_neg (show ¬ (376 ≤ c ∧ c ≤ 376) by omega), if_neg (show ¬ (383 ≤ c ∧ c ≤ 383) by omega), if_neg (show ¬ (913 ≤ c ∧ c ≤ 929) by omega), if_neg (show ¬ (931 ≤ c ∧ c ≤ 937) by omega), if_neg (show ¬ (962 ≤ c ∧ c ≤ 962) by omega), if_neg (show ¬ (1024 ≤ c ∧ c ≤ 1039) by omega), if_neg (show ¬ (1040 ≤ c ∧ c ≤ 1071) by omega), if_neg (show ¬ (8490 ≤ c ∧ c ≤ 8490) by omega), if_neg (show ¬ (65313 ≤ c ∧ c ≤ 65338) by omega)]⟩))))
  by_cases h5 : c < 223
  · exact Or.inr (Or.inr (Or.inr (Or.inr (Or.inr (Or.inl ⟨by omega, by omega, by rw [low, if_neg (show ¬ (65 ≤ c ∧ c ≤ 90) by omega), if_neg (show ¬ (192 ≤ c ∧ c ≤ 214) by omega), if_pos (show 216 ≤ c ∧ c ≤ 222 by omega)]⟩)))))
  by_cases h6 : c < 376
  · exact Or.inr (Or.inr (Or.inr (Or.inr (Or.inr (Or.inr (Or.inl ⟨by omega, by omega, by rw [low, if_neg (show ¬ (65 ≤ c ∧ c ≤ 90) by omega), if_neg (show ¬ (192 ≤ c ∧ c ≤ 214) by omega), if_neg (show ¬ (216 ≤ c ∧ c ≤ 222) by omega), if_neg (show ¬ (376 ≤ c ∧ c ≤ 376) by omega), if_neg (show ¬ (383 ≤ c ∧ c ≤ 383) by omega), if_neg (show ¬ (913 ≤ c ∧ c ≤ 929) by omega), if_neg (show ¬ (931 ≤ c ∧ c ≤ 937) by omega), if_neg (show ¬ (962 ≤ c ∧ c ≤ 962) by omega), if_neg (show ¬ (1024 ≤ c ∧ c ≤ 1039) by omega), if_neg (show ¬ (1040 ≤ c ∧ c ≤ 1071) by omega), if_neg (show ¬ (8490 ≤ c ∧ c ≤ 8490) by omega), if_neg (show ¬ (65313 ≤ c ∧ c ≤ 65338) by omega)]⟩))))))
  by_cases h7 : c < 377
  · exact Or.inr (Or.inr (Or.inr (Or.inr (Or.inr (Or.inr (Or.inr (Or.inl ⟨by omega, by omega, by rw [low, if_neg (show ¬ (65 ≤ c ∧ c ≤ 90) by omega), if_neg (show ¬ (192 ≤ c ∧ c ≤ 214) by omega), if_neg (show ¬ (216 ≤ c ∧ c ≤ 222) by omega), if_pos (show 376 ≤ c ∧ c ≤ 376 by omega)]⟩)))))))
  by_cases h8 : c < 383
  · exact Or.inr (Or.inr (Or.inr (Or.inr (Or.inr (Or.inr (Or.inr (Or.inr (Or.inl ⟨by omega, by omega, by rw [low, if_neg (show ¬ (65 ≤ c ∧ c ≤ 90) by omega), if_neg (show ¬ (192 ≤ c ∧ c ≤ 214) by omega), if_neg (show ¬ (216 ≤ c ∧ c ≤ 222) by omega), if_neg (show ¬ (376 ≤ c ∧ c ≤ 376) by omega), if_neg (show ¬ (383 ≤ c ∧ c ≤ 383) by omega), if_neg (show ¬ (913 ≤ c ∧ c ≤ 929) by omega), if_neg (show ¬ (931 ≤ c ∧ c ≤ 937) by omega), if_neg (show ¬ (962 ≤ c ∧ c ≤ 962) by omega), if_neg (show ¬ (1024 ≤ c ∧ c ≤ 1039) by omega), if_neg (show ¬ (1040 ≤ c ∧ c ≤ 1071) by omega), if_neg (show ¬ (8490 ≤ c ∧ c ≤ 8490) by omega), if_neg (show ¬ (65313 ≤ c ∧ c ≤ 65338) by omega)]⟩))))))))
  by_cases h9 : c < 384
  · exact Or.inr (Or.inr (Or.inr (Or.inr (Or.inr (Or.inr (Or.inr (Or.inr (Or.inr (Or.inl ⟨by omega, by omega, by rw [low, if_neg (show ¬ (65 ≤ c ∧ c ≤ 90) by omega), if_neg (show ¬ (192 ≤ c ∧ c ≤ 214) by omega), if_neg (show ¬ (216 ≤ c ∧ c ≤ 222) by omega), if_neg (show ¬ (376 ≤ c ∧ c ≤ 376) by omega), if_pos (show 383 ≤ c ∧ c ≤ 383 by omega)]⟩)))))))))
  by_cases h10 : c < 913
  · exact Or.inr (Or.inr (Or.inr (Or.inr (Or.inr (Or.inr (Or.inr (Or.inr (Or.inr (Or.inr (Or.inl ⟨by omega, by omega, by rw [low, if_neg (show ¬ (65 ≤ c ∧ c ≤ 90) by omega), if_neg (show ¬ (192 ≤ c ∧ c ≤ 214) by omega), if_neg (show ¬ (216 ≤ c ∧ c ≤ 222) by omega), if_neg (show ¬ (376 ≤ c ∧ c ≤ 376) by omega), if_neg (show ¬ (383 ≤ c ∧ c ≤ 383) by omega), if_neg (show ¬ (913 ≤ c ∧ c ≤ 929) by omega), if_neg (show ¬ (931 ≤ c ∧ c ≤ 937) by omega), if_neg (show ¬ (962 ≤ c ∧ c ≤ 962) by omega), if_neg (show ¬ (1024 ≤ c ∧ c ≤ 1039) by omega), if_neg (show ¬ (1040 ≤ c ∧ c ≤ 1071) by omega), if_neg (show ¬ (8490 ≤ c ∧ c ≤ 8490) by omega), if_neg (show ¬ (65313 ≤ c ∧ c ≤ 65338) by omega)]⟩))))))))))
  by_cases h11 : c < 930
  · exact Or.inr (Or.inr (Or.inr (Or.inr (Or.inr (Or.inr (Or.inr (Or.inr (Or.inr (Or.inr (Or.inr (Or.inl ⟨by omega, by omega, by rw [low, if_neg (show ¬ (65 ≤ c ∧ c ≤ 90) by omega), if_neg (show ¬ (192 ≤ c ∧ c ≤ 214) by omega), if_neg (show ¬ (216 ≤ c ∧ c ≤ 222) by omega), if_neg (show ¬ (376 ≤ c ∧ c ≤ 376) by omega), if_neg (show ¬ (383 ≤ c ∧ c ≤ 383) by omega), if_pos (show 913 ≤ c ∧ c ≤ 929 by omega)]⟩)))))))))))
  by_cases h12 : c < 931
  · exact Or.inr (Or.inr (Or.inr (Or.inr (Or.inr (Or.inr (Or.inr (Or.inr (Or.inr (Or.inr (Or.inr (Or.inr (Or.inl ⟨by omega, by omega, by rw [low, if_neg (show ¬ (65 ≤ c ∧ c ≤ 90) by omega), if_neg (show ¬ (192 ≤ c ∧ c ≤ 214) by omega), if_neg (show ¬ (216 ≤ c ∧ c ≤ 222) by omega), if_neg (show ¬ (376 ≤ c ∧ c ≤ 376) by omega), if_neg (show ¬ (383 ≤ c ∧ c ≤ 383) by omega), if_neg (show ¬ (913 ≤ c ∧ c ≤ 929) by omega), if_neg (show ¬ (931 ≤ c ∧ c ≤ 937) by omega), if_neg (show ¬ (962 ≤ c ∧ c ≤ 962) by omega), if_neg (show ¬ (1024 ≤ c ∧ c ≤ 1039) by omega), if_neg (show ¬ (1040 ≤ c ∧ c ≤ 1071) by omega), if_neg (show ¬ (8490 ≤ c ∧ c ≤ 8490) by omega), if_neg (show ¬ (65313 ≤ c ∧ c ≤ 65338) by omega)]⟩))))))))))))
  by_cases h13 : c < 938
  · exact Or.inr (Or.inr (Or.inr (Or.inr (Or.inr (Or.inr (Or.inr (Or.inr (Or.inr (Or.inr (Or.inr (Or.inr (Or.inr (Or.inl ⟨by omega, by omega, by rw [low, if_neg (show ¬ (65 ≤ c ∧ c ≤ 90) by omega), if_neg (show ¬ (192 ≤ c ∧ c ≤ 214) by omega), if_neg (show ¬ (216 ≤ c ∧ c ≤ 222) by omega), if_neg (show ¬ (376 ≤ c ∧ c ≤ 376) by omega), if_neg (show ¬ (383 ≤ c ∧ c ≤ 383) by omega), if_neg (show ¬ (913 ≤ c ∧ c ≤ 929) by omega), if_pos (show 931 ≤ c ∧ c ≤ 937 by omega)]⟩)))))))))))))
  by_cases h14 : c < 962
  · exact Or.inr (Or.inr (Or.inr (Or.inr (Or.inr (Or.inr (Or.inr (Or.inr (Or.inr (Or.inr (Or.inr (Or.inr (Or.inr (Or.inr (Or.inl ⟨by omega, by omega, by rw [low, if_neg (show ¬ (65 ≤ c ∧ c ≤ 90) by omega), if_neg (show ¬ (192 ≤ c ∧ c ≤ 214) by omega), if_neg (show ¬ (216 ≤ c ∧ c ≤ 222) by omega), if_neg (show ¬ (376 ≤ c ∧ c ≤ 376) by omega), if_neg (show ¬ (383 ≤ c ∧ c ≤ 383) by omega), if_neg (show ¬ (913 ≤ c ∧ c ≤ 929) by omega), if_neg (show ¬ (931 ≤ c ∧ c ≤ 937) by omega), if_neg (show ¬ (962 ≤ c ∧ c ≤ 962) by omega), if_neg (show ¬ (1024 ≤ c ∧ c ≤ 1039) by omega), if_neg (show ¬ (1040 ≤ c ∧ c ≤ 1071) by omega), if_neg (show ¬ (8490 ≤ c ∧ c ≤ 8490) by omega), if_neg (show ¬ (65313 ≤ c ∧ c ≤ 65338) by omega)]⟩))))))))))))))
  by_cases h15 : c < 963
  · exact Or.inr (Or.inr (Or.inr (Or.inr (Or.inr (Or.inr (Or.inr (Or.inr (Or.inr (Or.inr (Or.inr (Or.inr (Or.inr (Or.inr (Or.inr (Or.inl ⟨by omega, by omega, by rw [low, if_neg (show ¬ (65 ≤ c ∧ c ≤ 90) by omega), if_neg (show ¬ (192 ≤ c ∧ c ≤ 214) by omega), if_neg (show ¬ (216 ≤ c ∧ c ≤ 222) by omega), if_neg (show ¬ (376 ≤ c ∧ c ≤ 376) by omega), if_neg (show ¬ (383 ≤ c ∧ c ≤ 383) by omega), if_neg (show ¬ (913 ≤ c ∧ c ≤ 929) by omega), if_neg (show ¬ (931 ≤ c ∧ c ≤ 937) by omega), if_pos (show 962 ≤ c ∧ c ≤ 962 by omega)]⟩)))))))))))))))
  by_cases h16 : c < 1024
  · exact Or.inr (Or.inr (Or.inr (Or.inr (Or.inr (Or.inr (Or.inr (Or.inr (Or.inr (Or.inr (Or.inr (Or.inr (Or.inr (Or.inr (Or.inr (Or.inr (Or.inl ⟨by omega, by omega, by rw [low, if_neg (show ¬ (65 ≤ c ∧ c ≤ 90) by omega), if_neg (show ¬ (192 ≤ c ∧ c ≤ 214) by omega), if_neg (show ¬ (216 ≤ c ∧ c ≤ 222) by omega), if_neg (show ¬ (376 ≤ c ∧ c ≤ 376) by omega), if_neg (show ¬ (383 ≤ c ∧ c ≤ 383) by omega), if_neg (show ¬ (913 ≤ c ∧ c ≤ 929) by omega), if_neg (show ¬ (931 ≤ c ∧ c ≤ 937) by omega), if_neg (show ¬ (962 ≤ c ∧ c ≤ 962) by omega), if_neg (show ¬ (1024 ≤ c ∧ c ≤ 1039) by omega), if_neg (show ¬ (1040 ≤ c ∧ c ≤ 1071) by omega), if_neg (show ¬ (8490 ≤ c ∧ c ≤ 8490) by omega), if_neg (show ¬ (65313 ≤ c ∧ c ≤ 65338) by omega)]⟩))))))))))))))))
  by_cases h17 : c < 1040
  · exact Or.inr (Or.inr (Or.inr (Or.inr (Or.inr (Or.inr (Or.inr (Or.inr (Or.inr (Or.inr (Or.inr (Or.inr (Or.inr (Or.inr (Or.inr (Or.inr (Or.inr (Or.inl ⟨by omega, by omega, by rw [low, if_neg (show ¬ (65 ≤ c ∧ c ≤ 90) by omega), if_neg (show ¬ (192 ≤ c ∧ c ≤ 214) by omega), if_neg (show ¬ (216 ≤ c ∧ c ≤ 222) by omega), if_neg (show ¬ (376 ≤ c ∧ c ≤ 376) by omega), if_neg (show ¬ (383 ≤ c ∧ c ≤ 383) by omega), if_neg (show ¬ (913 ≤ c ∧ c ≤ 929) by omega), if_neg (show ¬ (931 ≤ c ∧ c ≤ 937) by omega), if_neg (show ¬ (962 ≤ c ∧ c ≤ 962) by omega), if_pos (show 1024 ≤ c ∧ c ≤ 1039 by omega)]⟩)))))))))))))))))
  by_cases h18 : c < 1072
  · exact Or.inr (Or.inr (Or.inr (Or.inr (Or.inr (Or.inr (Or.inr (Or.inr (Or.inr (Or.inr (Or.inr (Or.inr (Or.inr (Or.inr (Or.inr (Or.inr (Or.inr (Or.inr (Or.inl ⟨by omega, by omega, by rw [low, if_neg (show ¬ (65 ≤ c ∧ c ≤ 90) by omega), if_neg (show ¬ (192 ≤ c ∧ c ≤ 214) by omega), if_neg (show ¬ (216 ≤ c ∧ c ≤ 222) by omega), if_neg (show ¬ (376 ≤ c ∧ c ≤ 376) by omega), if_neg (show ¬ (383 ≤ c ∧ c ≤ 383) by omega), if_neg (show ¬ (913 ≤ c ∧ c ≤ 929) by omega), if_neg (show ¬ (931 ≤ c ∧ c ≤ 937) by omega), if_neg (show ¬ (962 ≤ c ∧ c ≤ 962) by omega), if_neg (show ¬ (1024 ≤ c ∧ c ≤ 1039) by omega), if_pos (show 1040 ≤ c ∧ c ≤ 1071 by omega)]⟩))))))))))))))))))
  by_cases h19 : c < 8490
  · exact Or.inr (Or.inr (Or.inr (Or.inr (Or.inr (Or.inr (Or.inr (Or.inr (Or.inr (Or.inr (Or.inr (Or.inr (Or.inr (Or.inr (Or.inr (Or.inr (Or.inr (Or.inr (Or.inr (Or.inl ⟨by omega, by omega, by rw [low, if_neg (show ¬ (65 ≤ c ∧ c ≤ 90) by omega), if_neg (show ¬ (192 ≤ c ∧ c ≤ 214) by omega), if_neg (show ¬ (216 ≤ c ∧ c ≤ 222) by omega), if_neg (show ¬ (376 ≤ c ∧ c ≤ 376) by omega), if_neg (show ¬ (383 ≤ c ∧ c ≤ 383) by omega), if_neg (show ¬ (913 ≤ c ∧ c ≤ 929) by omega), if_neg (show ¬ (931 ≤ c ∧ c ≤ 937) by omega), if_neg (show ¬ (962 ≤ c ∧ c ≤ 962) by omega), if_neg (show ¬ (1024 ≤ c ∧ c ≤ 1039) by omega), if_neg (show ¬ (1040 ≤ c ∧ c ≤ 1071) by omega), if_neg (show ¬ (8490 ≤ c ∧ c ≤ 8490) by omega), if_neg (show ¬ (65313 ≤ c ∧ c ≤ 65338) by omega)]⟩)))))))))))))))))))
  by_cases h20 : c < 8491
  · exact Or.inr (Or.inr (Or.inr (Or.inr (Or.inr (Or.inr (Or.inr (Or.inr (Or.inr (Or.inr (Or.inr (Or.inr (Or.inr (Or.inr (Or.inr (Or.inr (Or.inr (Or.inr (Or.inr (Or.inr (Or.inl ⟨by omega, by omega, by rw [low, if_neg (show ¬ (65 ≤ c ∧ c ≤ 90) by omega), if_neg (show ¬ (192 ≤ c ∧ c ≤ 214) by omega), if_neg (show ¬ (216 ≤ c ∧ c ≤ 222) by omega), if_neg (show ¬ (376 ≤ c ∧ c ≤ 376) by omega), if_neg (show ¬ (383 ≤ c ∧ c ≤ 383) by omega), if_neg (show ¬ (913 ≤ c ∧ c ≤ 929) by omega), if_neg (show ¬ (931 ≤ c ∧ c ≤ 937) by omega), if_neg (show ¬ (962 ≤ c ∧ c ≤ 962) by omega), if_neg (show ¬ (1024 ≤ c ∧ c ≤ 1039) by omega), if_neg (show ¬ (1040 ≤ c ∧ c ≤ 1071) by omega), if_pos (show 8490 ≤ c ∧ c ≤ 8490 by omega)]⟩))))))))))))))))))))
  by_cases h21 : c < 65313
  · exact Or.inr (Or.inr (Or.inr (Or.inr (Or.inr (Or.inr (Or.inr (Or.inr (Or.inr (Or.inr (Or.inr (Or.inr (Or.inr (Or.inr (Or.inr (Or.inr (Or.inr (Or.inr (Or.inr (Or.inr (Or.inr (Or.inl ⟨by omega, by omega, by rw [low, if_neg (show ¬ (65 ≤ c ∧ c ≤ 90) by omega), if_neg (show ¬ (192 ≤ c ∧ c ≤ 214) by omega), if_neg (show ¬ (216 ≤ c ∧ c ≤ 222) by omega), if_neg (show ¬ (376 ≤ c ∧ c ≤ 376) by omega), if_neg (show ¬ (383 ≤ c ∧ c ≤ 383) by omega), if_neg (show ¬ (913 ≤ c ∧ c ≤ 929) by omega), if_neg (show ¬ (931 ≤ c ∧ c ≤ 937) by omega), if_neg (show ¬ (962 ≤ c ∧ c ≤ 962) by omega), if_neg (show ¬ (1024 ≤ c ∧ c ≤ 1039) by omega), if_neg (show ¬ (1040 ≤ c ∧ c ≤ 1071) by omega), if_neg (show ¬ (8490 ≤ c ∧ c ≤ 8490) by omega), if_neg (show ¬ (65313 ≤ c ∧ c ≤ 65338) by omega)]⟩)))))))))))))))))))))
  by_cases h22 : c < 65339
  · exact Or.inr (Or.inr (Or.inr (Or.inr (Or.inr (Or.inr (Or.inr (Or.inr (Or.inr (Or.inr (Or.inr (Or.inr (Or.inr (Or.inr (Or.inr (Or.inr (Or.inr (Or.inr (Or.inr (Or.inr (Or.inr (Or.inr (Or.inl ⟨by omega, by omega, by rw [low, if_neg (show ¬ (65 ≤ c ∧ c ≤ 90) by omega), if_neg (show ¬ (192 ≤ c ∧ c ≤ 214) by omega), if_neg (show ¬ (216 ≤ c ∧ c ≤ 222) by omega), if_neg (show ¬ (376 ≤ c ∧ c ≤ 376) by omega), if_neg (show ¬ (383 ≤ c ∧ c ≤ 383) by omega), if_neg (show ¬ (913 ≤ c ∧ c ≤ 929) by omega), if_neg (show ¬ (931 ≤ c ∧ c ≤ 937) by omega), if_neg (show ¬ (962 ≤ c ∧ c ≤ 962) by omega), if_neg (show ¬ (1024 ≤ c ∧ c ≤ 1039) by omega), if_neg (show ¬ (1040 ≤ c ∧ c ≤ 1071) by omega), if_neg (show ¬ (8490 ≤ c ∧ c ≤ 8490) by omega), if_pos (show 65313 ≤ c ∧ c ≤ 65338 by omega)]⟩))))))))))))))))))))))
  exact Or.inr (Or.inr (Or.inr (Or.inr (Or.inr (Or.inr (Or.inr (Or.inr (Or.inr (Or.inr (Or.inr (Or.inr (Or.inr (Or.inr (Or.inr (Or.inr (Or.inr (Or.inr (Or.inr (Or.inr (Or.inr (Or.inr (Or.inr (⟨by omega, by rw [low, if_neg (show ¬ (65 ≤ c ∧ c ≤ 90) by omega), if_neg (show ¬ (192 ≤ c ∧ c ≤ 214) by omega), if_neg (show ¬ (216 ≤ c ∧ c ≤ 222) by omega), if_neg (show ¬ (376 ≤ c ∧ c ≤ 376) by omega), if_neg (show ¬ (383 ≤ c ∧ c ≤ 383) by omega), if_neg (show ¬ (913 ≤ c ∧ c ≤ 929) by omega), if_neg (show ¬ (931 ≤ c ∧ c ≤ 937) by omega), if_neg (show ¬ (962 ≤ c ∧ c ≤ 962) by omega), if_neg (show ¬ (1024 ≤ c ∧ c ≤ 1039) by omega), if_neg (show ¬ (1040 ≤ c ∧ c ≤ 1071) by omega), if_neg (show ¬ (8490 ≤ c ∧ c ≤ 8490) by omega), if_neg (show ¬ (65313 ≤ c ∧ c ≤ 65338) by omega)]⟩)))))))))))))))))))))))
theorem low_of {c v : Int} (h : ∀ x : Int, (c < 65 ∧ x = c) ∨ (65 ≤ c ∧ c ≤ 90 ∧ x = c + 32) ∨ (91 ≤ c ∧ c ≤ 191 ∧ x = c) ∨ (192 ≤ c ∧ c ≤ 214 ∧ x = c + 32) ∨ (215 ≤ c ∧ c ≤ 215 ∧ x = c) ∨ (216 ≤ c ∧ c ≤ 222 ∧ x = c + 32) ∨ (223 ≤ c ∧ c ≤ 375 ∧ x = c) ∨ (376 ≤ c ∧ c ≤ 376 ∧ x = c - 121) ∨ (377 ≤ c ∧ c ≤ 382 ∧ x = c) ∨ (383 ≤ c ∧ c ≤ 383 ∧ x = c - 268) ∨ (384 ≤ c ∧ c ≤ 912 ∧ x = c) ∨ (913 ≤ c ∧ c ≤ 929 ∧ x = c + 32) ∨ (930 ≤ c ∧ c ≤ 930 ∧ x = c) ∨ (931 ≤ c ∧ c ≤ 937 ∧ x = c + 32) ∨ (938 ≤ c ∧ c ≤ 961 ∧ x = c) ∨ (962 ≤ c ∧ c ≤ 962 ∧ x = c + 1) ∨ (963 ≤ c ∧ c ≤ 1023 ∧ x = c) ∨ (1024 ≤ c ∧ c ≤ 1039 ∧ x = c + 80) ∨ (1040 ≤ c ∧ c ≤ 1071 ∧ x = c + 32) ∨ (1072 ≤ c ∧ c ≤ 8489 ∧ x = c) ∨ (8490 ≤ c ∧ c ≤ 8490 ∧ x = c - 8383) ∨ (8491 ≤ c ∧ c ≤ 65312 ∧ x = c) ∨ (65313 ≤ c ∧ c ≤ 65338 ∧ x = c + 32) ∨ (65339 ≤ c ∧ x = c) → x = v) : low c = v := h _ (low_cases c)
theorem fold_props (n : Nat) : Sc05.fold n =
    if (65 ≤ n ∧ n ≤ 90) ∨ (192 ≤ n ∧ n ≤ 214) ∨ (216 ≤ n ∧ n ≤ 222) ∨ (913 ≤ n ∧ n ≤ 929) ∨ (931 ≤ n ∧ n ≤ 937) ∨ (1040 ≤ n ∧ n ≤ 1071) ∨ (65313 ≤ n ∧ n ≤ 65338) then n + 32
    else if 1024 ≤ n ∧ n ≤ 1039 then n + 80
    else if n = 376 then 255 else if n = 383 then 115 else if n = 8490 then 107 else if n = 962 then 963 else n := by
  simp only [Sc05.fold, Sc05.among, List.any_cons, List.any_nil, Bool.or_false, Bool.or_eq_true, Bool.and_eq_true, decide_eq_true_eq]
theorem fold_low {c : Int} (h0 : 0 ≤ c) : ((Sc05.fold c.toNat : Nat) : Int) = low c := by
  obtain ⟨n, rfl⟩ := Int.eq_ofNat_of_zero_le h0
  rw [Int.toNat_natCast]
  have e := fold_props n
  generalize Sc05.fold n = m at e ⊢
  unfold low
  repeat' split
  all_goals (repeat (split at e <;> try omega))
theorem low_le {c : Int} (h0 : 0 ≤ c) (h1 : c ≤ 4294967295) : 0 ≤ low c ∧ low c ≤ 4294967295 := by
  have := low_cases c
  omega
theorem wide_back {n : Nat} (h : n ≤ 4294967295) : Sc05.wide n % 4294967296 = (n : Int) := by
  unfold Sc05.wide
  have : (2 : Int) ^ 32 = 4294967296 := by decide
  have : (2 : Nat) ^ 31 = 2147483648 := by decide
  split <;> omega
theorem low_eq {c : Int} (h0 : 0 ≤ c) (h1 : c ≤ 4294967295) : PySc05.fold c = [low c] := by
  show [(Sc05.wide (Sc05.fold c.toNat)) % 4294967296] = [low c]
  refine congrArg (fun x => [x]) ?_
  have b := fold_low h0
  have r := low_le h0 h1
  rw [wide_back (by omega), b]
theorem said : PySem.Challenge.rw_widetexts_s02_fold.wellSaid = true := by decide +kernel
theorem shut {c v : Int} (hp : PySem.Challenge.rw_widetexts_s02_fold.pre [WData.int c] = true) (h : 0 ≤ c → c ≤ 4294967295 → PySc05.fold c = [v]) :
    PySem.Challenge.rw_widetexts_s02_fold.post [WData.int c] (ofPy (PyData.list [PyData.int v])) = true := by
  obtain ⟨a, w, q, e⟩ := os_pre said hp
  obtain ⟨k, u⟩ := a
  have e1 : c = k := os_j_int (List.cons.inj e).1
  subst e1
  have b : ((decide ((0 : Int) ≤ c) && decide (c ≤ 4294967295)) && true) = true := w
  simp only [Bool.and_true, Bool.and_eq_true, decide_eq_true_eq] at b
  rw [e]
  refine os_shut said w ?_
  show ofPy (PyData.list [PyData.int v]) = WData.list ((PySc05.fold c).map WData.int)
  rw [h b.1 b.2]
  exact os_list (ys := [v]) rfl
theorem fin {c v : Int} (hp : PySem.Challenge.rw_widetexts_s02_fold.pre [WData.int c] = true) (h : low c = v) :
    PySem.Challenge.rw_widetexts_s02_fold.post [WData.int c] (ofPy (PyData.list [PyData.int v])) = true :=
  shut hp fun h0 h1 => by rw [low_eq h0 h1, h]
end Wt
local macro_rules | `(tactic| walk_at "exec For Tuple Name cons nil") => `(tactic| (k_here; (rename PyProof.Rows.Fr _ _ _ _ => frNow); with_unfolding_all refine' For_turns frNow ?_; k_whole))
set_option maxRecDepth 100000 in
set_option maxHeartbeats 8000000 in
theorem PySem.Challenge.cw_widetexts_s02_fold_holds : PySem.Challenge.rw_widetexts_s02_fold.Holds := by
  open_ks with [.int 0]
  all_goals (refine Wt.fin hpre (Wt.low_of ?_); law_clear; intro x hx; omega)
#print axioms PySem.Challenge.cw_widetexts_s02_fold_holds
