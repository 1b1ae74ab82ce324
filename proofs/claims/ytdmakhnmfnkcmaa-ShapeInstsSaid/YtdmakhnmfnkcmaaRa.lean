/- The runes of texts. Conditions: none. -/
import Derived.Test.YtdmakhnmfnkcmaaIt
namespace Go.Proofs.Ytdmakhnmfnkcmaa
open Go Go.RowKit Go.Eng
def cont (n : Nat) : Prop := 128 ≤ n ∧ n < 192
instance (n : Nat) : Decidable (cont n) := inferInstanceAs (Decidable (_ ∧ _))
/-- the first rune of four bytes, of which n are there -/
def decN (b0 b1 b2 b3 n : Nat) : Nat × Nat :=
  if b0 < 128 then (b0, 1)
  else if 194 ≤ b0 ∧ b0 < 224 ∧ 2 ≤ n ∧ cont b1 then (64 * (b0 - 192) + (b1 - 128), 2)
  else if 224 ≤ b0 ∧ b0 < 240 ∧ 3 ≤ n ∧ cont b1 ∧ cont b2 ∧ 2048 ≤ 4096 * (b0 - 224) + 64 * (b1 - 128) + (b2 - 128) ∧ (4096 * (b0 - 224) + 64 * (b1 - 128) + (b2 - 128) < 55296 ∨ 57343 < 4096 * (b0 - 224) + 64 * (b1 - 128) + (b2 - 128)) then (4096 * (b0 - 224) + 64 * (b1 - 128) + (b2 - 128), 3)
  else if 240 ≤ b0 ∧ b0 < 245 ∧ 4 ≤ n ∧ cont b1 ∧ cont b2 ∧ cont b3 ∧ 65536 ≤ 262144 * (b0 - 240) + 4096 * (b1 - 128) + 64 * (b2 - 128) + (b3 - 128) ∧ 262144 * (b0 - 240) + 4096 * (b1 - 128) + 64 * (b2 - 128) + (b3 - 128) ≤ 1114111 then (262144 * (b0 - 240) + 4096 * (b1 - 128) + 64 * (b2 - 128) + (b3 - 128), 4)
  else (65533, 1)
def decU (b0 b1 b2 b3 n : Nat) : Nat × Nat :=
  if b0 < 0x80 then (b0, 1)
  else if b0 / 32 == 6 && (decide (1 < n) && b1 / 64 == 2) then
    if b0 % 32 * 64 + b1 % 64 ≥ 0x80 then (b0 % 32 * 64 + b1 % 64, 2) else (65533, 1)
  else if b0 / 16 == 14 && (decide (1 < n) && b1 / 64 == 2) && (decide (2 < n) && b2 / 64 == 2) then
    if b0 % 16 * 4096 + b1 % 64 * 64 + b2 % 64 ≥ 0x800 && Utf8.valid ((b0 % 16 * 4096 + b1 % 64 * 64 + b2 % 64 : Nat) : Int) then (b0 % 16 * 4096 + b1 % 64 * 64 + b2 % 64, 3) else (65533, 1)
  else if b0 / 8 == 30 && (decide (1 < n) && b1 / 64 == 2) && (decide (2 < n) && b2 / 64 == 2) && (decide (3 < n) && b3 / 64 == 2) then
    if b0 % 8 * 262144 + b1 % 64 * 4096 + b2 % 64 * 64 + b3 % 64 ≥ 0x10000 && Utf8.valid ((b0 % 8 * 262144 + b1 % 64 * 4096 + b2 % 64 * 64 + b3 % 64 : Nat) : Int) then (b0 % 8 * 262144 + b1 % 64 * 4096 + b2 % 64 * 64 + b3 % 64, 4) else (65533, 1)
  else (65533, 1)
theorem decU_eq (b0 b1 b2 b3 n : Nat) (h0 : b0 < 256) (h1 : b1 < 256) (h2 : b2 < 256) (h3 : b3 < 256) : decU b0 b1 b2 b3 n = decN b0 b1 b2 b3 n := by
  unfold decU decN cont Utf8.valid
  simp only [Bool.and_eq_true, beq_iff_eq, decide_eq_true_eq, Bool.or_eq_true, ge_iff_le]
  by_cases g0 : b0 < 128
  · rw [if_pos g0, if_pos g0]
  rw [if_neg g0, if_neg g0]
  split
  · rename_i h
    split
    · rw [if_pos (by omega)]; exact Prod.ext (by show b0 % 32 * 64 + b1 % 64 = 64 * (b0 - 192) + (b1 - 128); omega) rfl
    · rw [if_neg (by omega), if_neg (by omega), if_neg (by omega)]
  · rename_i h
    split
    · rename_i h2
      have e : b0 % 16 * 4096 + b1 % 64 * 64 + b2 % 64 = 4096 * (b0 - 224) + 64 * (b1 - 128) + (b2 - 128) := by omega
      rw [e]
      split
      · rw [if_neg (by omega), if_pos (by omega)]
      · rw [if_neg (by omega), if_neg (by omega), if_neg (by omega)]
    · rename_i h2
      split
      · rename_i h3
        have e : b0 % 8 * 262144 + b1 % 64 * 4096 + b2 % 64 * 64 + b3 % 64 = 262144 * (b0 - 240) + 4096 * (b1 - 128) + 64 * (b2 - 128) + (b3 - 128) := by omega
        rw [e]
        split
        · rw [if_neg (by omega), if_neg (by omega), if_pos (by omega)]
        · rw [if_neg (by omega), if_neg (by omega), if_neg (by omega)]
      · rw [if_neg (by omega), if_neg (by omega), if_neg (by omega)]
theorem get_b (s : List UInt8) (i : Nat) : (⟨s.toArray⟩ : ByteArray).get! i = s.getD i 0 := by
  show s.toArray[i]! = _
  rw [List.getElem!_toArray, List.getElem!_eq_getElem?_getD, List.getD_eq_getElem?_getD]; rfl
theorem getD_drop (s : List UInt8) (p k : Nat) : (s.drop p).getD k 0 = s.getD (p + k) 0 := by
  rw [List.getD_eq_getElem?_getD, List.getD_eq_getElem?_getD, List.getElem?_drop]
def dec (s : List UInt8) : Nat × Nat := decN (s.getD 0 0).toNat (s.getD 1 0).toNat (s.getD 2 0).toNat (s.getD 3 0).toNat s.length
theorem decode_dec (s : List UInt8) (p : Nat) (h : p < s.length) : Utf8.decode ⟨s.toArray⟩ p = dec (s.drop p) := by
  unfold dec
  rw [← decU_eq _ _ _ _ _ (UInt8.toNat_lt _) (UInt8.toNat_lt _) (UInt8.toNat_lt _) (UInt8.toNat_lt _)]
  unfold Utf8.decode decU
  have hs : (⟨s.toArray⟩ : ByteArray).size = s.length := rfl
  simp only [get_b, getD_drop, List.length_drop, hs, Nat.add_zero, Utf8.runeError]
  have e : ∀ k, (p + k < s.length) = (k < s.length - p) := fun k => propext (by omega)
  simp only [e]
end Go.Proofs.Ytdmakhnmfnkcmaa
