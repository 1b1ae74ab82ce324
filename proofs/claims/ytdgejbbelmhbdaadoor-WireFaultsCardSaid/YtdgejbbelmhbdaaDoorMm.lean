/- Words of 128 bits, moved: plain facts on bits. Conditions: none. -/
import Derived.Test.YtdgejbbelmhbdaaDoorTm
import Derived.Test.YtdgejbbelmhbdaaDoorSm
namespace Go.Eng
theorem hi_bit (x : BitVec 128) (i : Nat) (h : i < 64) : (hi x).getLsbD i = x.getLsbD (64 + i) := by
  unfold hi; rw [BitVec.getLsbD_extractLsb', decide_eq_true h, Bool.true_and]
theorem lo_bit (x : BitVec 128) (i : Nat) (h : i < 64) : (lo x).getLsbD i = x.getLsbD i := by
  unfold lo; rw [BitVec.getLsbD_extractLsb', decide_eq_true h, Bool.true_and, Nat.zero_add]
theorem down_hi_big (x : BitVec 128) {n : Nat} (h : 64 ≤ n) : (0#64) = hi (x >>> n) := by
  apply BitVec.eq_of_getLsbD_eq
  intro i hi'
  rw [hi_bit _ _ hi', BitVec.getLsbD_ushiftRight, BitVec.getLsbD_of_ge _ _ (show 128 ≤ n + (64 + i) by omega)]; simp
theorem down_lo_big (x : BitVec 128) {n : Nat} (h : 64 ≤ n) : hi x >>> (n - 64) = lo (x >>> n) := by
  apply BitVec.eq_of_getLsbD_eq
  intro i hi'
  rw [lo_bit _ _ hi', BitVec.getLsbD_ushiftRight, BitVec.getLsbD_ushiftRight]
  by_cases h2 : n - 64 + i < 64
  · rw [hi_bit _ _ h2]; congr 1; omega
  · rw [BitVec.getLsbD_of_ge _ _ (by omega), BitVec.getLsbD_of_ge _ _ (show 128 ≤ n + i by omega)]
theorem down_hi_small (x : BitVec 128) (n : Nat) : hi x >>> n = hi (x >>> n) := by
  apply BitVec.eq_of_getLsbD_eq
  intro i hi'
  rw [hi_bit _ _ hi', BitVec.getLsbD_ushiftRight, BitVec.getLsbD_ushiftRight]
  by_cases h2 : n + i < 64
  · rw [hi_bit _ _ h2]; congr 1; omega
  · rw [BitVec.getLsbD_of_ge _ _ (by omega), BitVec.getLsbD_of_ge _ _ (show 128 ≤ n + (64 + i) by omega)]
theorem down_lo_small (x : BitVec 128) {n : Nat} (h : n < 64) : lo x >>> n ||| hi x <<< (64 - n) = lo (x >>> n) := by
  apply BitVec.eq_of_getLsbD_eq
  intro i hi'
  rw [lo_bit _ _ hi', BitVec.getLsbD_or, BitVec.getLsbD_ushiftRight, BitVec.getLsbD_ushiftRight, BitVec.getLsbD_shiftLeft, decide_eq_true hi', Bool.true_and]
  by_cases h2 : n + i < 64
  · rw [lo_bit _ _ h2, decide_eq_true (show i < 64 - n by omega)]; simp
  · rw [BitVec.getLsbD_of_ge _ _ (show 64 ≤ n + i by omega), decide_eq_false (show ¬ i < 64 - n by omega), hi_bit _ _ (by omega), Bool.false_or]
    simp only [Bool.not_false, Bool.true_and]; congr 1; omega
theorem up_hi_big (x : BitVec 128) {n : Nat} (h : 64 ≤ n) : lo x <<< (n - 64) = hi (x <<< n) := by
  apply BitVec.eq_of_getLsbD_eq
  intro i hi'
  rw [hi_bit _ _ hi', BitVec.getLsbD_shiftLeft, BitVec.getLsbD_shiftLeft, decide_eq_true hi', Bool.true_and, decide_eq_true (show 64 + i < 128 by omega), Bool.true_and]
  by_cases h2 : i < n - 64
  · rw [decide_eq_true h2, decide_eq_true (show 64 + i < n by omega)]; simp
  · rw [decide_eq_false h2, decide_eq_false (show ¬ 64 + i < n by omega), lo_bit _ _ (by omega)]; simp only [Bool.not_false, Bool.true_and]; congr 1; omega
theorem up_lo_big (x : BitVec 128) {n : Nat} (h : 64 ≤ n) : (0#64) = lo (x <<< n) := by
  apply BitVec.eq_of_getLsbD_eq
  intro i hi'
  rw [lo_bit _ _ hi', BitVec.getLsbD_shiftLeft, decide_eq_true (show i < n by omega)]; simp
theorem up_lo_small (x : BitVec 128) (n : Nat) : lo x <<< n = lo (x <<< n) := by
  apply BitVec.eq_of_getLsbD_eq
  intro i hi'
  rw [lo_bit _ _ hi', BitVec.getLsbD_shiftLeft, BitVec.getLsbD_shiftLeft, decide_eq_true hi', decide_eq_true (show i < 128 by omega)]
  by_cases h2 : i < n
  · rw [decide_eq_true h2]; simp
  · rw [decide_eq_false h2, lo_bit _ _ (by omega)]
theorem up_hi_small (x : BitVec 128) {n : Nat} (h : n < 64) : hi x <<< n ||| lo x >>> (64 - n) = hi (x <<< n) := by
  apply BitVec.eq_of_getLsbD_eq
  intro i hi'
  rw [hi_bit _ _ hi', BitVec.getLsbD_or, BitVec.getLsbD_ushiftRight, BitVec.getLsbD_shiftLeft, BitVec.getLsbD_shiftLeft, decide_eq_true hi', Bool.true_and, decide_eq_true (show 64 + i < 128 by omega), Bool.true_and, decide_eq_false (show ¬ 64 + i < n by omega)]
  by_cases h2 : i < n
  · rw [decide_eq_true h2, lo_bit _ _ (by omega)]; simp only [Bool.not_true, Bool.false_and, Bool.false_or, Bool.not_false, Bool.true_and]; congr 1; omega
  · rw [decide_eq_false h2, hi_bit _ _ (by omega), BitVec.getLsbD_of_ge _ _ (show 64 ≤ 64 - n + i by omega)]; simp only [Bool.not_false, Bool.true_and, Bool.or_false]; congr 1; omega
theorem shiftI_pos {x : BitVec 128} {n : Int} (h : ¬ n < 0) : x <<< n.toNat = shiftI x n := by unfold shiftI; rw [if_pos (by omega)]
theorem shiftI_neg {x : BitVec 128} {n : Int} (h : n < 0) : x >>> (-n).toNat = shiftI x n := by unfold shiftI; rw [if_neg (by omega)]
theorem shiftI_far {x : BitVec 128} {n : Int} (h : n ≤ -128 ∨ n ≥ 128) : (0#128) = shiftI x n := by
  unfold shiftI
  split
  · apply BitVec.eq_of_getLsbD_eq
    intro i hi'
    rw [BitVec.getLsbD_shiftLeft, decide_eq_true (show i < n.toNat by omega)]; simp
  · apply BitVec.eq_of_getLsbD_eq
    intro i hi'
    rw [BitVec.getLsbD_ushiftRight, BitVec.getLsbD_of_ge _ _ (show 128 ≤ (-n).toNat + i by omega)]; simp
theorem shiftI_down {x : BitVec 128} {n : Int} (h : ¬ n < 0) : x >>> n.toNat = shiftI x (-n) := by
  by_cases h0 : n = 0
  · subst h0; unfold shiftI; simp
  · rw [← shiftI_neg (show -n < 0 by omega), Int.neg_neg]
theorem shiftI_up {x : BitVec 128} {n : Int} (h : n < 0) : x <<< (-n).toNat = shiftI x (-n) := shiftI_pos (by omega)
def len128 (x : BitVec 128) : Nat := if hi x = 0#64 then Lib.bitLen (lo x).toNat else 64 + Lib.bitLen (hi x).toNat
section
open Go Go.RowKit
variable {P : Program} {c : Addr → Option Value} {ρ : Operand → Value} {d : Option Tmp} {a b : Operand} {ts : Array TypeId} {ty : TypeId} {pos : String} {af : Array Edge} {g : Option (Nat × Bool)} {k : IntKind} {x y : Int}
end
theorem len128_spec (x : BitVec 128) : x.toNat < 2 ^ len128 x ∧ (len128 x ≠ 0 → 2 ^ (len128 x - 1) ≤ x.toNat) ∧ len128 x ≤ 128 := by
  have hx := x.isLt
  unfold len128
  by_cases h : hi x = 0#64
  · rw [if_pos h]
    have h0 : x.toNat / 2 ^ 64 = 0 := by rw [← hi_toNat, h]; rfl
    have e : (lo x).toNat = x.toNat := by rw [lo_toNat]; omega
    have hb := bl_spec (lo x).toNat (lo x).isLt
    rw [e] at hb ⊢
    refine ⟨hb.1, fun hn => ?_, by omega⟩
    by_cases hz : x.toNat = 0
    · rw [hz] at hn; exact absurd rfl hn
    · exact (hb.2.1 hz).2
  · rw [if_neg h]
    have hb := bl_spec (hi x).toNat (hi x).isLt
    have hz : (hi x).toNat ≠ 0 := fun e => h (BitVec.eq_of_toNat_eq e)
    obtain ⟨h1, h2, h3⟩ := hb
    obtain ⟨h4, h5⟩ := h2 hz
    rw [hi_toNat] at h1 h4 h5 h3 ⊢
    refine ⟨?_, fun _ => ?_, by omega⟩
    · have := (Nat.div_lt_iff_lt_mul (by decide)).1 h1
      rw [Nat.pow_add, Nat.mul_comm]; exact this
    · rw [show 64 + Lib.bitLen (x.toNat / 2 ^ 64) - 1 = (Lib.bitLen (x.toNat / 2 ^ 64) - 1) + 64 from by omega, Nat.pow_add]
      exact (Nat.le_div_iff_mul_le (by decide)).1 h5
theorem len128_is {x : BitVec 128} {m : Nat} (h1 : x.getLsbD m = true) (h2 : ∀ j, m + 1 ≤ j → j < 128 → x.getLsbD j = false) : m + 1 = len128 x := by
  obtain ⟨a, b, _⟩ := len128_spec x
  have hlo : 2 ^ m ≤ x.toNat := Nat.ge_two_pow_of_testBit h1
  have hhi : x.toNat < 2 ^ (m + 1) := Nat.lt_pow_two_of_testBit _ (fun i hi => by
    by_cases h : i < 128
    · exact h2 i hi h
    · exact BitVec.getLsbD_of_ge _ _ (by omega))
  have c1 : m < len128 x := (Nat.pow_lt_pow_iff_right (a := 2) (by decide)).1 (Nat.lt_of_le_of_lt hlo a)
  have c2 : len128 x - 1 < m + 1 := (Nat.pow_lt_pow_iff_right (a := 2) (by decide)).1 (Nat.lt_of_le_of_lt (b (by omega)) hhi)
  omega
theorem len128_none {x : BitVec 128} (h : ∀ j, j < 128 → x.getLsbD j = false) : 0 = len128 x := by
  have : x = 0#128 := BitVec.eq_of_getLsbD_eq (fun i hi => by rw [h i hi]; simp)
  subst this; decide +kernel
end Go.Eng
