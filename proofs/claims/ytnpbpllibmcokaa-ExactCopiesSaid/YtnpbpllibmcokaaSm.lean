/- The document's rows of 128 bits as numbers: the loops' plain facts. Conditions: none. -/
import Derived.Test.YtnpbpllibmcokaaRm
namespace Go.Eng
open Go Go.RowKit
theorem bit_of (l : BitVec 64) (k : Nat) : ((l >>> k) % 2#64 == 1#64) = l.getLsbD k := by
  rw [Bool.eq_iff_iff]
  simp only [beq_iff_eq, ← BitVec.toNat_inj, BitVec.toNat_umod, BitVec.toNat_ushiftRight, BitVec.getLsbD, Nat.testBit_eq_decide_div_mod_eq, Nat.shiftRight_eq_div_pow, decide_eq_true_eq]
  exact Iff.rfl
theorem shr_half (l : BitVec 64) (k : Nat) : (l >>> k) / 2#64 = l >>> (k + 1) := by
  apply BitVec.eq_of_toNat_eq
  simp only [BitVec.toNat_udiv, BitVec.toNat_ushiftRight, Nat.shiftRight_eq_div_pow]
  rw [show (2#64).toNat = 2 from rfl, Nat.div_div_eq_div_mul, Nat.pow_succ]
def ofP (h l : BitVec 64) (k j : Nat) : Bool := if j < 64 then decide (j < k) && l.getLsbD j else decide (j - 64 < k) && h.getLsbD (j - 64)
theorem ofP_zero (h l : BitVec 64) : rowF (fun _ => false) = rowF (ofP h l 0) := rowF_ext fun j _ => by simp [ofP]
theorem ofP_step (h l : BitVec 64) (k : Nat) (hk : k < 64) : rowF (upd (upd (ofP h l k) k (l.getLsbD k)) (k + 64) (h.getLsbD k)) = rowF (ofP h l (k + 1)) := rowF_ext fun j hj => by
  unfold upd ofP
  by_cases h1 : j = k + 64
  · subst h1
    rw [if_pos rfl, if_neg (by omega), show k + 64 - 64 = k from by omega]; simp
  · rw [if_neg h1]
    by_cases h2 : j = k
    · subst h2; simp [hk]
    · rw [if_neg h2]
      by_cases h3 : j < 64
      · rw [if_pos h3, if_pos h3]
        congr 1
        rw [decide_eq_decide]; omega
      · rw [if_neg h3, if_neg h3]
        congr 1
        rw [decide_eq_decide]; omega
theorem ofP_done (h l : BitVec 64) {k : Nat} (h1 : k ≤ 64) (h2 : ¬ (k : Int) < 64) : Value.agg (rowF (ofP h l k)) = .agg (rowA (h ++ l)) := by
  obtain rfl : k = 64 := by omega
  refine congrArg Value.agg (rowF_ext fun j hj => ?_)
  rw [BitVec.getLsbD_append]
  unfold ofP
  by_cases h3 : j < 64
  · rw [if_pos h3, decide_eq_true h3, Bool.true_and]; simp [h3]
  · have h4 : j - 64 < 64 := by omega
    rw [if_neg h3, decide_eq_true h4, Bool.true_and]; simp [h3]

/-- The bits below k. -/
def below (x : BitVec 128) (k j : Nat) : Bool := decide (j < k) && x.getLsbD j
theorem below_zero (x : BitVec 128) : rowF (fun _ => false) = rowF (below x 0) := rowF_ext fun j _ => by simp [below]
theorem below_step (x : BitVec 128) (k : Nat) {b : Bool} (hb : b = x.getLsbD k) : rowF (upd (below x k) k b) = rowF (below x (k + 1)) := rowF_ext fun j _ => by
  subst hb
  unfold upd below
  by_cases h : j = k
  · subst h; simp
  · rw [if_neg h]; congr 1; rw [decide_eq_decide]; omega
theorem below_done (x : BitVec 128) {k : Nat} (h1 : k ≤ 128) (h2 : ¬ (k : Int) < 128) : rowF (below x k) = rowA x := by
  obtain rfl : k = 128 := by omega
  exact rowF_ext fun j hj => by simp [below, hj]
theorem sum_bit (x y : BitVec 128) (c : Bool) (k : Nat) (hk : k < 128) : (x + y + cb128 c).getLsbD k = (x.getLsbD k ^^ (y.getLsbD k ^^ BitVec.carry k x y c)) := by
  have := BitVec.getLsbD_add_add_bool hk x y c
  rw [← this]
  congr 2
  cases c <;> rfl
theorem sum_carry (x y : BitVec 128) (c : Bool) (k : Nat) : BitVec.carry (k + 1) x y c = (if x.getLsbD k then (y.getLsbD k || BitVec.carry k x y c) else (y.getLsbD k && BitVec.carry k x y c)) := by
  rw [BitVec.carry_succ]
  cases x.getLsbD k <;> cases y.getLsbD k <;> cases BitVec.carry k x y c <;> rfl
theorem carry_done (x y : BitVec 128) (c : Bool) {k : Nat} (h1 : k ≤ 128) (h2 : ¬ (k : Int) < 128) : BitVec.carry k x y c = BitVec.carry 128 x y c := by
  obtain rfl : k = 128 := by omega
  rfl
theorem not_bit (x : BitVec 128) (k : Nat) (hk : k < 128) : (!(x.getLsbD k)) = (~~~x).getLsbD k := by
  rw [BitVec.getLsbD_not]; simp [hk]

/-! ### Order -/
theorem less_diff (x y : BitVec 128) (m : Nat) (h : ∀ j, m + 1 ≤ j → j < 128 → x.getLsbD j = y.getLsbD j) (hd : x.getLsbD m ≠ y.getLsbD m) : y.getLsbD m = decide (x < y) := by
  have hx := x.isLt
  have hy := y.isLt
  have hhi : x.toNat / 2 ^ (m + 1) = y.toNat / 2 ^ (m + 1) := by
    apply Nat.eq_of_testBit_eq
    intro i
    rw [← Nat.shiftRight_eq_div_pow, ← Nat.shiftRight_eq_div_pow, Nat.testBit_shiftRight, Nat.testBit_shiftRight]
    by_cases hi : m + 1 + i < 128
    · exact h _ (by omega) hi
    · rw [Nat.testBit_lt_two_pow (Nat.lt_of_lt_of_le hx (Nat.pow_le_pow_right (by decide) (by omega))), Nat.testBit_lt_two_pow (Nat.lt_of_lt_of_le hy (Nat.pow_le_pow_right (by decide) (by omega)))]
  have bx : x.getLsbD m = decide (x.toNat / 2 ^ m % 2 = 1) := by rw [BitVec.getLsbD, Nat.testBit_eq_decide_div_mod_eq]
  have by' : y.getLsbD m = decide (y.toNat / 2 ^ m % 2 = 1) := by rw [BitVec.getLsbD, Nat.testBit_eq_decide_div_mod_eq]
  rw [bx, by'] at hd
  rw [by', decide_eq_decide, BitVec.lt_def]
  rw [Nat.pow_succ, ← Nat.div_div_eq_div_mul, ← Nat.div_div_eq_div_mul] at hhi
  have ex := Nat.div_add_mod x.toNat (2 ^ m)
  have ey := Nat.div_add_mod y.toNat (2 ^ m)
  have lx := Nat.mod_lt x.toNat (Nat.two_pow_pos m)
  have ly := Nat.mod_lt y.toNat (Nat.two_pow_pos m)
  generalize x.toNat / 2 ^ m = a at *
  generalize y.toNat / 2 ^ m = b at *
  generalize x.toNat % 2 ^ m = p at *
  generalize y.toNat % 2 ^ m = q at *
  simp only [ne_eq, decide_eq_decide] at hd
  constructor
  · intro hb
    have hab : b = a + 1 := by omega
    subst hab
    rw [Nat.mul_add] at ey
    omega
  · intro hlt
    rcases Nat.lt_or_ge a b with hab | hab
    · omega
    · have h2 : a = b + 1 := by
        by_cases hc : a = b
        · subst hc; exact absurd Iff.rfl hd
        · omega
      subst h2
      rw [Nat.mul_add] at ex
      omega
theorem less_same (x y : BitVec 128) (h : ∀ j, j < 128 → x.getLsbD j = y.getLsbD j) : false = decide (x < y) := by
  have : x = y := BitVec.eq_of_getLsbD_eq h
  subst this
  simp
/-! ### Moves -/
def shiftI (x : BitVec 128) (n : Int) : BitVec 128 := if n ≥ 0 then x <<< n.toNat else x >>> (-n).toNat
def mvi (k : Nat) (n : Int) : Nat := ((k : Int) - n).toNat
def movP (x : BitVec 128) (n : Int) (k j : Nat) : Bool := decide (j < k) && (shiftI x n).getLsbD j
theorem movP_zero (x : BitVec 128) (n : Int) : rowF (fun _ => false) = rowF (movP x n 0) := rowF_ext fun j _ => by simp [movP]
theorem shiftI_bit (x : BitVec 128) (n : Int) (k : Nat) (hk : k < 128) : (shiftI x n).getLsbD k = (decide (0 ≤ (k : Int) - n) && (decide ((k : Int) - n < 128) && x.getLsbD (mvi k n))) := by
  unfold shiftI mvi
  by_cases hn : n ≥ 0
  · rw [if_pos hn, BitVec.getLsbD_shiftLeft]
    by_cases h1 : 0 ≤ (k : Int) - n
    · have h2 : ¬ k < n.toNat := by omega
      have h3 : (k : Int) - n < 128 := by omega
      have h4 : ((k : Int) - n).toNat = k - n.toNat := by omega
      rw [decide_eq_true h1, decide_eq_true h3, decide_eq_true hk, decide_eq_false h2, h4]; rfl
    · have h2 : k < n.toNat := by omega
      rw [decide_eq_false h1, decide_eq_true h2]; simp
  · rw [if_neg hn, BitVec.getLsbD_ushiftRight]
    have h1 : 0 ≤ (k : Int) - n := by omega
    have h4 : ((k : Int) - n).toNat = (-n).toNat + k := by omega
    rw [h4]
    by_cases h3 : (k : Int) - n < 128
    · rw [decide_eq_true h1, decide_eq_true h3]; rfl
    · rw [decide_eq_true h1, decide_eq_false h3, Bool.false_and, Bool.and_false]
      exact BitVec.getLsbD_of_ge _ _ (by omega)
theorem movP_step (x : BitVec 128) (n : Int) (k : Nat) (hk : k < 128) {b : Bool} (hb : b = (shiftI x n).getLsbD k) : rowF (upd (movP x n k) k b) = rowF (movP x n (k + 1)) := rowF_ext fun j _ => by
  subst hb
  unfold upd movP
  by_cases h : j = k
  · subst h; simp
  · rw [if_neg h]; congr 1; rw [decide_eq_decide]; omega
theorem movP_skip (x : BitVec 128) (n : Int) (k : Nat) (hk : k < 128) (hb : (shiftI x n).getLsbD k = false) : rowF (movP x n k) = rowF (movP x n (k + 1)) := rowF_ext fun j _ => by
  unfold movP
  by_cases h : j = k
  · subst h; simp [hb]
  · congr 1; rw [decide_eq_decide]; omega
theorem movP_done (x : BitVec 128) (n : Int) {k : Nat} (h1 : k ≤ 128) (h2 : ¬ (k : Int) < 128) : rowF (movP x n k) = rowA (shiftI x n) := by
  obtain rfl : k = 128 := by omega
  exact rowF_ext fun j hj => by simp [movP, hj]
theorem mov_in (x : BitVec 128) (n : Int) (k : Nat) (hk : k < 128) (h1 : (k : Int) - n ≥ 0) (h2 : (k : Int) - n < 128) : x.getLsbD (mvi k n) = (shiftI x n).getLsbD k := by
  rw [shiftI_bit x n k hk, decide_eq_true (show 0 ≤ (k : Int) - n from h1), decide_eq_true h2]; rfl
theorem mov_out (x : BitVec 128) (n : Int) (k : Nat) (hk : k < 128) (h : ¬ (n > -128 ∧ n < 128 ∧ (k : Int) - n ≥ 0 ∧ (k : Int) - n < 128)) : (shiftI x n).getLsbD k = false := by
  rw [shiftI_bit x n k hk]
  by_cases h1 : 0 ≤ (k : Int) - n
  · by_cases h2 : (k : Int) - n < 128
    · exfalso; omega
    · rw [decide_eq_false h2]; simp
  · rw [decide_eq_false h1]; simp

theorem adds_back (x y : BitVec 128) : (x + y - y == x) = true := by rw [BitVec.add_sub_cancel]; exact beq_self_eq_true _
theorem adds_over (x y : BitVec 128) : (decide (x + y < y) == BitVec.carry 128 x y false) = true := by
  have h1 := x.isLt
  have h2 := y.isLt
  rw [carry_iff, beq_iff_eq, decide_eq_decide, BitVec.lt_def, BitVec.toNat_add, Bool.toNat_false]
  omega
end Go.Eng
