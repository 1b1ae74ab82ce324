/- The document's rows of 128 bits as numbers: the loops' plain facts. Conditions: none. -/
import Derived.Test.YtdgejbbelmhbdaaRm
namespace Go.Eng
open Go Go.RowKit
theorem bit_of (l : BitVec 64) (k : Nat) : ((l >>> k) % 2#64 == 1#64) = l.getLsbD k := by
  rw [Bool.eq_iff_iff]
  simp only [beq_iff_eq, ← BitVec.toNat_inj, BitVec.toNat_umod, BitVec.toNat_ushiftRight, BitVec.getLsbD, Nat.testBit_eq_decide_div_mod_eq, Nat.shiftRight_eq_div_pow, decide_eq_true_eq]
  exact Iff.rfl
theorem shr_half (l : BitVec 64) (k : Nat) : (l >>> k) / 2#64 = l >>> (k + 1) := by
  apply BitVec.eq_of_toNat_eq
  simp only [BitVec.toNat_udiv, BitVec.toNat_ushiftRight, Nat.shiftRight_eq_div_pow]
  rw [show (2#64).toNat = 2 from rfl, Nat.div_div_eq_div_mul, Nat.pow_succ]
def ofP (h l : BitVec 64) (k j : Nat) : Bool := if j < 64 then decide (j < k) && l.getLsbD j else decide (j - 64 < k) && h.getLsbD (j - 64)
theorem ofP_zero (h l : BitVec 64) : rowF (fun _ => false) = rowF (ofP h l 0) := rowF_ext fun j _ => by simp [ofP]
theorem ofP_step (h l : BitVec 64) (k : Nat) (hk : k < 64) : rowF (upd (upd (ofP h l k) k (l.getLsbD k)) (k + 64) (h.getLsbD k)) = rowF (ofP h l (k + 1)) := rowF_ext fun j hj => by
  unfold upd ofP
  by_cases h1 : j = k + 64
  · subst h1
    rw [if_pos rfl, if_neg (by omega), show k + 64 - 64 = k from by omega]; simp
  · rw [if_neg h1]
    by_cases h2 : j = k
    · subst h2; simp [hk]
    · rw [if_neg h2]
      by_cases h3 : j < 64
      · rw [if_pos h3, if_pos h3]
        congr 1
        rw [decide_eq_decide]; omega
      · rw [if_neg h3, if_neg h3]
        congr 1
        rw [decide_eq_decide]; omega
theorem ofP_done (h l : BitVec 64) {k : Nat} (h1 : k ≤ 64) (h2 : ¬ (k : Int) < 64) : Value.agg (rowF (ofP h l k)) = .agg (rowA (h ++ l)) := by
  obtain rfl : k = 64 := by omega
  refine congrArg Value.agg (rowF_ext fun j hj => ?_)
  rw [BitVec.getLsbD_append]
  unfold ofP
  by_cases h3 : j < 64
  · rw [if_pos h3, decide_eq_true h3, Bool.true_and]; simp [h3]
  · have h4 : j - 64 < 64 := by omega
    rw [if_neg h3, decide_eq_true h4, Bool.true_and]; simp [h3]
/-- The bits below k. -/
def below (x : BitVec 128) (k j : Nat) : Bool := decide (j < k) && x.getLsbD j
def shiftI (x : BitVec 128) (n : Int) : BitVec 128 := if n ≥ 0 then x <<< n.toNat else x >>> (-n).toNat
end Go.Eng
