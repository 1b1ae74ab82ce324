/- Words of 128 bits, moved: plain facts on bits. Conditions: none. -/
import Derived.Test.YtmdjifehblijkaaDoorTm
import Derived.Test.YtmdjifehblijkaaDoorSm
namespace Go.Eng
theorem shiftI_pos {x : BitVec 128} {n : Int} (h : ¬ n < 0) : x <<< n.toNat = shiftI x n := by unfold shiftI; rw [if_pos (by omega)]
def len128 (x : BitVec 128) : Nat := if hi x = 0#64 then Lib.bitLen (lo x).toNat else 64 + Lib.bitLen (hi x).toNat
section
open Go Go.RowKit
variable {P : Program} {c : Addr → Option Value} {ρ : Operand → Value} {d : Option Tmp} {a b : Operand} {ts : Array TypeId} {ty : TypeId} {pos : String} {af : Array Edge} {g : Option (Nat × Bool)} {k : IntKind} {x y : Int}
end
theorem len128_spec (x : BitVec 128) : x.toNat < 2 ^ len128 x ∧ (len128 x ≠ 0 → 2 ^ (len128 x - 1) ≤ x.toNat) ∧ len128 x ≤ 128 := by
  have hx := x.isLt
  unfold len128
  by_cases h : hi x = 0#64
  · rw [if_pos h]
    have h0 : x.toNat / 2 ^ 64 = 0 := by rw [← hi_toNat, h]; rfl
    have e : (lo x).toNat = x.toNat := by rw [lo_toNat]; omega
    have hb := bl_spec (lo x).toNat (lo x).isLt
    rw [e] at hb ⊢
    refine ⟨hb.1, fun hn => ?_, by omega⟩
    by_cases hz : x.toNat = 0
    · rw [hz] at hn; exact absurd rfl hn
    · exact (hb.2.1 hz).2
  · rw [if_neg h]
    have hb := bl_spec (hi x).toNat (hi x).isLt
    have hz : (hi x).toNat ≠ 0 := fun e => h (BitVec.eq_of_toNat_eq e)
    obtain ⟨h1, h2, h3⟩ := hb
    obtain ⟨h4, h5⟩ := h2 hz
    rw [hi_toNat] at h1 h4 h5 h3 ⊢
    refine ⟨?_, fun _ => ?_, by omega⟩
    · have := (Nat.div_lt_iff_lt_mul (by decide)).1 h1
      rw [Nat.pow_add, Nat.mul_comm]; exact this
    · rw [show 64 + Lib.bitLen (x.toNat / 2 ^ 64) - 1 = (Lib.bitLen (x.toNat / 2 ^ 64) - 1) + 64 from by omega, Nat.pow_add]
      exact (Nat.le_div_iff_mul_le (by decide)).1 h5
theorem len128_is {x : BitVec 128} {m : Nat} (h1 : x.getLsbD m = true) (h2 : ∀ j, m + 1 ≤ j → j < 128 → x.getLsbD j = false) : m + 1 = len128 x := by
  obtain ⟨a, b, _⟩ := len128_spec x
  have hlo : 2 ^ m ≤ x.toNat := Nat.ge_two_pow_of_testBit h1
  have hhi : x.toNat < 2 ^ (m + 1) := Nat.lt_pow_two_of_testBit _ (fun i hi => by
    by_cases h : i < 128
    · exact h2 i hi h
    · exact BitVec.getLsbD_of_ge _ _ (by omega))
  have c1 : m < len128 x := (Nat.pow_lt_pow_iff_right (a := 2) (by decide)).1 (Nat.lt_of_le_of_lt hlo a)
  have c2 : len128 x - 1 < m + 1 := (Nat.pow_lt_pow_iff_right (a := 2) (by decide)).1 (Nat.lt_of_le_of_lt (b (by omega)) hhi)
  omega
theorem len128_none {x : BitVec 128} (h : ∀ j, j < 128 → x.getLsbD j = false) : 0 = len128 x := by
  have : x = 0#128 := BitVec.eq_of_getLsbD_eq (fun i hi => by rw [h i hi]; simp)
  subst this; decide +kernel
end Go.Eng
