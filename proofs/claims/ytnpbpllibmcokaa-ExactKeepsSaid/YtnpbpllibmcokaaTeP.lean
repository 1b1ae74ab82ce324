/- What the document's digits are. Conditions: none. -/
import Derived.Test.YtnpbpllibmcokaaText
namespace Go.Proofs.Ytnpbpllibmcokaa
open Go Go.RowKit Go.Eng
theorem len_pos (x : BitVec 128) : (((len128 x : Nat) : Int) > 0) ↔ x ≠ 0#128 := by
  obtain ⟨a, b, _⟩ := len128_spec x
  constructor
  · intro h e
    have := b (by omega)
    rw [e] at this
    have h2 : 0 < 2 ^ (len128 (0#128) - 1) := Nat.two_pow_pos _
    simp at this
  · intro h
    have h0 : x.toNat ≠ 0 := fun e => h (BitVec.eq_of_toNat_eq (by simpa using e))
    by_cases h1 : len128 x = 0
    · rw [h1] at a; simp at a; exact absurd a h0
    · omega
end Go.Proofs.Ytnpbpllibmcokaa
