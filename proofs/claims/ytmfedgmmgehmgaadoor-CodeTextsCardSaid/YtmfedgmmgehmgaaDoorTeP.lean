/- What the document's digits are. Conditions: none. -/
import Derived.Test.YtmfedgmmgehmgaaDoorText
namespace Go.Proofs.YtmfedgmmgehmgaaDoor
open Go Go.RowKit Go.Eng
theorem len_pos (x : BitVec 128) : (((len128 x : Nat) : Int) > 0) ↔ x ≠ 0#128 := by
  obtain ⟨a, b, _⟩ := len128_spec x
  constructor
  · intro h e
    have := b (by omega)
    rw [e] at this
    have h2 : 0 < 2 ^ (len128 (0#128) - 1) := Nat.two_pow_pos _
    simp at this
  · intro h
    have h0 : x.toNat ≠ 0 := fun e => h (BitVec.eq_of_toNat_eq (by simpa using e))
    by_cases h1 : len128 x = 0
    · rw [h1] at a; simp at a; exact absurd a h0
    · omega
theorem hex_at : ∀ d : Nat, d < 16 → (([48, 49, 50, 51, 52, 53, 54, 55, 56, 57, 97, 98, 99, 100, 101, 102] : List UInt8).take (((d + 1 : Nat) : Int)).toNat).drop ((d : Nat) : Int).toNat = [dch d] := by decide
theorem rtext_loop (b : Nat) (h1 : 2 ≤ b) (h2 : b ≤ 16) : ∀ (k f : Nat) (y : BitVec 128) (S : List UInt8), k < f → 1 ≤ k → y.toNat < 2 ^ k → S.length + k ≤ 4000 → (y ≠ 0#128 ∨ S = []) →
    shunterref01_Text_l3 (b : Int) f S y = some (textL b k y.toNat ++ S) := by
  intro k
  induction k with
  | zero => intro f y S _ h; omega
  | succ k ih =>
    intro f y S hf _ hy hS hent
    obtain ⟨f, rfl⟩ : ∃ j, f = j + 1 := ⟨f - 1, by omega⟩
    have hB : zx (BitVec.ofInt 64 (b : Int)) = BitVec.ofNat 128 b := smalln b (by omega)
    have hbn : (BitVec.ofNat 128 b).toNat = b := by rw [BitVec.toNat_ofNat, Nat.mod_eq_of_lt (by omega)]
    have hb0 : BitVec.ofNat 128 b ≠ 0#128 := by intro h; rw [h] at hbn; simp at hbn; omega
    have hlt : y.toNat % b < b := Nat.mod_lt _ (by omega)
    have hlo : (lo (y % BitVec.ofNat 128 b)).toNat = y.toNat % b := by rw [lo_toNat, BitVec.toNat_umod, hbn, Nat.mod_eq_of_lt]; omega
    have hlo1 : (lo (y % BitVec.ofNat 128 b) + 1#64).toNat = y.toNat % b + 1 := by rw [BitVec.toNat_add, hlo]; show (y.toNat % b + 1) % 2 ^ 64 = _; rw [Nat.mod_eq_of_lt]; omega
    have hdiv : (y / BitVec.ofNat 128 b).toNat = y.toNat / b := by rw [BitVec.toNat_udiv, hbn]
    have hx := hex_at (y.toNat % b) (by omega)
    have body : ck (zx (BitVec.ofInt 64 (b : Int)) ≠ 0#128) (ck (0 ≤ (((lo (y % (zx (BitVec.ofInt 64 (b : Int))))).toNat : Nat) : Int) ∧ (((lo (y % (zx (BitVec.ofInt 64 (b : Int))))).toNat : Nat) : Int) ≤ ((((lo (y % (zx (BitVec.ofInt 64 (b : Int)))) + 1#64)).toNat : Nat) : Int) ∧ ((((lo (y % (zx (BitVec.ofInt 64 (b : Int)))) + 1#64)).toNat : Nat) : Int) ≤ ((([48, 49, 50, 51, 52, 53, 54, 55, 56, 57, 97, 98, 99, 100, 101, 102] : List UInt8)).length : Int))
        (ck (((((([48, 49, 50, 51, 52, 53, 54, 55, 56, 57, 97, 98, 99, 100, 101, 102] : List UInt8)).take (((((lo (y % (zx (BitVec.ofInt 64 (b : Int)))) + 1#64)).toNat : Nat) : Int)).toNat).drop ((((lo (y % (zx (BitVec.ofInt 64 (b : Int))))).toNat : Nat) : Int)).toNat).length : Int) + (S.length : Int) ≤ 9223372036854775807)
        ((shunterref01_Text_l3 (b : Int) f) ((((([48, 49, 50, 51, 52, 53, 54, 55, 56, 57, 97, 98, 99, 100, 101, 102] : List UInt8)).take (((((lo (y % (zx (BitVec.ofInt 64 (b : Int)))) + 1#64)).toNat : Nat) : Int)).toNat).drop ((((lo (y % (zx (BitVec.ofInt 64 (b : Int))))).toNat : Nat) : Int)).toNat) ++ S) (y / (zx (BitVec.ofInt 64 (b : Int))))))) =
        some (textL b (k + 1) y.toNat ++ S) := by
      rw [hB, ck_pos _ hb0, hlo, hlo1, ck_pos _ (by simp; omega), hx, ck_pos _ (by simp; omega)]
      rw [textL]
      by_cases hz : y.toNat / b = 0
      · rw [if_pos hz]
        obtain ⟨f, rfl⟩ : ∃ j, f = j + 1 := ⟨f - 1, by omega⟩
        have h0 : y / BitVec.ofNat 128 b = 0#128 := BitVec.eq_of_toNat_eq (by rw [hdiv, hz]; rfl)
        rw [shunterref01_Text_l3, h0, if_neg (by rw [len_pos]; simp), if_neg (by simp)]
      · rw [if_neg hz]
        have h0 : y / BitVec.ofNat 128 b ≠ 0#128 := by intro h; apply hz; rw [← hdiv, h]; rfl
        have hlt2 : y.toNat / b < 2 ^ k := by
          rw [Nat.div_lt_iff_lt_mul (by omega)]
          calc y.toNat < 2 ^ (k + 1) := hy
            _ = 2 ^ k * 2 := Nat.pow_succ ..
            _ ≤ 2 ^ k * b := Nat.mul_le_mul_left _ h1
        have hk : 1 ≤ k := by
          rcases Nat.eq_zero_or_pos k with h | h
          · rw [h, Nat.pow_zero] at hlt2; omega
          · exact h
        rw [ih f _ _ (by omega) hk (by rw [hdiv]; exact hlt2) (by simp; omega) (.inl h0), hdiv]
        simp
    rw [shunterref01_Text_l3]
    split
    · exact body
    · rename_i hz
      rw [len_pos] at hz
      rw [if_pos (hent.resolve_left hz)]
      exact body
theorem rtext_s (N : Nat) (hN : 128 < N) (x : BitVec 128) (b : Int) (hb : 2 ≤ b ∧ b ≤ 16) : shunterref01_Text_m N x b = some (textI b x) := by
  unfold shunterref01_Text_m textI
  rw [if_pos hb]
  have := rtext_loop b.toNat (by omega) (by omega) 128 N x [] hN (by omega) x.isLt (by simp) (.inr rfl)
  rw [show ((b.toNat : Nat) : Int) = b from by omega, List.append_nil] at this
  exact this
theorem rtext_t (x : BitVec 128) (b : Int) (hb : 2 ≤ b ∧ b ≤ 16) : Gives Tryd.prog 45 #[Value.agg (rowF (BitVec.getLsbD (x))), Value.int .i64 b] (Value.string (⟨(textI b x).toArray⟩)) := shunterref01_Text_g 129 x b _ (rtext_s 129 (by omega) x b hb)
end Go.Proofs.YtmfedgmmgehmgaaDoor
