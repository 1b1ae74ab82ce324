/- The reference's halves of a row. Conditions: none. -/
import Derived.Test.YtnpbpllibmcokaaParse
namespace Go.Proofs.Ytnpbpllibmcokaa
open Go Go.RowKit Go.Eng
theorem halves_loop (x : BitVec 128) : ∀ (i f : Nat) (h l : BitVec 64), i ≤ 64 → i < f → h.toNat = (hi x).toNat / 2 ^ i → l.toNat = (lo x).toNat / 2 ^ i →
    shunterref01_Halves_l4 x f h l ((i : Int) - 1) = some (hi x, lo x) := by
  intro i
  induction i with
  | zero =>
    intro f h l _ hf hh hl
    obtain ⟨f, rfl⟩ : ∃ k, f = k + 1 := ⟨f - 1, by omega⟩
    rw [shunterref01_Halves_l4, if_neg (by omega)]
    have e1 : h = hi x := BitVec.eq_of_toNat_eq (by simpa using hh)
    have e2 : l = lo x := BitVec.eq_of_toNat_eq (by simpa using hl)
    rw [e1, e2]
  | succ i ih =>
    intro f h l hi64 hf hh hl
    obtain ⟨f, rfl⟩ : ∃ k, f = k + 1 := ⟨f - 1, by omega⟩
    have ei : ((i + 1 : Nat) : Int) - 1 = (i : Int) := by omega
    rw [ei, shunterref01_Halves_l4, if_pos (by omega), ck_pos _ (by omega), ck_pos _ (by omega)]
    have en : ((i : Int) + 64).toNat = 64 + i := by omega
    have bh : x.getLsbD (64 + i) = (hi x).getLsbD i := by unfold hi; rw [BitVec.getLsbD_extractLsb']; simp; intro; omega
    have bl : x.getLsbD i = (lo x).getLsbD i := by unfold lo; rw [BitVec.getLsbD_extractLsb']; simp; intro; omega
    have step : ∀ (y z : BitVec 64), z.toNat = y.toNat / 2 ^ (i + 1) → (2#64 * z + (if y.getLsbD i then 1#64 else 0#64)).toNat = y.toNat / 2 ^ i := by
      intro y z hz
      have h1 : y.getLsbD i = decide (y.toNat / 2 ^ i % 2 = 1) := by rw [← BitVec.testBit_toNat, Nat.testBit_eq_decide_div_mod_eq]
      have h2 : y.toNat / 2 ^ (i + 1) = y.toNat / 2 ^ i / 2 := by rw [Nat.pow_succ, Nat.div_div_eq_div_mul]
      have h3 : y.toNat / 2 ^ i ≤ y.toNat := Nat.div_le_self _ _
      have h4 := y.isLt
      rw [BitVec.toNat_add, BitVec.toNat_mul, hz, h2, h1]
      generalize y.toNat / 2 ^ i = q at *
      by_cases hq : q % 2 = 1
      · simp [hq]; omega
      · simp [hq]; omega
    have sh := step _ _ hh
    have sl := step _ _ hl
    rw [en, bh]
    have fin : ∀ h' : BitVec 64, h'.toNat = (hi x).toNat / 2 ^ i → shunterref01_Halves_k6 x l (i : Int) (shunterref01_Halves_l4 x f) h' = some (hi x, lo x) := by
      intro h' hh'
      unfold shunterref01_Halves_k6
      rw [ck_pos _ (by omega), Int.toNat_natCast, bl]
      cases hb : (lo x).getLsbD i
      · rw [if_neg (by decide), ck_pos _ (by omega)]
        rw [hb] at sl
        exact ih f h' (2#64 * l) (by omega) (by omega) hh' (by simpa using sl)
      · rw [if_pos rfl, ck_pos _ (by omega)]
        rw [hb] at sl
        exact ih f h' (2#64 * l + 1#64) (by omega) (by omega) hh' (by simpa using sl)
    cases hb : (hi x).getLsbD i
    · rw [if_neg (by decide)]; rw [hb] at sh; exact fin _ (by simpa using sh)
    · rw [if_pos rfl]; rw [hb] at sh; exact fin _ (by simpa using sh)
theorem halves_s (N : Nat) (x : BitVec 128) (hN : 64 < N) : shunterref01_Halves_m N x = some (hi x, lo x) := by
  unfold shunterref01_Halves_m
  have := halves_loop x 64 N 0#64 0#64 (by omega) hN (by
    have := (hi x).isLt
    rw [Nat.div_eq_of_lt this]; rfl) (by
    have := (lo x).isLt
    rw [Nat.div_eq_of_lt this]; rfl)
  exact this
end Go.Proofs.Ytnpbpllibmcokaa
