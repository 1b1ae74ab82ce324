/- SumFixes: the model answers true. Conditions: none. -/
import Derived.Test.YtolfjcihohjknaaSQ
import Derived.Test.YtolfjcihohjknaaLSumFixes
namespace Go.Proofs.Ytolfjcihohjknaa
open Go Go.RowKit Go.Eng
theorem put2_at (b : List UInt8) (a : Nat) (x y : UInt8) (h : a + 1 < b.length) : (put2 b a x y)[a]! = x ∧ (put2 b a x y)[a + 1]! = y ∧ ∀ k, k ≠ a → k ≠ a + 1 → (put2 b a x y)[k]! = b[k]! := by
  unfold put2
  simp only [List.getElem!_eq_getElem?_getD]
  refine ⟨?_, ?_, fun k h1 h2 => ?_⟩
  · rw [List.getElem?_set_ne (by omega), List.getElem?_set_self (by omega)]; rfl
  · rw [List.getElem?_set_self (by rw [List.length_set]; exact h)]; rfl
  · rw [List.getElem?_set_ne (by omega), List.getElem?_set_ne (by omega)]
theorem fixed_right (b : List UInt8) (a : Nat) (h : a + 1 < b.length) (he : a % 2 = 0) (x y : UInt8) (hx : x.toNat = (csum (put2 b a 0 0)).toNat / 256) (hy : y.toNat = (csum (put2 b a 0 0)).toNat % 256) : (csum (put2 b a x y)).toNat = 0 := by
  have h1 := psum_two b a x y h he
  have h2 := psum_two b a 0 0 h he
  have h3 := csum_n (put2 b a 0 0)
  have h4 : psum true (put2 b a x y) = psum true (put2 b a 0 0) + (65535 - foldN (psum true (put2 b a 0 0))) := by
    have e0 : (0 : UInt8).toNat = 0 := rfl
    rw [e0] at h2
    unfold put2 at *; omega
  have h5 := foldN_mod (psum true (put2 b a 0 0))
  have h6 := foldN_le (psum true (put2 b a 0 0))
  have h7 := @foldN_zero (psum true (put2 b a 0 0))
  rw [csum_n, h4, foldN_all' (by omega) (by omega)]
theorem fixes_loop (N : Nat) (hN : 4000 < N) (b : List UInt8) (hb : b.length ≤ 2000) (a : Nat) (ha : a + 1 < b.length) (x y : UInt8) (s : UInt16) (hx : x.toNat = s.toNat / 256) (hy : y.toNat = s.toNat % 256) : ∀ (k f i : Nat), i + k = b.length → k < f →
    shunterlaw04_SumFixes_l3 N b (a : Int) (s, true) (put2 b a x y, true) f (i : Int) = some true := by
  have hl := lives4_s N (by omega)
  obtain ⟨p1, p2, p3⟩ := put2_at b a x y ha
  have hlen := put2_len b a x y
  have e2 : ((a : Int) + 1).toNat = a + 1 := by omega
  intro k
  induction k with
  | zero =>
    intro f i hi hf
    obtain ⟨f, rfl⟩ : ∃ n, f = n + 1 := ⟨f - 1, by omega⟩
    have hs := s.toNat_lt
    rw [shunterlaw04_SumFixes_l3, if_neg (by omega)]
    simp only [e2, Int.toNat_natCast, p1, p2, hlen]
    rw [ck_pos _ (by omega), ck_pos _ (by omega), if_pos (by omega), ck_pos _ (by omega), ck_pos _ (by omega), ck_pos _ (by omega), if_pos (by omega), hl]; rfl
  | succ k ih =>
    intro f i hi hf
    obtain ⟨f, rfl⟩ : ∃ n, f = n + 1 := ⟨f - 1, by omega⟩
    have e1 : (i : Int) + 1 = ((i + 1 : Nat) : Int) := by omega
    have go := ih f (i + 1) (by omega) (by omega)
    rw [shunterlaw04_SumFixes_l3, if_pos (by omega)]
    by_cases h1 : (i : Int) ≠ (a : Int)
    · rw [if_pos h1, ck_pos _ (by omega)]
      by_cases h2 : (i : Int) ≠ (a : Int) + 1
      · simp only [Int.toNat_natCast, hlen, p3 i (by omega) (by omega)]
        rw [if_pos h2, ck_pos _ (by omega), ck_pos _ (by omega), if_neg (by simp), ck_pos _ (by omega), e1, go]
      · rw [if_neg h2, ck_pos _ (by omega), e1, go]
    · rw [if_neg h1, ck_pos _ (by omega), e1, go]
theorem fixes_s (N : Nat) (hN : 4000 < N) (b : List UInt8) (at' : Int) (h63 : at' ≤ 9223372036854775807) : shunterlaw04_SumFixes_m N b at' = some true := by
  have hl := lives4_s N (by omega)
  unfold shunterlaw04_SumFixes_m
  by_cases h : (b.length : Int) > 2000
  · rw [if_pos h, hl]; rfl
  obtain ⟨x, y, hf, hxy⟩ := fix_s N b (by omega) (by omega) at' h63
  rw [if_neg h, without_s N b (by omega) (by omega) at' h63, Option.bind_some, hf, Option.bind_some, place_s N b (by omega) at' h63, Option.bind_some]
  by_cases hp : placeB b at' = true
  · simp only [if_pos hp]
    obtain ⟨h1, h2, h3⟩ := placeB_t hp
    obtain ⟨a, rfl⟩ : ∃ n : Nat, at' = (n : Int) := ⟨at'.toNat, by omega⟩
    rw [Int.toNat_natCast] at hxy ⊢
    obtain ⟨hx, hy⟩ := hxy hp
    rw [if_pos trivial, if_pos trivial, refwithout_s N b (by omega) (by omega) _ hp, Option.bind_some, Int.toNat_natCast, if_neg (by simp), if_neg (by rw [put2_len]; simp), right_s N _ (by rw [put2_len]; omega) (by rw [put2_len]; omega), Option.bind_some,
      fixed_right b a (by omega) (by omega) x y hx hy, if_pos (by decide)]
    exact fixes_loop N hN b (by omega) a (by omega) x y _ hx hy b.length N 0 (by omega) (by omega)
  · simp only [if_neg hp]
    rw [if_pos (by decide), if_neg (by decide), if_pos (by decide), if_neg (by decide), hl]; rfl
end Go.Proofs.Ytolfjcihohjknaa
