/- SumPatches: the model answers true. Conditions: none. -/
import Derived.Test.YtolfjcihohjknaaSQ
import Derived.Test.YtolfjcihohjknaaLSumPatches
namespace Go.Proofs.Ytolfjcihohjknaa
open Go Go.RowKit Go.Eng
theorem patched (b : List UInt8) (a : Nat) (h : a + 1 < b.length) (he : a % 2 = 0) (x y : UInt8) (o n : Nat) (ho : o = 256 * (b[a]!).toNat + (b[a + 1]!).toNat) (hn : n = 256 * x.toNat + y.toNat) (hz : psum true (put2 b a x y) ≠ 0) :
    65535 - foldN ((65535 - (csum b).toNat) + (65535 - o) + n) = (csum (put2 b a x y)).toNat := by
  have h1 := psum_two b a x y h he
  have h2 := foldN_le (psum true b)
  have h3 := foldN_mod (psum true b)
  have h4 := @foldN_zero (psum true b)
  have hb := (b[a]!).toNat_lt; have hb' := (b[a + 1]!).toNat_lt
  rw [csum_n, csum_n]
  congr 1
  unfold put2 at hz ⊢
  exact foldN_eq (by omega) (by omega)
theorem patches_loop (N : Nat) (hN : 4000 < N) (b c : List UInt8) (hc : c.length ≤ 2000) (i : Int) (fresh r : UInt16) (hc' : ((([] : List UInt8) ++ b).set ((2 * i).toNat) (byteI (((sr16 fresh ((8#64).toNat : Int).toNat).toNat : Nat) : Int))).set ((2 * i + 1).toNat) (byteI ((fresh.toNat : Nat) : Int)) = c)
    (hr : psum true c ≠ 0 → r.toNat = (csum c).toNat) : ∀ (k f j : Nat) (some' : Bool), j + k = c.length → k < f → (some' = true → psum true c ≠ 0) →
    shunterlaw04_SumPatches_l4 N b i fresh r f some' (j : Int) = some true := by
  have hl := lives4_s N (by omega)
  intro k
  induction k with
  | zero =>
    intro f j some' hi hf hs
    obtain ⟨f, rfl⟩ : ∃ n, f = n + 1 := ⟨f - 1, by omega⟩
    rw [shunterlaw04_SumPatches_l4, hc', if_neg (by omega)]
    by_cases h : some' = true
    · rw [if_pos h, of_s N c (by omega) (by omega), Option.bind_some, if_pos (by rw [hr (hs h)]), hl]; rfl
    · rw [if_neg h, hl]; rfl
  | succ k ih =>
    intro f j some' hi hf hs
    obtain ⟨f, rfl⟩ : ∃ n, f = n + 1 := ⟨f - 1, by omega⟩
    have e1 : (j : Int) + 1 = ((j + 1 : Nat) : Int) := by omega
    rw [shunterlaw04_SumPatches_l4, hc', if_pos (by omega)]
    by_cases h : some' = true
    · rw [if_pos h, ck_pos _ (by omega), e1]
      exact ih f (j + 1) true (by omega) (by omega) (fun _ => hs h)
    · rw [if_neg h, ck_pos _ (by omega), ck_pos _ (by omega), e1, Int.toNat_natCast]
      refine ih f (j + 1) _ (by omega) (by omega) (fun h' h0 => ?_)
      have := (psum_zero true c).mp h0 j (by omega)
      rw [this] at h'
      exact absurd h' (by decide)
theorem patches_s (N : Nat) (hN : 4000 < N) (b : List UInt8) (i : Int) (fresh : UInt16) : shunterlaw04_SumPatches_m N b i fresh = some true := by
  have hl := lives4_s N (by omega)
  unfold shunterlaw04_SumPatches_m
  by_cases h : (b.length : Int) > 2000
  · rw [if_pos h, hl]; rfl
  rw [if_neg h]
  by_cases h1 : i < 0
  · rw [if_pos h1, hl]; rfl
  rw [if_neg h1, ck_pos _ (by omega)]
  by_cases h3 : i ≥ (b.length : Int) / 2
  · rw [if_pos h3, hl]; rfl
  rw [if_neg h3]
  obtain ⟨I, rfl⟩ : ∃ n : Nat, i = (n : Int) := ⟨i.toNat, by omega⟩
  have e1 : (2 * (I : Int)).toNat = 2 * I := by omega
  have e3 : (2 * (I : Int) + 1).toNat = 2 * I + 1 := by omega
  have e8 : (((8#64).toNat : Nat) : Int).toNat = 8 := rfl
  have hj := join16 (b[2 * I]!) (b[2 * I + 1]!)
  have hb1 := (b[2 * I]!).toNat_lt; have hb2 := (b[2 * I + 1]!).toNat_lt
  have hfr := fresh.toNat_lt
  obtain ⟨hx, hy⟩ := split16 fresh
  have hcn := csum_n b
  have hfl := foldN_le (psum true b)
  unfold shunterlaw04_SumPatches_k1
  rw [ck_pos _ (by omega), ck_pos _ (by omega), ck_pos _ (by decide), ck_pos _ (by omega), ck_pos _ (by omega), ck_pos _ (by omega), of_s N b (by omega) (by omega), Option.bind_some]
  rw [e1, e3, e8]
  generalize hO : (sl16 (int16 (((b[2 * I]!).toNat : Nat) : Int)) 8 ||| int16 (((b[2 * I + 1]!).toNat : Nat) : Int)) = O at hj ⊢
  obtain ⟨z, hz, hzn⟩ := patch_s N (csum b) O fresh
  have hO' := O.toNat_lt
  have htot := total_s N [(65535 - (((csum b).toNat : Nat) : Int)), (65535 - ((O.toNat : Nat) : Int)), ((fresh.toNat : Nat) : Int)] (by simp) (by simp only [List.length_cons, List.length_nil]; omega) (by
    intro x hx
    simp only [List.mem_cons, List.not_mem_nil, or_false] at hx
    omega)
  have hsum : ([(65535 - (((csum b).toNat : Nat) : Int)), (65535 - ((O.toNat : Nat) : Int)), ((fresh.toNat : Nat) : Int)] : List Int).sum.toNat = (65535 - (csum b).toNat) + (65535 - O.toNat) + fresh.toNat := by
    simp only [List.sum_cons, List.sum_nil]; omega
  have hfl2 := foldN_le ((65535 - (csum b).toNat) + (65535 - O.toNat) + fresh.toNat)
  rw [hsum] at htot
  rw [hz, Option.bind_some, ck_pos _ (by omega), ck_pos _ (by omega), htot, Option.bind_some, ck_pos _ (by omega), if_neg (by omega)]
  rw [ck_pos _ (by simp only [List.length_nil]; omega), ck_pos _ (by omega), ck_pos _ (by decide), ck_pos _ (by rw [List.nil_append]; omega), ck_pos _ (by omega), ck_pos _ (by omega), ck_pos _ (by rw [List.length_set, List.nil_append]; omega)]
  refine patches_loop N hN b (put2 b (2 * I) (byteI (((sr16 fresh 8).toNat : Nat) : Int)) (byteI ((fresh.toNat : Nat) : Int))) (by rw [put2_len]; omega) (I : Int) fresh z (by rw [e1, e3, e8]; rfl) (fun h0 => ?_) _ N 0 false (by rw [Nat.zero_add]) (by rw [put2_len]; omega) (fun h => (nomatch h))
  rw [hzn]
  exact patched b (2 * I) (by omega) (by omega) _ _ _ _ hj (by rw [hx, hy]; omega) h0
end Go.Proofs.Ytolfjcihohjknaa
