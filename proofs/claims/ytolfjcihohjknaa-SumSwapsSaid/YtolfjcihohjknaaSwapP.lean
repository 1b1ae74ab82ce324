/- SumSwaps: the model answers true. Conditions: none. -/
import Derived.Test.YtolfjcihohjknaaSQ
import Derived.Test.YtolfjcihohjknaaLSumSwaps
namespace Go.Proofs.Ytolfjcihohjknaa
open Go Go.RowKit Go.Eng
theorem getset_ne (b : List UInt8) (i k : Nat) (v : UInt8) (h : i ≠ k) : (b.set i v)[k]! = b[k]! := by
  rw [List.getElem!_eq_getElem?_getD, List.getElem!_eq_getElem?_getD, List.getElem?_set_ne h]
theorem getset_eq (b : List UInt8) (i : Nat) (v : UInt8) (h : i < b.length) : (b.set i v)[i]! = v := by
  rw [List.getElem!_eq_getElem?_getD, List.getElem?_set_self h]; rfl
theorem swap_sum (b : List UInt8) (i k : Nat) (hi : 2 * i + 1 < b.length) (hk : 2 * k + 1 < b.length) :
    psum true ((((b.set (2 * i) (b[2 * k]!)).set (2 * k) (b[2 * i]!)).set (2 * i + 1) (b[2 * k + 1]!)).set (2 * k + 1) (b[2 * i + 1]!)) = psum true b := by
  by_cases h : i = k
  · subst h
    have hs : ∀ j, j < b.length → b.set j (b[j]!) = b := fun j hj => by rw [getElem!_pos b j hj, List.set_getElem_self]
    rw [hs _ (by omega), hs _ (by omega), hs _ (by omega), hs _ (by omega)]
  · have w1 : ∀ j, wt true (2 * j) = 256 := fun j => by unfold wt; rw [show 2 * j % 2 = 0 by omega]; rfl
    have w2 : ∀ j, wt true (2 * j + 1) = 1 := fun j => by unfold wt; rw [show (2 * j + 1) % 2 = 1 by omega]; rfl
    have h1 := psum_put true b (2 * i) (b[2 * k]!) (by omega)
    have h2 := psum_put true (b.set (2 * i) (b[2 * k]!)) (2 * k) (b[2 * i]!) (by rw [List.length_set]; omega)
    have h3 := psum_put true ((b.set (2 * i) (b[2 * k]!)).set (2 * k) (b[2 * i]!)) (2 * i + 1) (b[2 * k + 1]!) (by rw [List.length_set, List.length_set]; omega)
    have h4 := psum_put true (((b.set (2 * i) (b[2 * k]!)).set (2 * k) (b[2 * i]!)).set (2 * i + 1) (b[2 * k + 1]!)) (2 * k + 1) (b[2 * i + 1]!) (by rw [List.length_set, List.length_set, List.length_set]; omega)
    rw [w1] at h1 h2; rw [w2] at h3 h4
    rw [getset_ne _ _ _ _ (by omega)] at h2
    rw [getset_ne _ _ _ _ (by omega), getset_ne _ _ _ _ (by omega)] at h3
    rw [getset_ne _ _ _ _ (by omega), getset_ne _ _ _ _ (by omega), getset_ne _ _ _ _ (by omega)] at h4
    omega
theorem swapk_s (N : Nat) (hN : 4000 < N) (b : List UInt8) (hb : b.length ≤ 2000) (i k : Nat) (hi : 2 * i + 1 < b.length) (hk : 2 * k + 1 < b.length) : shunterlaw04_SumSwaps_k1 N b (i : Int) (k : Int) = some true := by
  have hl := lives4_s N (by omega)
  have e1 : (2 * (i : Int)).toNat = 2 * i := by omega
  have e2 : (2 * (k : Int)).toNat = 2 * k := by omega
  have e3 : (2 * (i : Int) + 1).toNat = 2 * i + 1 := by omega
  have e4 : (2 * (k : Int) + 1).toNat = 2 * k + 1 := by omega
  unfold shunterlaw04_SumSwaps_k1
  simp only [e1, e2, e3, e4, List.nil_append]
  repeat rw [ck_pos _ (by first | omega | (simp only [List.length_set, List.length_nil, List.length_append, List.length_singleton]; omega))]
  have c1 : csum ((((b.set (2 * i) (b[2 * k]!)).set (2 * k) (b[2 * i]!)).set (2 * i + 1) (b[2 * k + 1]!)).set (2 * k + 1) (b[2 * i + 1]!)) = csum b := by
    unfold csum; rw [swap_sum b i k hi hk]
  have c2 : csum (b ++ [0]) = csum b := by
    unfold csum; rw [psum_app, psum_one]; rfl
  rw [of_s N _ (by simp only [List.length_set]; omega) (by simp only [List.length_set]; omega), of_s N b (by omega) (by omega), of_s N _ (by simp only [List.length_append, List.length_singleton]; omega) (by simp only [List.length_append, List.length_singleton]; omega), c1, c2]
  rw [Option.bind_some, Option.bind_some, if_pos rfl, Option.bind_some, Option.bind_some, if_pos rfl, hl]; rfl
theorem swaps_s (N : Nat) (hN : 4000 < N) (b : List UInt8) (i k : Int) : shunterlaw04_SumSwaps_m N b i k = some true := by
  have hl := lives4_s N (by omega)
  unfold shunterlaw04_SumSwaps_m
  by_cases h : (b.length : Int) > 2000
  · rw [if_pos h, hl]; rfl
  rw [if_neg h]
  by_cases h1 : i < 0
  · rw [if_pos h1, hl]; rfl
  rw [if_neg h1]
  by_cases h2 : k < 0
  · rw [if_pos h2, hl]; rfl
  rw [if_neg h2, ck_pos _ (by omega)]
  by_cases h3 : i ≥ (b.length : Int) / 2
  · rw [if_pos h3, hl]; rfl
  rw [if_neg h3, ck_pos _ (by omega)]
  by_cases h4 : k ≥ (b.length : Int) / 2
  · rw [if_pos h4, hl]; rfl
  rw [if_neg h4]
  obtain ⟨i, rfl⟩ : ∃ n : Nat, i = (n : Int) := ⟨i.toNat, by omega⟩
  obtain ⟨k, rfl⟩ : ∃ n : Nat, k = (n : Int) := ⟨k.toNat, by omega⟩
  exact swapk_s N hN b (by omega) i k (by omega) (by omega)
end Go.Proofs.Ytolfjcihohjknaa
