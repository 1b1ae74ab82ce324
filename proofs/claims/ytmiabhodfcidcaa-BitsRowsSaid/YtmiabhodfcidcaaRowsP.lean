/- BitsRows: the model answers true. Conditions: none. -/
import Derived.Test.YtmiabhodfcidcaaBQ
import Derived.Test.YtmiabhodfcidcaaLBitsRows
namespace Go.Proofs.Ytmiabhodfcidcaa
open Go Go.RowKit Go.Eng
theorem k9_s (N : Nat) (hN : 70000 < N) (i : Nat) (hi : i ≤ 100) (rec : List Bool → Int → List UInt8 → Int → Option Bool) (l : List Bool) (e : Int) (hl : l.length ≤ 73728) :
    shunterlaw03_BitsRows_k9 N (i : Int) rec l e e (bytesL l) (l.length : Int) = rec l ((i : Int) + 1) (bytesL l) (l.length : Int) := by
  unfold shunterlaw03_BitsRows_k9 bits_Row_Len_v1_m
  rw [if_neg (by simp), Option.bind_some, if_neg (by simp), all_s _ _ _ (by rw [bytesL_len]; omega), Option.bind_some, rbytes_s N l (by omega) (by omega) (by omega), Option.bind_some, if_neg (by simp), ck_pos _ (by omega)]
theorem rows_loop (N : Nat) (hN : 70000 < N) (ops : List (Int × Int × Int × BitVec 128 × List UInt8)) (hop : ops.length ≤ 30) : ∀ (k f i : Nat) (l : List Bool), i + k = ops.length → k < f → l.length ≤ 1600 * i →
    shunterlaw03_BitsRows_l4 N ops f l (i : Int) (bytesL l) (l.length : Int) = some true := by
  intro k
  induction k with
  | zero =>
    intro f i l hi hf hl
    obtain ⟨f, rfl⟩ : ∃ k, f = k + 1 := ⟨f - 1, by omega⟩
    rw [shunterlaw03_BitsRows_l4, if_neg (by omega), lives3_s N (by omega)]; rfl
  | succ k ih =>
    intro f i l hi hf hl
    obtain ⟨f, rfl⟩ : ∃ k, f = k + 1 := ⟨f - 1, by omega⟩
    have hc : 0 ≤ (i : Int) ∧ (i : Int) < (ops.length : Int) := by omega
    rw [shunterlaw03_BitsRows_l4, if_pos (by omega), ck_pos _ hc, ck_pos _ hc, Int.toNat_natCast]
    generalize ops[i]! = o
    have go : ∀ (m : List Bool), m.length ≤ 1600 * (i + 1) → shunterlaw03_BitsRows_l4 N ops f m ((i : Int) + 1) (bytesL m) (m.length : Int) = some true := fun m hm => by
      have := ih f (i + 1) m (by omega) (by omega) hm
      rwa [show ((i + 1 : Nat) : Int) = (i : Int) + 1 from by omega] at this
    by_cases h200 : (o.2.2.2.2.length : Int) > 200
    · rw [if_pos h200, lives3_s N (by omega)]; rfl
    · rw [if_neg h200]
      by_cases h1 : o.1 = 1
      · rw [if_pos h1, ck_pos _ hc, addb_s N l _ (by omega) (by omega), Option.bind_some, ck_pos _ (by omega)]
        by_cases h8 : l.length % 8 ≠ 0
        · rw [if_pos (by omega), if_pos h8]
          simp only
          rw [k9_s N hN i (by omega) _ l 13 (by omega)]
          exact go l (by omega)
        · have hb := bitsB_len o.2.2.2.2
          rw [if_neg (by omega), if_neg h8, if_neg (by omega), ck_pos _ hc, rbits_s N _ (by omega) (by omega) (by omega), Option.bind_some, ck_pos _ (by omega)]
          simp only
          rw [k9_s N hN i (by omega) _ (l ++ bitsB o.2.2.2.2) 0 (by rw [List.length_append]; omega)]
          exact go _ (by rw [List.length_append]; omega)
      · rw [if_neg h1, ck_pos _ hc, add_s N (by omega) l _ _ (by omega), Option.bind_some, ck_pos _ hc, rmay_s, Option.bind_some]
        by_cases hm : mayB o.2.2.1 o.2.2.2.1 = true
        · obtain ⟨h2, h3, _⟩ := may_w hm
          have hh := highB_len o.2.2.1 o.2.2.2.1
          rw [if_pos hm, if_pos hm, if_neg (by omega), ck_pos _ hc, rof_s N (by omega) _ _ (by omega) h3, Option.bind_some, ck_pos _ (by omega)]
          simp only
          rw [k9_s N hN i (by omega) _ (l ++ highB o.2.2.1 o.2.2.2.1) 0 (by rw [List.length_append]; omega)]
          exact go _ (by rw [List.length_append]; omega)
        · rw [if_neg hm, if_neg hm]
          simp only
          rw [k9_s N hN i (by omega) _ l 1 (by omega)]
          exact go l (by omega)
theorem rows_s (N : Nat) (hN : 70000 < N) (ops : List (Int × Int × Int × BitVec 128 × List UInt8)) : shunterlaw03_BitsRows_m N ops = some true := by
  unfold shunterlaw03_BitsRows_m
  by_cases h : (ops.length : Int) > 30
  · rw [if_pos h, lives3_s N (by omega)]; rfl
  · rw [if_neg h]
    exact rows_loop N hN ops (by omega) ops.length N 0 [] (by omega) (by omega) (by simp)
end Go.Proofs.Ytmiabhodfcidcaa
