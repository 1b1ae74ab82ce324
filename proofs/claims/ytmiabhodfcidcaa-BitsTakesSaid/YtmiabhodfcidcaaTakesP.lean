/- BitsTakes: the model answers true. Conditions: none. -/
import Derived.Test.YtmiabhodfcidcaaBQ
import Derived.Test.YtmiabhodfcidcaaLBitsTakes
namespace Go.Proofs.Ytmiabhodfcidcaa
open Go Go.RowKit Go.Eng
abbrev TOp := Int × Int × Int × BitVec 128 × List UInt8
section
variable (N : Nat) (b : List UInt8) (hb : b.length ≤ 200) (i : Nat) (hi : i ≤ 100) (rec : Int → Int → List UInt8 → Int → Option Bool)
include hb hi
theorem k10_s (a : Int) (h0 : 0 ≤ a) (h1 : a ≤ 8 * (b.length : Int)) : shunterlaw03_BitsTakes_k10 N (bitsB b) (i : Int) rec a b a = rec a ((i : Int) + 1) b a := by
  unfold shunterlaw03_BitsTakes_k10 bits_Taker_At_v1_m bits_Taker_Left_v1_m
  have hl := bitsB_len b
  rw [Option.bind_some, if_neg (by simp), left_s _ _ _ (by omega) h0 h1, Option.bind_some, Option.bind_some, ck_pos _ (by omega), if_neg (by omega), ck_pos _ (by omega)]
theorem k18_s (a : Int) (h0 : 0 ≤ a) (h1 : a ≤ 8 * (b.length : Int)) (w f : Int) (x : BitVec 128) : shunterlaw03_BitsTakes_k18 N (bitsB b) a (i : Int) b a rec (w, x, f) f w x = rec a ((i : Int) + 1) b a := by
  unfold shunterlaw03_BitsTakes_k18
  rw [if_pos (by simp), if_neg (by simp), k10_s N b hb i hi rec a h0 h1]
theorem k26_s (a a' : Int) (h0 : 0 ≤ a') (h1 : a' ≤ 8 * (b.length : Int)) (w f : Int) (x : BitVec 128) (_ : a = a) : shunterlaw03_BitsTakes_k26 N (bitsB b) (i : Int) rec (w, x, f, b, a') a' f w x = rec a' ((i : Int) + 1) b a' := by
  unfold shunterlaw03_BitsTakes_k26
  rw [if_pos (by simp), if_neg (by simp)]
  exact k10_s N b hb i hi rec a' h0 h1
end
theorem takes_loop (N : Nat) (hN : 400 < N) (b : List UInt8) (hb : b.length ≤ 200) (ops : List TOp) (hop : ops.length ≤ 30) : ∀ (k f i : Nat) (a : Int), i + k = ops.length → k < f → 0 ≤ a → a ≤ 8 * (b.length : Int) →
    shunterlaw03_BitsTakes_l6 N b ops (bitsB b) f a (i : Int) b a = some true := by
  intro k
  induction k with
  | zero =>
    intro f i a hi hf h0 h1
    obtain ⟨f, rfl⟩ : ∃ k, f = k + 1 := ⟨f - 1, by omega⟩
    rw [shunterlaw03_BitsTakes_l6, if_neg (by omega), lives3_s N (by omega)]; rfl
  | succ k ih =>
    intro f i a hi hf h0 h1
    obtain ⟨f, rfl⟩ : ∃ k, f = k + 1 := ⟨f - 1, by omega⟩
    have hl := bitsB_len b
    have hc : 0 ≤ (i : Int) ∧ (i : Int) < (ops.length : Int) := by omega
    have go : ∀ c : Int, 0 ≤ c → c ≤ 8 * (b.length : Int) → shunterlaw03_BitsTakes_l6 N b ops (bitsB b) f c ((i : Int) + 1) b c = some true := fun c q0 q1 => by
      have := ih f (i + 1) c (by omega) (by omega) q0 q1
      rwa [show ((i + 1 : Nat) : Int) = (i : Int) + 1 from by omega] at this
    rw [shunterlaw03_BitsTakes_l6, if_pos (by omega), ck_pos _ hc, ck_pos _ (by omega), Int.toNat_natCast]
    by_cases hk1 : ops[i]!.1 = 1
    · rw [if_pos hk1, tbytes_s _ _ _ _ (by omega) h0 h1, Option.bind_some]
      have k14 : ∀ e, shunterlaw03_BitsTakes_k14 a (i : Int) (shunterlaw03_BitsTakes_l6 N b ops (bitsB b) f) ([], e, b, a) e = some true := fun e => by
        unfold shunterlaw03_BitsTakes_k14
        rw [if_neg (by simp), if_neg (by simp), ck_pos _ (by omega)]
        exact go a h0 h1
      by_cases h8 : a % 8 ≠ 0
      · rw [if_pos h8, ck_pos _ rfl, ck_pos _ (by omega), if_pos h8]
        unfold shunterlaw03_BitsTakes_k12
        rw [if_pos rfl, ck_pos _ (by omega), if_pos h8]
        exact k14 13
      · rw [if_neg h8, if_neg (by omega)]
        by_cases hn : (ops[i]!.2.2.2.2.length : Int) > (8 * (b.length : Int) - a) / 8
        · rw [if_pos hn, ck_pos _ rfl, ck_pos _ (by omega), if_neg h8, ck_pos _ (by omega)]
          unfold shunterlaw03_BitsTakes_k12
          rw [if_pos (decide_eq_true (by rw [hl]; omega)), ck_pos _ (by omega), if_neg h8]
          exact k14 3
        · rw [if_neg hn, ck_pos _ rfl, ck_pos _ (by omega), if_neg h8, ck_pos _ (by omega)]
          unfold shunterlaw03_BitsTakes_k12
          rw [if_neg (by rw [decide_eq_false (by rw [hl]; omega)]; decide), ck_pos _ (by omega), ck_pos _ (by omega), Int.toNat_natCast, ck_pos _ (by omega), ck_pos _ (by omega), if_neg (by simp), if_neg (by simp)]
          unfold shunterlaw03_BitsTakes_k15
          rw [Int.toNat_natCast, ck_pos _ (by omega), ck_pos _ (by omega)]
          simp only
          rw [k10_s N b hb i (by omega) _ _ (by omega) (by omega)]
          exact go _ (by omega) (by omega)
    · rw [if_neg hk1]
      by_cases hk2 : ops[i]!.1 = 2
      · rw [if_pos hk2, look_s N (by omega) _ _ _ _ (by omega) h0 h1, Option.bind_some]
        have bad : ¬ (1 ≤ ops[i]!.2.2.1 ∧ ops[i]!.2.2.1 ≤ 128) → shunterlaw03_BitsTakes_k20 N ops (bitsB b) a (i : Int) b a (shunterlaw03_BitsTakes_l6 N b ops (bitsB b) f) (if 1 ≤ ops[i]!.2.2.1 ∧ ops[i]!.2.2.1 ≤ 128 then (if ops[i]!.2.1 < 0 then (0, 0#128, 7) else if ops[i]!.2.1 > 8 * (b.length : Int) - a - ops[i]!.2.2.1 then (0, 0#128, 3) else (ops[i]!.2.2.1, cutB b (a + ops[i]!.2.1).toNat ops[i]!.2.2.1.toNat, 0)) else (0, 0#128, 9)) true = some true := fun hw => by
          unfold shunterlaw03_BitsTakes_k20
          rw [if_pos rfl, if_neg hw, show ((0#64) ++ (0#64) : BitVec 128) = 0#128 from by decide, k18_s N b hb i (by omega) _ a h0 h1]
          exact go a h0 h1
        by_cases hw1 : ops[i]!.2.2.1 < 1
        · rw [if_pos hw1]; exact bad (by omega)
        · rw [if_neg hw1]
          by_cases hw2 : ops[i]!.2.2.1 > 128
          · rw [decide_eq_true hw2]; exact bad (by omega)
          · rw [decide_eq_false hw2, if_pos (by omega)]
            unfold shunterlaw03_BitsTakes_k20
            rw [if_neg (by decide), Int.toNat_natCast]
            by_cases ho : ops[i]!.2.1 < 0
            · rw [if_pos ho, if_pos ho, show ((0#64) ++ (0#64) : BitVec 128) = 0#128 from by decide, k18_s N b hb i (by omega) _ a h0 h1]
              exact go a h0 h1
            · rw [if_neg ho, if_neg ho]
              by_cases hs : ops[i]!.2.1 ≤ ((bitsB b).length : Int) - a
              · rw [if_pos hs, ck_pos _ (by omega)]
                by_cases hs2 : ops[i]!.2.2.1 ≤ ((bitsB b).length : Int) - a - ops[i]!.2.1
                · rw [decide_eq_true hs2, if_neg (by omega)]
                  unfold shunterlaw03_BitsTakes_k22
                  rw [if_pos rfl, Int.toNat_natCast, ck_pos _ (by omega), ck_pos _ (by omega), ck_pos _ (by omega), ck_pos _ (by omega)]
                  have e : (a + ops[i]!.2.1 + ops[i]!.2.2.1).toNat = (a + ops[i]!.2.1).toNat + ops[i]!.2.2.1.toNat := by omega
                  rw [e, rvec_s N (by omega) _ (by rw [cut_len _ _ _ (by omega)]; omega), Option.bind_some, cut_len _ _ _ (by omega), Int.toNat_of_nonneg (a := ops[i]!.2.2.1) (by omega)]
                  exact (k18_s N b hb i (by omega) _ a h0 h1 _ _ _).trans (go a h0 h1)
                · rw [decide_eq_false hs2, if_pos (by omega)]
                  unfold shunterlaw03_BitsTakes_k22
                  rw [if_neg (by decide), show ((0#64) ++ (0#64) : BitVec 128) = 0#128 from by decide, k18_s N b hb i (by omega) _ a h0 h1]
                  exact go a h0 h1
              · rw [if_neg hs, if_pos (by omega)]
                unfold shunterlaw03_BitsTakes_k22
                rw [if_neg (by decide), show ((0#64) ++ (0#64) : BitVec 128) = 0#128 from by decide, k18_s N b hb i (by omega) _ a h0 h1]
                exact go a h0 h1
      · rw [if_neg hk2, tvec_s N (by omega) _ _ _ (by omega) h0 h1, Option.bind_some]
        rw [ck_pos _ (by
          split
          · split <;> rfl
          · rfl)]
        have bad : ¬ (1 ≤ ops[i]!.2.2.1 ∧ ops[i]!.2.2.1 ≤ 128) → shunterlaw03_BitsTakes_k28 N ops (bitsB b) a (i : Int) (shunterlaw03_BitsTakes_l6 N b ops (bitsB b) f) (if 1 ≤ ops[i]!.2.2.1 ∧ ops[i]!.2.2.1 ≤ 128 then (if ops[i]!.2.2.1 > 8 * (b.length : Int) - a then (0, 0#128, 3, b, a) else (ops[i]!.2.2.1, cutB b a.toNat ops[i]!.2.2.1.toNat, 0, b, a + ops[i]!.2.2.1)) else (0, 0#128, 9, b, a)) true = some true := fun hw => by
          unfold shunterlaw03_BitsTakes_k28
          rw [if_pos rfl, if_neg hw, show ((0#64) ++ (0#64) : BitVec 128) = 0#128 from by decide, k26_s N b hb i (by omega) _ a a h0 h1 _ _ _ rfl]
          exact go a h0 h1
        by_cases hw1 : ops[i]!.2.2.1 < 1
        · rw [if_pos hw1]; exact bad (by omega)
        · rw [if_neg hw1]
          by_cases hw2 : ops[i]!.2.2.1 > 128
          · rw [decide_eq_true hw2]; exact bad (by omega)
          · rw [decide_eq_false hw2, if_pos (by omega)]
            unfold shunterlaw03_BitsTakes_k28
            rw [if_neg (by decide), Int.toNat_natCast]
            by_cases hs : ops[i]!.2.2.1 ≤ ((bitsB b).length : Int) - a
            · rw [if_pos hs, if_neg (by omega), ck_pos _ (by omega), ck_pos _ (by omega)]
              have e : (a + ops[i]!.2.2.1).toNat = a.toNat + ops[i]!.2.2.1.toNat := by omega
              rw [e, rvec_s N (by omega) _ (by rw [cut_len _ _ _ (by omega)]; omega), Option.bind_some, cut_len _ _ _ (by omega), Int.toNat_of_nonneg (a := ops[i]!.2.2.1) (by omega), ck_pos _ (by omega)]
              exact (k26_s N b hb i (by omega) _ a (a + ops[i]!.2.2.1) (by omega) (by omega) _ _ _ rfl).trans (go _ (by omega) (by omega))
            · rw [if_neg hs, if_pos (by omega), show ((0#64) ++ (0#64) : BitVec 128) = 0#128 from by decide, k26_s N b hb i (by omega) _ a a h0 h1 _ _ _ rfl]
              exact go a h0 h1
theorem takes_s (N : Nat) (hN : 400 < N) (b : List UInt8) (ops : List TOp) : shunterlaw03_BitsTakes_m N b ops = some true := by
  unfold shunterlaw03_BitsTakes_m
  by_cases h : (b.length : Int) > 200
  · rw [if_pos h, lives3_s N (by omega)]; rfl
  · rw [if_neg h]
    by_cases h2 : (ops.length : Int) > 30
    · rw [if_pos h2, lives3_s N (by omega)]; rfl
    · rw [if_neg h2]
      unfold shunterlaw03_BitsTakes_k1 bits_Take_m
      rw [fresh_s _ _ (by omega), Option.bind_some, Option.bind_some, rbits_s N b (by omega) (by omega) (by omega), Option.bind_some]
      exact takes_loop N hN b (by omega) ops (by omega) ops.length N 0 0 (by omega) (by omega) (by omega) (by omega)
end Go.Proofs.Ytmiabhodfcidcaa
