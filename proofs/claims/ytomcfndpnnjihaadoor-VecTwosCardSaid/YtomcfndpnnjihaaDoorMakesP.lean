/- What the model of the law on rows that are made comes to. Conditions: none but those written. -/
import Derived.Test.YtomcfndpnnjihaaDoorVP
import Derived.Test.YtomcfndpnnjihaaDoorLVecMakes
namespace Go.Proofs.YtomcfndpnnjihaaDoor
open Go Go.RowKit Go.Eng
theorem ifpos {α : Type} {c : Prop} [Decidable c] {a b r : α} (hc : c) (h : a = r) : (if c then a else b) = r := by rw [if_pos hc]; exact h
theorem ifneg {α : Type} {c : Prop} [Decidable c] {a b r : α} (hc : ¬ c) (h : b = r) : (if c then a else b) = r := by rw [if_neg hc]; exact h
theorem ckpos {α : Type} {c : Prop} [Decidable c] {k : Option α} {r : Option α} (hc : c) (h : k = r) : ck c k = r := by rw [ck_pos _ hc]; exact h
theorem cut_bits (w : Int) (x : BitVec 128) (h1 : 1 ≤ w) (h2 : w ≤ 128) : ofL (((bitsL 128 x).take w.toNat).drop 0) = x &&& onesI w := by
  apply BitVec.eq_of_getLsbD_eq
  intro j hj
  rw [ofL_bit _ (by simp [bitsL_len]; omega), low_bit _ _ _ hj, List.drop_zero, List.getElem!_eq_getElem?_getD, List.getElem?_take]
  by_cases h : (j : Int) < w
  · rw [if_pos (by omega), decide_eq_true h, Bool.and_true]
    have := bitsL_get 128 x j
    rw [List.getElem!_eq_getElem?_getD, decide_eq_true hj, Bool.true_and] at this
    exact this
  · rw [if_neg (by omega), decide_eq_false h, Bool.and_false]; rfl
theorem may_and {w : Int} {x : BitVec 128} (h : mayB w x = true) : x &&& onesI w = x := by
  apply BitVec.eq_of_getLsbD_eq
  intro j hj
  rw [low_bit _ _ _ hj]
  by_cases hw : (j : Int) < w
  · rw [decide_eq_true hw, Bool.and_true]
  · rw [may_bit h j (by omega), Bool.false_and]
theorem makes_s (N : Nat) (hN : 128 < N) (w : Int) (a b : BitVec 64) : shunterlaw02_VecMakes_m N w a b = some true := by
  unfold shunterlaw02_VecMakes_m vec_Word_m
  rw [rmay_s, Option.bind_some, new_s, Option.bind_some, cut_s, Option.bind_some, vmay_s, Option.bind_some]
  refine ifneg (fun h => h rfl) ?_
  rw [Option.bind_some]
  refine ifpos rfl ?_
  rw [show vec_Truth_m N true = some (1, (0#64) ++ (1#64)) from rfl, Option.bind_some]
  refine ifpos rfl ?_
  rw [show vec_Truth_m N false = some (1, (0#64) ++ (0#64)) from rfl, Option.bind_some]
  refine ifpos rfl ?_
  have hl : ∀ f : Bool → Option Bool, (shunterlaw02_lives_m N).bind f = f true := fun f => by rw [lives_s]; rfl
  have hk3t : ¬ (1 ≤ w ∧ w ≤ 128) → shunterlaw02_VecMakes_k3 N w a b (mayB w (a ++ b)) (if 1 ≤ w ∧ w ≤ 128 then if mayB w (a ++ b) = true then (w, a ++ b, 0) else (0, 0#128, 7) else (0, 0#128, 9)) (if 1 ≤ w ∧ w ≤ 128 then (w, (a ++ b) &&& onesI w, 0) else (0, 0#128, 9)) true = some true := fun h => by
    rw [if_neg h, if_neg h]
    unfold shunterlaw02_VecMakes_k3
    exact ifpos rfl (ifpos rfl (ifpos rfl (ifpos rfl (ifpos rfl (hl _)))))
  unfold shunterlaw02_VecMakes_k1
  by_cases h1 : w < 1
  · exact ifpos h1 (hk3t (by omega))
  · refine ifneg h1 ?_
    by_cases h2 : w > 128
    · rw [decide_eq_true h2]; exact hk3t (by omega)
    · rw [decide_eq_false h2, if_pos (show 1 ≤ w ∧ w ≤ 128 by omega), if_pos (show 1 ≤ w ∧ w ≤ 128 by omega)]
      unfold shunterlaw02_VecMakes_k3
      refine ifneg (by decide) ?_
      rw [bits_s N 128 _ hN (by decide) (by decide), Option.bind_some]
      refine ifneg (fun h => h rfl) (ckpos ⟨by omega, by rw [bitsL_len]; omega⟩ ?_)
      rw [show (128 : Int).toNat = 128 from rfl, of_s N hN _ (by simp [bitsL_len]; omega), Option.bind_some, cut_bits w _ (by omega) (by omega)]
      have hlen : ((((bitsL 128 (a ++ b)).take w.toNat).drop 0).length : Int) = w := by simp [bitsL_len]; omega
      rw [hlen]
      refine ifpos (by simp) ?_
      unfold shunterlaw02_VecMakes_k4
      by_cases hm : mayB w (a ++ b) = true
      · simp only [if_pos hm, may_and hm]
        exact ifpos (by simp) (ifpos (by trivial) (ifpos (by simp) (hl _)))
      · simp only [if_neg hm]
        exact ifpos (by simp) (ifpos (by trivial) (hl _))
end Go.Proofs.YtomcfndpnnjihaaDoor
