/- BitsBack: the model answers true. Conditions: none. -/
import Derived.Test.YtmiabhodfcidcaaBQ
import Derived.Test.YtmiabhodfcidcaaLBitsBack
namespace Go.Proofs.Ytmiabhodfcidcaa
open Go Go.RowKit Go.Eng
def oneL (v : Int × BitVec 128) : List Bool := if mayB v.1 v.2 = true then highB v.1 v.2 else []
def accL (l : List (Int × BitVec 128)) (i : Nat) : List Bool := (l.take i).flatMap oneL
theorem oneL_len (v : Int × BitVec 128) : (oneL v).length ≤ 128 := by
  unfold oneL
  split
  · rename_i h; obtain ⟨_, h2, _⟩ := may_w h; rw [highB_len]; omega
  · simp
theorem accL_succ (l : List (Int × BitVec 128)) (i : Nat) (h : i < l.length) : accL l (i + 1) = accL l i ++ oneL l[i]! := by
  unfold accL
  rw [List.take_add_one, List.getElem?_eq_getElem h, List.flatMap_append]
  rw [List.getElem!_eq_getElem?_getD, List.getElem?_eq_getElem h]
  simp
theorem accL_len (l : List (Int × BitVec 128)) : ∀ i, i ≤ l.length → (accL l i).length ≤ 128 * i
  | 0, _ => by simp [accL]
  | i + 1, h => by
    have h1 := accL_len l i (by omega)
    have h2 := oneL_len l[i]!
    rw [accL_succ l i (by omega), List.length_append]; omega
theorem accL_pre (l : List (Int × BitVec 128)) (i : Nat) : ∃ r, accL l l.length = accL l i ++ r := by
  refine ⟨(l.drop i).flatMap oneL, ?_⟩
  unfold accL
  rw [List.take_length, ← List.flatMap_append, List.take_append_drop]
theorem cut_high (w : Int) (x : BitVec 128) (h : mayB w x = true) (a c : List Bool) : cutB (bytesL (a ++ (highB w x ++ c))) a.length w.toNat = x := by
  obtain ⟨h1, h2, _⟩ := may_w h
  have hh := highB_len w x
  have hl := bytesL_len (a ++ (highB w x ++ c))
  simp only [List.length_append, hh] at hl
  apply BitVec.eq_of_getLsbD_eq
  intro j hj
  rw [cut_bit _ _ _ _ (by omega) (by omega)]
  by_cases hw : j < w.toNat
  · rw [decide_eq_true hw, Bool.true_and, bytesL_bit _ _ (by omega), app_get, if_neg (by omega), app_get, if_pos (by omega), highB_get _ _ _ (by omega)]
    congr 1; omega
  · rw [decide_eq_false hw, Bool.false_and, may_bit h j (by omega)]
theorem back_in (N : Nat) (hN : 70000 < N) (l : List (Int × BitVec 128)) (hl : l.length ≤ 60) : ∀ (k f i : Nat), i + k = l.length → k < f →
    shunterlaw03_BitsBack_l9 N l ((accL l l.length).length : Int) f (i : Int) (bytesL (accL l l.length)) ((accL l i).length : Int) = some true := by
  have hA := accL_len l l.length (Nat.le_refl _)
  have hB := bytesL_len (accL l l.length)
  intro k
  induction k with
  | zero =>
    intro f i hi hf
    obtain ⟨f, rfl⟩ : ∃ k, f = k + 1 := ⟨f - 1, by omega⟩
    obtain rfl : i = l.length := by omega
    unfold shunterlaw03_BitsBack_l9 bits_Taker_Left_v1_m bits_Taker_At_v1_m
    rw [if_neg (by omega), left_s _ _ _ (by omega) (by omega) (by omega), Option.bind_some, Option.bind_some, if_pos (by omega), Option.bind_some, if_pos rfl, lives3_s N (by omega)]; rfl
  | succ k ih =>
    intro f i hi hf
    obtain ⟨f, rfl⟩ : ∃ k, f = k + 1 := ⟨f - 1, by omega⟩
    have hc : 0 ≤ (i : Int) ∧ (i : Int) < (l.length : Int) := by omega
    have hs := accL_succ l i (by omega)
    have ih' := ih f (i + 1) (by omega) (by omega)
    rw [show ((i + 1 : Nat) : Int) = (i : Int) + 1 from by omega, hs] at ih'
    obtain ⟨r, hr⟩ := accL_pre l (i + 1)
    rw [hs] at hr
    have hAi := accL_len l i (by omega)
    rw [shunterlaw03_BitsBack_l9, if_pos (by omega), ck_pos _ hc, rmay_s, Option.bind_some, Int.toNat_natCast]
    by_cases hm : mayB l[i]!.1 l[i]!.2 = true
    · obtain ⟨h1, h2, _⟩ := may_w hm
      have ho : oneL l[i]! = highB l[i]!.1 l[i]!.2 := by unfold oneL; rw [if_pos hm]
      have hh := highB_len l[i]!.1 l[i]!.2
      rw [ho] at ih' hr
      have hlen : (accL l l.length).length = (accL l i).length + l[i]!.1.toNat + r.length := by rw [hr]; simp only [List.length_append, hh]
      rw [if_pos hm, ck_pos _ hc, tvec_s N (by omega) _ _ _ (by omega) (by omega) (by omega), Option.bind_some, if_pos ⟨h1, h2⟩, if_neg (by omega), ck_pos _ rfl, ck_pos _ hc, Int.toNat_natCast]
      have hcut : cutB (bytesL (accL l l.length)) (accL l i).length l[i]!.1.toNat = l[i]!.2 := by
        rw [hr, List.append_assoc]; exact cut_high _ _ hm _ _
      rw [hcut, if_pos (by simp), if_neg (fun hne => hne rfl), ck_pos _ (by omega)]
      simp only
      rw [List.length_append, hh] at ih'
      rw [show ((accL l i).length : Int) + l[i]!.1 = (((accL l i).length + l[i]!.1.toNat : Nat) : Int) from by omega]
      exact ih'
    · have ho : oneL l[i]! = [] := by unfold oneL; rw [if_neg hm]
      rw [ho, List.append_nil] at ih'
      rw [if_neg hm, ck_pos _ (by omega)]
      exact ih'
theorem back_out (N : Nat) (hN : 70000 < N) (l : List (Int × BitVec 128)) (hl : l.length ≤ 60) : ∀ (k f i : Nat), i + k = l.length → k < f →
    shunterlaw03_BitsBack_l4 N l f ((accL l i).length : Int) (i : Int) (bytesL (accL l i)) ((accL l i).length : Int) = some true := by
  intro k
  induction k with
  | zero =>
    intro f i hi hf
    obtain ⟨f, rfl⟩ : ∃ k, f = k + 1 := ⟨f - 1, by omega⟩
    obtain rfl : i = l.length := by omega
    have hA := accL_len l l.length (Nat.le_refl _)
    have hB := bytesL_len (accL l l.length)
    unfold shunterlaw03_BitsBack_l4 bits_Row_Len_v1_m bits_Take_m
    rw [if_neg (by omega), all_s _ _ _ (by omega), Option.bind_some, fresh_s _ _ (by omega), Option.bind_some, Option.bind_some, Option.bind_some, if_neg (by simp)]
    unfold shunterlaw03_BitsBack_k5
    exact back_in N hN l hl l.length N 0 (by omega) (by omega)
  | succ k ih =>
    intro f i hi hf
    obtain ⟨f, rfl⟩ : ∃ k, f = k + 1 := ⟨f - 1, by omega⟩
    have hc : 0 ≤ (i : Int) ∧ (i : Int) < (l.length : Int) := by omega
    have hs := accL_succ l i (by omega)
    have ih' := ih f (i + 1) (by omega) (by omega)
    rw [show ((i + 1 : Nat) : Int) = (i : Int) + 1 from by omega, hs] at ih'
    have hAi := accL_len l i (by omega)
    rw [shunterlaw03_BitsBack_l4, if_pos (by omega), ck_pos _ hc, add_s N (by omega) _ _ _ (by omega), Option.bind_some, Int.toNat_natCast]
    by_cases hm : mayB l[i]!.1 l[i]!.2 = true
    · obtain ⟨h1, h2, _⟩ := may_w hm
      have ho : oneL l[i]! = highB l[i]!.1 l[i]!.2 := by unfold oneL; rw [if_pos hm]
      have hh := highB_len l[i]!.1 l[i]!.2
      rw [ho] at ih'
      rw [if_pos hm, if_neg (show ¬ l[i]!.1 > 73728 - ((accL l i).length : Int) by omega), if_pos rfl, ck_pos _ hc, ck_pos _ (by omega), ck_pos _ (by omega)]
      simp only
      rw [List.length_append, hh] at ih' ⊢
      rw [show ((accL l i).length : Int) + l[i]!.1 = (((accL l i).length + l[i]!.1.toNat : Nat) : Int) from by omega]
      exact ih'
    · have ho : oneL l[i]! = [] := by unfold oneL; rw [if_neg hm]
      rw [ho, List.append_nil] at ih'
      rw [if_neg hm, if_neg (show ¬ (1 : Int) = 0 by decide), ck_pos _ (by omega)]
      exact ih'
theorem back_s (N : Nat) (hN : 70000 < N) (l : List (Int × BitVec 128)) : shunterlaw03_BitsBack_m N l = some true := by
  unfold shunterlaw03_BitsBack_m
  by_cases h : (l.length : Int) > 60
  · rw [if_pos h, lives3_s N (by omega)]; rfl
  · rw [if_neg h]
    have := back_out N hN l (by omega) l.length N 0 (by omega) (by omega)
    rw [show accL l 0 = [] from by simp [accL]] at this
    exact this
end Go.Proofs.Ytmiabhodfcidcaa
