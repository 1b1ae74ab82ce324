/- What the model of the law on what is done to two rows comes to. Conditions: none but those written. -/
import Derived.Test.YtomcfndpnnjihaaDoorTwoQ
import Derived.Test.YtomcfndpnnjihaaDoorLVecTwos
namespace Go.Proofs.YtomcfndpnnjihaaDoor
open Go Go.RowKit Go.Eng
theorem twos_s (N : Nat) (hN : 128 < N) (v : Int) (x : BitVec 128) (w : Int) (y : BitVec 128) : shunterlaw02_VecTwos_m N v x w y = some true := by
  obtain ⟨A1, a1, b1⟩ := add_eq N hN v x w y
  obtain ⟨A2, a2, b2⟩ := sub_eq' N hN v x w y
  obtain ⟨A3, a3, b3⟩ := addsat_eq N hN v x w y
  obtain ⟨A4, a4, b4⟩ := subsat_eq N hN v x w y
  obtain ⟨A5, a5, b5⟩ := and_eq N hN v x w y
  obtain ⟨A6, a6, b6⟩ := or_eq N hN v x w y
  obtain ⟨A7, a7, b7⟩ := xor_eq N hN v x w y
  obtain ⟨A8, a8, b8⟩ := eq_eq N hN v x w y
  obtain ⟨A9, a9, b9⟩ := less_eq N hN v x w y
  unfold shunterlaw02_VecTwos_m
  rw [a1, Option.bind_some, a2, Option.bind_some, a3, Option.bind_some, a4, Option.bind_some, a5, Option.bind_some, a6, Option.bind_some, a7, Option.bind_some, a8, Option.bind_some, a9, Option.bind_some]
  refine ckpos (by decide) ?_
  refine (congrArg (fun z => Option.bind z _) b1).trans (ifpos (by simp) (ifneg (fun h => h rfl) (ckpos (by decide) ?_)))
  refine (congrArg (fun z => Option.bind z _) b2).trans (ifpos (by simp) (ifneg (fun h => h rfl) (ckpos (by decide) ?_)))
  refine (congrArg (fun z => Option.bind z _) b3).trans (ifpos (by simp) (ifneg (fun h => h rfl) (ckpos (by decide) ?_)))
  refine (congrArg (fun z => Option.bind z _) b4).trans (ifpos (by simp) (ifneg (fun h => h rfl) (ckpos (by decide) ?_)))
  refine (congrArg (fun z => Option.bind z _) b5).trans (ifpos (by simp) (ifneg (fun h => h rfl) (ckpos (by decide) ?_)))
  refine (congrArg (fun z => Option.bind z _) b6).trans (ifpos (by simp) (ifneg (fun h => h rfl) (ckpos (by decide) ?_)))
  refine (congrArg (fun z => Option.bind z _) b7).trans (ifpos (by simp) (ifneg (fun h => h rfl) (ckpos (by decide) ?_)))
  refine (congrArg (fun z => Option.bind z _) b8).trans (ifpos (by simp) (ifneg (fun h => h rfl) (ckpos (by decide) ?_)))
  refine (congrArg (fun z => Option.bind z _) b9).trans (ifpos (by simp) (ifneg (fun h => h rfl) ?_))
  rw [lives_s]; rfl
end Go.Proofs.YtomcfndpnnjihaaDoor
