import Derived.Test.YthafnifhhblkbaaGreatDoorBj
namespace Go.Proofs.YthafnifhhblkbaaGreatDoor
open Go Go.RowKit Go.Eng
def MU (w : Int) (x : BitVec 128) : Bool := decide (1 ≤ w) && (decide (w ≤ 128) && decide (((len128 x : Nat) : Int) ≤ w))
theorem bz (N : Nat) (w : Int) (x : BitVec 128) : Dy N w x = some (MU w x) := by
 unfold Dy MU
 rw [ZG]
 by_cases h1 : w ≥ 1
 ·rw [if_pos h1, decide_eq_true (show 1 ≤ w from h1), Bool.true_and]
  by_cases h2 : w ≤ 128
  ·rw [if_pos h2, decide_eq_true h2, Bool.true_and]
  ·rw [if_neg h2, decide_eq_false h2, Bool.false_and]
 ·rw [if_neg h1, decide_eq_false (show ¬ 1 ≤ w from h1), Bool.false_and]
theorem ik (N : Nat) (w : Int) : Fz N w = some (decide (1 ≤ w ∧ w ≤ 128)) := by
 unfold Fz
 by_cases h1 : w ≥ 1
 ·rw [if_pos h1]; congr 1; exact decide_eq_decide.2 ⟨fun h => ⟨h1, h⟩, fun h => h.2⟩
 ·rw [if_neg h1]; congr 1; exact (decide_eq_false (fun h => h1 h.1)).symm
theorem aZ (N : Nat) (w : Int) (x : BitVec 128) : It N w x = some (MU w x) := by
 unfold It ES MU
 rw [ik, Option.bind_some]
 by_cases h1 : 1 ≤ w
 ·rw [decide_eq_true h1, Bool.true_and]
  by_cases h2 : w ≤ 128
  ·rw [decide_eq_true (show 1 ≤ w ∧ w ≤ 128 from ⟨h1, h2⟩), if_pos rfl, Option.bind_some, decide_eq_true h2, Bool.true_and]
  ·rw [decide_eq_false (fun h : 1 ≤ w ∧ w ≤ 128 => h2 h.2), if_neg (by decide), decide_eq_false h2, Bool.false_and]
 ·rw [decide_eq_false (fun h : 1 ≤ w ∧ w ≤ 128 => h1 h.1), if_neg (by decide), decide_eq_false h1, Bool.false_and]
theorem WF {w : Int} {x : BitVec 128} (h : MU w x = true) : 1 ≤ w ∧ w ≤ 128 ∧ ((len128 x : Nat) : Int) ≤ w := by
 simpa [MU] using h
theorem iT {w : Int} {x : BitVec 128} (h : MU w x = true) (j : Nat) (hj : w ≤ (j : Int)) : x.getLsbD j = false := by
 have h1 := (WF h).2.2
 rw [← BitVec.testBit_toNat]
 refine Nat.testBit_lt_two_pow (Nat.lt_of_lt_of_le (Qh x).1 ?_)
 exact Nat.pow_le_pow_right (by decide) (by omega)
def GC (n : Nat) (x : BitVec 128) : List Bool := (List.range n).map fun j => x.getLsbD j
theorem DP (n : Nat) (x : BitVec 128) : (GC n x).length = n := by simp [GC]
theorem PU (n : Nat) (x : BitVec 128) (j : Nat) : (GC n x)[j]! = (decide (j < n) && x.getLsbD j) := by
 rw [List.getElem!_eq_getElem?_getD]
 by_cases h : j < n
 ·simp [GC, h]
 ·simp [GC, h]
theorem aT (w : Int) (x : BitVec 128) (hw : 0 ≤ w) (hw2 : w ≤ 128) : ∀ (k f i : Nat), i + k = w.toNat → k < f → BN w x f (GC i x) (i : Int) = some (GC w.toNat x) := by
 intro k
 induction k with
 | zero =>
  intro f i hi hf
  obtain ⟨f, rfl⟩ : ∃ k, f = k + 1 := ⟨f - 1, by omega⟩
  rw [BN, if_neg (by omega), show i = w.toNat from by omega]
 | succ k ih =>
  intro f i hi hf
  obtain ⟨f, rfl⟩ : ∃ k, f = k + 1 := ⟨f - 1, by omega⟩
  rw [BN, if_pos (by omega)]
  rw [if_pos (by omega)]
  unfold Ep
  rw [ZG, AR _ (by omega), AR _ (by rw [DP]; simp; omega), AR _ (by omega), Int.toNat_natCast]
  have := ih f (i + 1) (by omega) (by omega)
  rw [← this]
  congr 1
  simp [GC, List.range_succ]
theorem hY (N : Nat) (w : Int) (x : BitVec 128) (hN : 128 < N) (hw : 0 ≤ w) (hw2 : w ≤ 128) : Ci N w x = some (GC w.toNat x) := by
 have := aT w x hw hw2 w.toNat N 0 (by omega) (by omega)
 exact this
end Go.Proofs.YthafnifhhblkbaaGreatDoor
