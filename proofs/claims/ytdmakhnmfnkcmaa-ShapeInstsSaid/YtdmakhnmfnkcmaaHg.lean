/- Layer 8: the law ShapeFits answers true, if the program's functions have the answers that are told. Conditions: what First, Of and Slots answer, and that the example holds, proved elsewhere; fuel above 3000. -/
import Derived.Test.YtdmakhnmfnkcmaaHs
import Derived.Test.YtdmakhnmfnkcmaaLShapeFits
namespace Go.Proofs.Ytdmakhnmfnkcmaa
open Go Go.RowKit Go.Eng
/-- The functions that speak of instances. -/
structure ShapesI (N : Nat) : Prop where
  slots : ∀ l : List Ins, l.length ≤ 40 → shape_Slots_m N l = some (total l : Int)
  first : ∀ (l : List Ins) (i : Int), l.length ≤ 40 → shape_First_m N l i = some (firstL l i)
  of : ∀ (l : List Ins) (k : Int), l.length ≤ 40 → -1 ≤ k → k ≤ 1000 → shape_Of_m N l k = some (ofL l k)
theorem total_app (a b : List Ins) : total (a ++ b) = total a + total b := by unfold total; rw [List.map_append, List.sum_append]
theorem total_cons (x : Ins) (b : List Ins) : total (x :: b) = dep x.2.2 + total b := by simp [total]
theorem total_take (l : List Ins) (j : Nat) (h : j < l.length) : total (l.take (j + 1)) = total (l.take j) + dep (l[j]!).2.2 := by rw [takeS l j h, total_app, total_cons]; rfl
theorem ofF_at (x : Ins) (r : List Ins) (d : Nat) (hd : d < dep x.2.2) : ∀ (a : List Ins) (i : Nat), ofF i (a ++ x :: r) ((total a + d : Nat) : Int) = (((i + a.length : Nat) : Int), (d : Int), true)
  | [], i => by rw [List.nil_append, ofF, show total ([] : List Ins) = 0 from rfl, Nat.zero_add, if_pos (by omega)]; rfl
  | y :: a, i => by
    rw [List.cons_append, ofF, total_cons, if_neg (by omega), show ((dep y.2.2 + total a + d : Nat) : Int) - (dep y.2.2 : Int) = ((total a + d : Nat) : Int) from by omega, ofF_at x r d hd a (i + 1), List.length_cons]
    rw [show i + 1 + a.length = i + (a.length + 1) from by omega]
theorem ofL_at (l : List Ins) (j d : Nat) (hj : j < l.length) (hd : d < dep (l[j]!).2.2) : ofL l ((total (l.take j) : Int) + (d : Int)) = ((j : Int), (d : Int), true) := by
  have h := ofF_at (l[j]!) (l.drop (j + 1)) d hd (l.take j) 0
  rw [← consI l j hj, List.take_append_drop, List.length_take, Nat.zero_add, Nat.min_eq_left (by omega)] at h
  unfold ofL
  rw [if_neg (by omega), show (total (l.take j) : Int) + (d : Int) = ((total (l.take j) + d : Nat) : Int) from by omega]
  exact h
theorem fits_in (N : Nat) (S : ShapesI N) (l : List Ins) (hl : l.length ≤ 40) (j : Nat) (hj : j < l.length) (h0 : 0 ≤ (l[j]!).2.2) (h4 : (l[j]!).2.2 ≤ 4) (rec : Int → Int → Option Bool) (n1 : Int) (hn : n1 = (total (l.take j) : Int)) :
    ∀ (k f d : Nat), d + k = dep (l[j]!).2.2 → k < f → shunterlaw08_ShapeFits_l8 N l n1 (j : Int) rec ((total (l.take j) : Int), true) f (d : Int) = rec (n1 + (dep (l[j]!).2.2 : Int)) ((j : Int) + 1) := by
  have hdep : (dep (l[j]!).2.2 : Int) = max (l[j]!).2.2 1 := by unfold dep; rw [if_pos ⟨h0, h4⟩]; omega
  have ht := total_le (l.take j)
  have htl : (l.take j).length ≤ 40 := by rw [List.length_take]; omega
  have hd4 := dep_le (l[j]!).2.2
  intro k
  induction k with
  | zero =>
    intro f d hd hf
    obtain ⟨f, rfl⟩ : ∃ n, f = n + 1 := ⟨f - 1, by omega⟩
    rw [shunterlaw08_ShapeFits_l8, Int.toNat_natCast, ← hdep, if_neg (by omega), ck_pos _ (by omega), ck_pos _ (by omega)]
  | succ k ih =>
    intro f d hd hf
    obtain ⟨f, rfl⟩ : ∃ n, f = n + 1 := ⟨f - 1, by omega⟩
    have e1 : (d : Int) + 1 = ((d + 1 : Nat) : Int) := by omega
    rw [shunterlaw08_ShapeFits_l8, Int.toNat_natCast, ← hdep, if_pos (by omega), ck_pos _ (by omega), S.of l _ hl (by omega) (by omega), Option.bind_some, ofL_at l j d hj (by omega), if_neg (fun h => h rfl), if_neg (fun h => h rfl), if_pos rfl, ck_pos _ (by omega), e1]
    exact ih f (d + 1) (by omega) (by omega)
theorem fits_loop (N : Nat) (hN : 3000 < N) (S : ShapesI N) (lives : shunterlaw08_lives_m N = some true) (l : List Ins) (hl : l.length ≤ 40) :
    ∀ (k f j : Nat), j + k = l.length → k < f → shunterlaw08_ShapeFits_l3 N l f (total (l.take j) : Int) (j : Int) = some true := by
  intro k
  induction k with
  | zero =>
    intro f j hj hf
    obtain ⟨f, rfl⟩ : ∃ n, f = n + 1 := ⟨f - 1, by omega⟩
    have hfi : firstL l (l.length : Int) = (0, false) := by unfold firstL; rw [if_neg (by omega)]
    rw [shunterlaw08_ShapeFits_l3, if_neg (by omega), S.first l _ hl, Option.bind_some, hfi, S.slots l hl, Option.bind_some, List.take_of_length_le (by omega), if_pos rfl, if_pos rfl, if_neg (by decide), lives]; rfl
  | succ k ih =>
    intro f j hj hf
    obtain ⟨f, rfl⟩ : ∃ n, f = n + 1 := ⟨f - 1, by omega⟩
    have e1 : (j : Int) + 1 = ((j + 1 : Nat) : Int) := by omega
    have ht := total_take l j (by omega)
    have hd4 := dep_le (l[j]!).2.2
    have none' : dep (l[j]!).2.2 = 0 → shunterlaw08_ShapeFits_k5 N l (total (l.take j) : Int) (j : Int) (shunterlaw08_ShapeFits_l3 N l f) (firstL l (j : Int)) true = some true := fun h0 => by
      have hfi : firstL l (j : Int) = (0, false) := by unfold firstL; rw [Int.toNat_natCast, if_neg (fun h => h.2.2 h0)]
      rw [hfi, shunterlaw08_ShapeFits_k5, if_pos rfl, if_neg (by decide), if_neg (fun h => h rfl), ck_pos _ (by omega), e1, show total (l.take j) = total (l.take (j + 1)) from by omega]
      exact ih f (j + 1) (by omega) (by omega)
    rw [shunterlaw08_ShapeFits_l3, if_pos (by omega), S.first l _ hl, Option.bind_some, ck_pos _ (by omega), ck_pos _ (by omega), Int.toNat_natCast]
    by_cases a : (l[j]!).2.2 < 0
    · rw [if_pos a]
      exact none' (by unfold dep; rw [if_neg (by omega)])
    rw [if_neg a, ck_pos _ (by omega)]
    by_cases b : (l[j]!).2.2 > 4
    · rw [decide_eq_true b]
      exact none' (by unfold dep; rw [if_neg (by omega)])
    have hdep : dep (l[j]!).2.2 ≠ 0 := by unfold dep; rw [if_pos (by omega)]; omega
    have hfi : firstL l (j : Int) = ((total (l.take j) : Int), true) := by unfold firstL; rw [Int.toNat_natCast, if_pos ⟨by omega, by omega, hdep⟩]
    have hin := fits_in N S l hl j (by omega) (by omega) (by omega) (shunterlaw08_ShapeFits_l3 N l f) _ rfl (dep (l[j]!).2.2) N 0 (by omega) (by omega)
    rw [decide_eq_false b, hfi, shunterlaw08_ShapeFits_k5, if_neg (by decide), if_pos rfl, if_neg (fun h => h rfl), shunterlaw08_ShapeFits_k6]
    refine hin.trans ?_
    rw [e1, show (total (l.take j) : Int) + (dep (l[j]!).2.2 : Int) = ((total (l.take (j + 1)) : Nat) : Int) from by omega]
    exact ih f (j + 1) (by omega) (by omega)
theorem shapeFits_true (N : Nat) (hN : 3000 < N) (S : ShapesI N) (lives : shunterlaw08_lives_m N = some true) (l : List Ins) : shunterlaw08_ShapeFits_m N l = some true := by
  unfold shunterlaw08_ShapeFits_m
  rw [few_s N hN, Option.bind_some]
  by_cases hB : fewB ([] : List Hd).length l = true
  rotate_left
  · rw [if_neg hB, lives]; rfl
  have hl := (few_of hB).2.1
  rw [if_pos hB]
  exact fits_loop N hN S lives l hl l.length N 0 (by omega) (by omega)
end Go.Proofs.Ytdmakhnmfnkcmaa
