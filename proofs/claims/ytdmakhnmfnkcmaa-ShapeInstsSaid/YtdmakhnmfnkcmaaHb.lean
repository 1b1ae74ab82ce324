/- Layer 8: the document's answers by definition: sums of widths, what varies, slots, instances; the laws' bounds. Conditions: fuel above 3000. -/
import Derived.Test.YtdmakhnmfnkcmaaHa
import Derived.Test.YtdmakhnmfnkcmaaRx
namespace Go.Proofs.Ytdmakhnmfnkcmaa
open Go Go.RowKit Go.Eng
/-! ### bounds -/
def lightB (h0 : List UInt8) (h1 : List Fd) : Bool := decide (h1.length ≤ 40) && decide (h0.length ≤ 200) && h1.all (fun x => decide (x.1.length ≤ 200))
theorem light_loop (h1 : List Fd) (hl : h1.length ≤ 40) : ∀ (k f i : Nat), i + k = h1.length → k < f → shunterlaw08_light_v1_l3 h1 f (i : Int) = some ((h1.drop i).all (fun x => decide (x.1.length ≤ 200))) := by
  intro k
  induction k with
  | zero =>
    intro f i hi hf
    obtain ⟨f, rfl⟩ : ∃ n, f = n + 1 := ⟨f - 1, by omega⟩
    rw [shunterlaw08_light_v1_l3, if_neg (by omega), List.drop_of_length_le (by omega)]; rfl
  | succ k ih =>
    intro f i hi hf
    obtain ⟨f, rfl⟩ : ∃ n, f = n + 1 := ⟨f - 1, by omega⟩
    have e1 : (i : Int) + 1 = ((i + 1 : Nat) : Int) := by omega
    have hd : h1.drop i = h1[i]! :: h1.drop (i + 1) := by rw [List.drop_eq_getElem_cons (by omega), getElem!_pos h1 i (by omega)]
    rw [shunterlaw08_light_v1_l3, if_pos (by omega), ck_pos _ (by omega), Int.toNat_natCast, hd, List.all_cons]
    by_cases h : (h1[i]!).1.length ≤ 200
    · rw [if_neg (by omega), ck_pos _ (by omega), e1, ih f (i + 1) (by omega) (by omega), decide_eq_true h, Bool.true_and]
    · rw [if_pos (by omega), decide_eq_false h, Bool.false_and]
theorem light_s (N : Nat) (hN : 3000 < N) (h0 : List UInt8) (h1 : List Fd) (h2 h3 h4 h5 : Int) : shunterlaw08_light_v1_m N h0 h1 h2 h3 h4 h5 = some (lightB h0 h1) := by
  unfold shunterlaw08_light_v1_m lightB shunterlaw08_light_v1_k1
  by_cases a : h1.length ≤ 40
  · rw [if_neg (by omega), decide_eq_true a, Bool.true_and]
    by_cases b : h0.length ≤ 200
    · have := light_loop h1 a h1.length N 0 (by omega) (by omega)
      rw [if_neg (by omega), decide_eq_true b, Bool.true_and, show (0 : Int) = ((0 : Nat) : Int) from rfl, this, List.drop_zero]
    · rw [if_pos (by omega), decide_eq_false b, Bool.false_and]
  · rw [if_pos (by omega), decide_eq_false a, Bool.false_and, Bool.false_and]
theorem light_of {h0 : List UInt8} {h1 : List Fd} (h : lightB h0 h1 = true) : h1.length ≤ 40 ∧ h0.length ≤ 200 ∧ ∀ j, j < h1.length → (h1[j]!).1.length ≤ 200 := by
  unfold lightB at h
  simp only [Bool.and_eq_true, decide_eq_true_eq, List.all_eq_true] at h
  exact ⟨h.1.1, h.1.2, fun j hj => by rw [getElem!_pos h1 j hj]; exact h.2 _ (List.getElem_mem hj)⟩
abbrev Ins := List UInt8 × Int × Int
abbrev Hd := (List UInt8) × (List (List UInt8 × Int)) × Int × Int × Int × Int
def fewB (n : Nat) (l : List Ins) : Bool := decide (n ≤ 30) && decide (l.length ≤ 40) && l.all (fun x => decide (x.1.length ≤ 200))
theorem few_loop (l : List Ins) (hl : l.length ≤ 40) : ∀ (k f i : Nat), i + k = l.length → k < f → shunterlaw08_few_l3 l f (i : Int) = some ((l.drop i).all (fun x => decide (x.1.length ≤ 200))) := by
  intro k
  induction k with
  | zero =>
    intro f i hi hf
    obtain ⟨f, rfl⟩ : ∃ n, f = n + 1 := ⟨f - 1, by omega⟩
    rw [shunterlaw08_few_l3, if_neg (by omega), List.drop_of_length_le (by omega)]; rfl
  | succ k ih =>
    intro f i hi hf
    obtain ⟨f, rfl⟩ : ∃ n, f = n + 1 := ⟨f - 1, by omega⟩
    have e1 : (i : Int) + 1 = ((i + 1 : Nat) : Int) := by omega
    have hd : l.drop i = l[i]! :: l.drop (i + 1) := by rw [List.drop_eq_getElem_cons (by omega), getElem!_pos l i (by omega)]
    rw [shunterlaw08_few_l3, if_pos (by omega), ck_pos _ (by omega), Int.toNat_natCast, hd, List.all_cons]
    by_cases h : (l[i]!).1.length ≤ 200
    · rw [if_neg (by omega), ck_pos _ (by omega), e1, ih f (i + 1) (by omega) (by omega), decide_eq_true h, Bool.true_and]
    · rw [if_pos (by omega), decide_eq_false h, Bool.false_and]
theorem few_s (N : Nat) (hN : 3000 < N) (hs : List Hd) (l : List Ins) : shunterlaw08_few_m N hs l = some (fewB hs.length l) := by
  unfold shunterlaw08_few_m fewB shunterlaw08_few_k1
  by_cases a : hs.length ≤ 30
  · rw [if_neg (by omega), decide_eq_true a, Bool.true_and]
    by_cases b : l.length ≤ 40
    · have := few_loop l b l.length N 0 (by omega) (by omega)
      rw [if_neg (by omega), decide_eq_true b, Bool.true_and, show (0 : Int) = ((0 : Nat) : Int) from rfl, this, List.drop_zero]
    · rw [if_pos (by omega), decide_eq_false b, Bool.false_and]
  · rw [if_pos (by omega), decide_eq_false a, Bool.false_and, Bool.false_and]
theorem few_of {n : Nat} {l : List Ins} (h : fewB n l = true) : n ≤ 30 ∧ l.length ≤ 40 ∧ ∀ j, j < l.length → (l[j]!).1.length ≤ 200 := by
  unfold fewB at h
  simp only [Bool.and_eq_true, decide_eq_true_eq, List.all_eq_true] at h
  exact ⟨h.1.1, h.1.2, fun j hj => by rw [getElem!_pos l j hj]; exact h.2 _ (List.getElem_mem hj)⟩
/-! ### sums -/
theorem okW_take {l : List Fd} (h : okW l) (i : Nat) : okW (l.take i) := fun x hx => h x (List.mem_of_mem_take hx)
/-- A header that may be. -/
theorem mayH_ok {h0 : List UInt8} {h1 : List Fd} {h2 h3 h4 h5 : Int} (h : mayH h0 h1 h2 h3 h4 h5 = 0) : okW h1 ∧ sumW h1 % 8 = 0 ∧ h1.length ≤ 16 ∧ 1 ≤ h1.length ∧ varB h1 h2 h3 h4 h5 = true := by
  unfold mayH at h
  by_cases c1 : plainL h0 = true
  · rw [if_pos c1] at h
    by_cases c2 : 16 < h1.length
    · rw [if_pos c2] at h; omega
    rw [if_neg c2] at h
    by_cases c3 : h1.length = 0
    · rw [if_pos c3] at h; omega
    rw [if_neg c3] at h
    unfold finF at h
    by_cases c4 : goF [] h1 = 0
    · rw [if_pos c4] at h
      unfold tailF at h
      by_cases c5 : sumW h1 % 8 ≠ 0
      · rw [if_pos c5] at h; omega
      rw [if_neg c5] at h
      by_cases c6 : varB h1 h2 h3 h4 h5 = true
      · exact ⟨goF_ok _ _ c4, by omega, by omega, by omega, c6⟩
      · rw [if_neg c6] at h; omega
    · rw [if_neg c4] at h; omega
  · rw [if_neg c1] at h; omega
theorem varB_var {h1 : List Fd} {h2 h3 h4 h5 : Int} (h : varB h1 h2 h3 h4 h5 = true) : 0 ≤ h2 ∧ h2 ≤ 64 ∧ (h2 = 0 → h4 = 0 ∧ h5 = 0) ∧ 0 ≤ h4 ∧ h4 ≤ 64 ∧ 0 ≤ h5 ∧ h5 ≤ 4096 := by
  unfold varB at h
  by_cases c : h2 = 0
  · rw [if_pos c] at h; have := of_decide_eq_true h; omega
  · rw [if_neg c] at h; have := of_decide_eq_true h; omega
def varyL (h2 h4 h5 n : Int) : Int × Bool := if 0 ≤ n ∧ n ≤ 65535 then if h2 = 0 then (0, true) else if 0 ≤ h4 * n - h5 ∧ h4 * n - h5 ≤ h2 then (h4 * n - h5, true) else (0, false) else (0, false)
theorem mul_b {h4 n : Int} (h : 0 ≤ h4 ∧ h4 ≤ 64) (hn : 0 ≤ n ∧ n ≤ 65535) : 0 ≤ h4 * n ∧ h4 * n ≤ 64 * 65535 := by
  refine ⟨Int.mul_nonneg h.1 hn.1, Int.le_trans (Int.mul_le_mul_of_nonneg_right h.2 hn.1) (Int.mul_le_mul_of_nonneg_left hn.2 (by decide))⟩
/-! ### slots -/
def dep (d : Int) : Nat := if 0 ≤ d ∧ d ≤ 4 then (max d 1).toNat else 0
def slotsF : Nat → List Ins → List (Int × Int)
  | _, [] => []
  | i, x :: r => (List.range (dep x.2.2)).map (fun k : Nat => ((i : Int), (k : Int))) ++ slotsF (i + 1) r
def total (l : List Ins) : Nat := (l.map (fun x => dep x.2.2)).sum
def ofF : Nat → List Ins → Int → Int × Int × Bool
  | _, [], _ => (0, 0, false)
  | i, x :: r, k => if k < (dep x.2.2 : Int) then ((i : Int), k, true) else ofF (i + 1) r (k - (dep x.2.2 : Int))
def ofL (l : List Ins) (k : Int) : Int × Int × Bool := if k < 0 then (0, 0, false) else ofF 0 l k
theorem dep_le (d : Int) : dep d ≤ 4 := by unfold dep; split <;> omega
theorem slotsF_len : ∀ (l : List Ins) (i : Nat), (slotsF i l).length = total l
  | [], _ => rfl
  | x :: r, i => by rw [slotsF, List.length_append, List.length_map, List.length_range, slotsF_len r]; simp [total]
theorem total_le : ∀ l : List Ins, total l ≤ 4 * l.length
  | [] => by simp [total]
  | x :: r => by
    have := total_le r; have := dep_le x.2.2
    have e : total (x :: r) = dep x.2.2 + total r := by simp [total]
    rw [e, List.length_cons]; omega
theorem ofF_slots : ∀ (l : List Ins) (i k : Nat), ofF i l (k : Int) = if h : k < (slotsF i l).length then (((slotsF i l)[k]).1, ((slotsF i l)[k]).2, true) else (0, 0, false)
  | [], i, k => by rw [dif_neg (by simp [slotsF])]; rfl
  | x :: r, i, k => by
    have hlen : ((List.range (dep x.2.2)).map (fun k : Nat => ((i : Int), (k : Int)))).length = dep x.2.2 := by rw [List.length_map, List.length_range]
    rw [ofF]
    by_cases h : k < dep x.2.2
    · rw [if_pos (by omega), dif_pos (by rw [slotsF, List.length_append, hlen]; omega)]
      simp only [slotsF]
      rw [List.getElem_append_left (by rw [hlen]; exact h), List.getElem_map, List.getElem_range]
    · have ih := ofF_slots r (i + 1) (k - dep x.2.2)
      rw [if_neg (by omega), show (k : Int) - (dep x.2.2 : Int) = ((k - dep x.2.2 : Nat) : Int) from by omega, ih]
      by_cases h2 : k - dep x.2.2 < (slotsF (i + 1) r).length
      · rw [dif_pos h2, dif_pos (by rw [slotsF, List.length_append, hlen]; omega)]
        simp only [slotsF]
        rw [List.getElem_append_right (by rw [hlen]; omega)]
        simp only [hlen]
      · rw [dif_neg h2, dif_neg (by rw [slotsF, List.length_append, hlen]; omega)]
end Go.Proofs.Ytdmakhnmfnkcmaa
