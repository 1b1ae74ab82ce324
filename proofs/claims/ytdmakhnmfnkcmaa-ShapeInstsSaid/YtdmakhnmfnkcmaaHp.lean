/- Layer 8: what the program's functions answer (headers). Conditions: texts of at most 2000 bytes, fuel above 3000. -/
import Derived.Test.YtdmakhnmfnkcmaaHs
namespace Go.Proofs.Ytdmakhnmfnkcmaa
open Go Go.RowKit Go.Eng
/-! ### names -/
theorem index_c (c : UInt8) : ∀ s : List UInt8, -1 ≤ Lib.index s [c] ∧ (Lib.index s [c] ≥ 0 ↔ c ∈ s)
  | [] => ⟨by simp [Lib.index], ⟨fun h => by revert h; simp [Lib.index], fun h => by cases h⟩⟩
  | d :: l => by
    have ih := index_c c l
    unfold Lib.index
    by_cases h : d = c
    · subst h; simp
    · have hp : List.isPrefixOf [c] (d :: l) = false := by
        simp only [List.isPrefixOf, Bool.and_true]
        exact beq_eq_false_iff_ne.2 (Ne.symm h)
      have hm : c ∈ d :: l ↔ c ∈ l := by rw [List.mem_cons]; exact ⟨fun h2 => h2.resolve_left (fun e => h e.symm), .inr⟩
      rw [hp, if_neg (by decide), hm, ← ih.2]
      by_cases h2 : Lib.index l [c] = -1
      · rw [h2]; decide
      · have e : (Lib.index l [c] == -1) = false := beq_eq_false_iff_ne.2 h2
        rw [e, if_neg (by decide)]
        omega
theorem idxF_key (s : List UInt8) (l : List (List UInt8)) (k : Nat) : idxF (fun x => keyB x == keyB s) l k = idxF (fun x => alikeL x s) l k := by
  congr 1
  funext x
  unfold alikeL
  rw [Bool.eq_iff_iff, beq_iff_eq, decide_eq_true_eq]
  exact key_inj
theorem plain_s (N : Nat) (hN : 3000 < N) (s : List UInt8) (hs : s.length ≤ 2000) : shape_plain_m N s = some (plainL s) := by
  unfold shape_plain_m plainL
  rw [may_s N s (by omega), Option.bind_some]
  by_cases h : mayL (runesL s) = true
  · rw [if_pos h, h, Bool.and_true, strings_Contains_m, strings_Index_m, ck_pos _ (show ([46] : List UInt8).length = 1 from rfl), Option.bind_some, Option.bind_some]
    congr 1
    rw [Bool.eq_iff_iff, decide_eq_true_eq, Bool.not_eq_true', decide_eq_false_iff_not, (index_c 46 s).2]
  · rw [if_neg h, Bool.eq_false_iff.2 h, Bool.and_false]
theorem set_gatherG {α : Type} [Inhabited α] (g : α → List UInt8) (l : List α) (i : Nat) (h : i < l.length) : ((l.take i).map g ++ List.replicate (l.length - i) ([] : List UInt8)).set i (g (l[i]!)) = (l.take (i + 1)).map g ++ List.replicate (l.length - (i + 1)) [] := by
  have hl : ((l.take i).map g).length = i := by rw [List.length_map, List.length_take]; omega
  rw [List.set_append_right _ _ (by rw [hl]; exact Nat.le_refl _), hl, Nat.sub_self, show l.length - i = (l.length - (i + 1)) + 1 from by omega, List.replicate_succ, List.set_cons_zero, takeS l i h, List.map_append, List.append_assoc]
  rfl
theorem gath_len {α : Type} (g : α → List UInt8) (l : List α) (i : Nat) (h : i ≤ l.length) : ((l.take i).map g ++ List.replicate (l.length - i) ([] : List UInt8)).length = l.length := by
  rw [List.length_append, List.length_map, List.length_take, List.length_replicate]; omega
theorem gathF (N : Nat) (l : List Fd) (hl : l.length ≤ 1000) : ∀ (k f i : Nat), i + k = l.length → k < f →
    shape_gather_v1_l3 N (l.length : Int) l f ((l.take i).map (·.1) ++ List.replicate (l.length - i) []) (i : Int) = some (l.map (·.1)) := by
  intro k
  induction k with
  | zero =>
    intro f i hi hf
    obtain ⟨f, rfl⟩ : ∃ n, f = n + 1 := ⟨f - 1, by omega⟩
    rw [shape_gather_v1_l3, if_neg (by omega), List.take_of_length_le (by omega), show l.length - i = 0 from by omega, List.replicate_zero, List.append_nil]
  | succ k ih =>
    intro f i hi hf
    obtain ⟨f, rfl⟩ : ∃ n, f = n + 1 := ⟨f - 1, by omega⟩
    have e1 : (i : Int) + 1 = ((i + 1 : Nat) : Int) := by omega
    rw [shape_gather_v1_l3, if_pos (by omega), shape_fieldNames_1_v1_m, ck_pos _ (by omega), Option.bind_some, ck_pos _ (by rw [gath_len _ _ _ (by omega)]; omega), ck_pos _ (by omega), e1, Int.toNat_natCast, set_gatherG _ l i (by omega)]
    exact ih f (i + 1) (by omega) (by omega)
theorem fieldNames_s (N : Nat) (l : List Fd) (hl : l.length ≤ 1000) (hN : l.length < N) : shape_fieldNames_m N l = some (l.map (·.1)) := by
  have := gathF N l hl l.length N 0 (by omega) hN
  rw [shape_fieldNames_m, shape_gather_v1_m, ck_pos _ (by omega), Int.toNat_natCast]
  have e : shape_gather_v1_l3 N (l.length : Int) l N (List.replicate l.length []) 0 = some (l.map (·.1)) := this
  rw [e]; rfl
theorem mayName_s (N : Nat) (hN : 3000 < N) (l : List (List UInt8)) (i : Nat) (hi : i < l.length) (hl : l.length ≤ 300) (hall : ∀ j, j < l.length → (l[j]!).length ≤ 300) :
    shape_mayName_m N l (i : Int) = some (if plainL (l[i]!) = true then if (l.take i).any (fun x => alikeL x (l[i]!)) = true then 6 else 0 else 4) := by
  have hs := hall i hi
  rw [shape_mayName_m, ck_pos _ (by omega), Int.toNat_natCast, plain_s N hN _ (by omega), Option.bind_some]
  by_cases c1 : plainL (l[i]!) = true
  · rw [if_pos c1, if_pos c1, ck_pos _ (by omega), ck_pos _ (by omega), List.drop_zero, index_s N _ _ hN (by rw [List.length_take]; omega) hs (fun j hj => by
      rw [List.length_take] at hj
      have := hall j (by omega)
      rw [getElem!_pos _ j (by rw [List.length_take]; exact hj), List.getElem_take]
      rw [getElem!_pos l j (by omega)] at this
      exact this), Option.bind_some, idxF_key]
    by_cases c2 : (l.take i).any (fun x => alikeL x (l[i]!)) = true
    · rw [if_pos ((idxF_any _ _ _).2 c2), if_pos c2]
    · rw [if_neg (fun h => c2 ((idxF_any _ _ _).1 h)), if_neg c2]
  · rw [if_neg c1, if_neg c1]
theorem any_names {α : Type} (g : α → List UInt8) (l : List α) (i : Nat) (s : List UInt8) : ((l.map g).take i).any (fun x => alikeL x s) = (l.take i).any (fun x => alikeL (g x) s) := by
  rw [← List.map_take, List.any_map]; rfl
theorem names_get {α : Type} [Inhabited α] (g : α → List UInt8) (l : List α) (i : Nat) (h : i < l.length) : (l.map g)[i]! = g (l[i]!) := by
  rw [getElem!_pos _ i (by rw [List.length_map]; exact h), List.getElem_map, getElem!_pos l i h]
/-! ### headers -/
theorem within8_s (N : Nat) (n a b : Int) : shape_within_m N n a b = some (decide (a ≤ n ∧ n ≤ b)) := by
  unfold shape_within_m
  by_cases h : a ≤ n
  · rw [if_pos h]
    by_cases h1 : n ≤ b
    · rw [decide_eq_true h1, decide_eq_true ⟨h, h1⟩]
    · rw [decide_eq_false h1, decide_eq_false (fun h2 => h1 h2.2)]
  · rw [if_neg h, decide_eq_false (fun h2 => h h2.1)]
theorem mayVary_s (N : Nat) (h0 : List UInt8) (h1 : List Fd) (h2 h3 h4 h5 : Int) (hl : h1.length ≤ 40) : shape_mayVary_v1_m N h0 h1 h2 h3 h4 h5 = some (varB h1 h2 h3 h4 h5) := by
  unfold shape_mayVary_v1_m varB
  by_cases c : h2 = 0
  · rw [if_pos c, if_pos c]
    by_cases a : h3 = 0
    · rw [if_pos a]
      by_cases b : h4 = 0
      · rw [if_pos b]; congr 1
        rw [Bool.eq_iff_iff, beq_iff_eq, decide_eq_true_eq]; omega
      · rw [if_neg b, decide_eq_false (by omega)]
    · rw [if_neg a, decide_eq_false (by omega)]
  rw [if_neg c, if_neg c, within8_s, Option.bind_some]
  by_cases a : 1 ≤ h2 ∧ h2 ≤ 64
  rotate_left
  · rw [decide_eq_false a, if_neg (by decide), decide_eq_false (by omega)]
  rw [decide_eq_true a, if_pos rfl, ck_pos _ (by omega), within8_s, Option.bind_some]
  by_cases b : 0 ≤ h3 ∧ h3 ≤ (h1.length : Int) - 1
  rotate_left
  · rw [decide_eq_false b, if_neg (by decide), decide_eq_false (by omega)]
  rw [decide_eq_true b, if_pos rfl, ck_pos _ (by omega)]
  by_cases d : (h1[h3.toNat]!).2 ≤ 16
  rotate_left
  · rw [if_neg d, decide_eq_false (by omega)]
  rw [if_pos d, within8_s, Option.bind_some]
  by_cases e : 1 ≤ h4 ∧ h4 ≤ 64
  rotate_left
  · rw [decide_eq_false e, if_neg (by decide), decide_eq_false (by omega)]
  rw [decide_eq_true e, if_pos rfl, within8_s, Option.bind_some]
  congr 1
  rw [Bool.eq_iff_iff, decide_eq_true_eq, decide_eq_true_eq]; omega
theorem width_loop (l : List Fd) (hw : okW l) (hl : l.length ≤ 40) : ∀ (k f i : Nat), i + k = l.length → k < f → shape_width_l3 l f (sumW (l.take i)) (i : Int) = some (sumW l) := by
  intro k
  induction k with
  | zero =>
    intro f i hi hf
    obtain ⟨f, rfl⟩ : ∃ n, f = n + 1 := ⟨f - 1, by omega⟩
    rw [shape_width_l3, if_neg (by omega), List.take_of_length_le (by omega)]
  | succ k ih =>
    intro f i hi hf
    obtain ⟨f, rfl⟩ : ∃ n, f = n + 1 := ⟨f - 1, by omega⟩
    have e1 : (i : Int) + 1 = ((i + 1 : Nat) : Int) := by omega
    have es : sumW (l.take i) + (l[i]!).2 = sumW (l.take (i + 1)) := by rw [takeS l i (by omega), sumW_app]; simp [sumW]
    have hs := okW_sum _ (okW_take hw (i + 1))
    have hlt : (l.take (i + 1)).length ≤ 40 := by rw [List.length_take]; omega
    rw [shape_width_l3, if_pos (by omega), ck_pos _ (by omega), Int.toNat_natCast, es, ck_pos _ (by omega), ck_pos _ (by omega), e1]
    exact ih f (i + 1) (by omega) (by omega)
theorem width_s (N : Nat) (hN : 3000 < N) (l : List Fd) (hw : okW l) (hl : l.length ≤ 40) : shape_width_m N l = some (sumW l) := width_loop l hw hl l.length N 0 (by omega) (by omega)
theorem mayFields_loop (N : Nat) (hN : 3000 < N) (h1 : List Fd) (hl : h1.length ≤ 40) (hall : ∀ j, j < h1.length → (h1[j]!).1.length ≤ 200) :
    ∀ (k f i : Nat), i + k = h1.length → k < f → shape_mayFields_l2 N h1 (h1.map (·.1)) f (i : Int) = some (goF (h1.take i) (h1.drop i)) := by
  intro k
  induction k with
  | zero =>
    intro f i hi hf
    obtain ⟨f, rfl⟩ : ∃ n, f = n + 1 := ⟨f - 1, by omega⟩
    rw [shape_mayFields_l2, if_neg (by omega), List.drop_of_length_le (by omega)]; rfl
  | succ k ih =>
    intro f i hi hf
    obtain ⟨f, rfl⟩ : ∃ n, f = n + 1 := ⟨f - 1, by omega⟩
    have e1 : (i : Int) + 1 = ((i + 1 : Nat) : Int) := by omega
    have en := names_get (fun x : Fd => x.1) h1 i (by omega)
    rw [shape_mayFields_l2, if_pos (by omega), ck_pos _ (by omega), Int.toNat_natCast, mayName_s N hN _ i (by rw [List.length_map]; omega) (by rw [List.length_map]; omega) (fun j hj => by
        rw [List.length_map] at hj
        have := hall j hj
        rw [names_get (fun x : Fd => x.1) h1 j hj]; omega), Option.bind_some, en, any_names, consI h1 i (by omega), goF]
    by_cases c1 : plainL (h1[i]!).1 = true
    rotate_left
    · rw [if_neg c1, if_neg c1]; rfl
    rw [if_pos c1, if_pos c1]
    by_cases c2 : (h1.take i).any (fun x => alikeL x.1 (h1[i]!).1) = true
    · rw [if_pos c2, if_pos c2]; rfl
    rw [if_neg c2, if_neg c2, if_neg (fun h => h rfl), within8_s, Option.bind_some]
    by_cases c3 : (h1[i]!).2 < 1 ∨ 128 < (h1[i]!).2
    · rw [decide_eq_false (by omega), if_neg (by decide), if_pos c3]
    rw [decide_eq_true (by omega), if_pos rfl, if_neg c3, ck_pos _ (by omega), e1, ih f (i + 1) (by omega) (by omega), takeS h1 i (by omega)]
theorem mayFields_s (N : Nat) (hN : 3000 < N) (h1 : List Fd) (hl : h1.length ≤ 40) (hall : ∀ j, j < h1.length → (h1[j]!).1.length ≤ 200) : shape_mayFields_m N h1 = some (goF [] h1) := by
  have := mayFields_loop N hN h1 hl hall h1.length N 0 (by omega) (by omega)
  rw [shape_mayFields_m, fieldNames_s N h1 (by omega) (by omega), Option.bind_some]
  exact this
theorem pmay_s (N : Nat) (hN : 3000 < N) (h0 : List UInt8) (h1 : List Fd) (h2 h3 h4 h5 : Int) (hl : Lt h0 h1) : shape_May_v1_m N h0 h1 h2 h3 h4 h5 = some (mayH h0 h1 h2 h3 h4 h5) := by
  have hlen := hl.1
  unfold shape_May_v1_m mayH
  rw [plain_s N hN h0 (by have := hl.2.1; omega), Option.bind_some]
  by_cases c1 : plainL h0 = true
  rotate_left
  · rw [if_neg c1, if_neg c1]
  rw [if_pos c1, if_pos c1]
  by_cases c2 : 16 < h1.length
  · rw [if_pos (by omega), if_pos c2]
  rw [if_neg (by omega), if_neg c2]
  by_cases c3 : h1.length = 0
  · rw [if_pos (by omega), if_pos c3]
  rw [if_neg (by omega), if_neg c3, mayFields_s N hN h1 hlen hl.2.2, Option.bind_some, finF]
  by_cases c4 : goF [] h1 = 0
  rotate_left
  · rw [if_pos c4, if_neg c4]
  have hw := goF_ok _ _ c4
  have hs := okW_sum _ hw
  rw [if_neg (fun h => h c4), if_pos c4, width_s N hN h1 hw hlen, Option.bind_some, ck_pos _ (by omega), tailF, mayVary_s N _ _ _ _ _ _ hlen, Option.bind_some]
  by_cases a : sumW h1 % 8 ≠ 0
  · rw [if_pos a, if_pos a]
  rw [if_neg a, if_neg a]
  by_cases b : varB h1 h2 h3 h4 h5 = true
  · rw [if_pos b, if_pos b]
  · rw [if_neg b, if_neg b]
end Go.Proofs.Ytdmakhnmfnkcmaa
