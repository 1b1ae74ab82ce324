/- Layer 8: the document's answers by definition: slots in a row, and which instances may be. Conditions: fuel above 3000. -/
import Derived.Test.YtdmakhnmfnkcmaaHb
namespace Go.Proofs.Ytdmakhnmfnkcmaa
open Go Go.RowKit Go.Eng

theorem slots_in (i : Nat) (hi : i ≤ 100) (rec : List (Int × Int) → Int → Option (List (Int × Int))) (n : Nat) (hn : n ≤ 4) :
    ∀ (k f j : Nat) (out : List (Int × Int)), j + k = n → k < f → out.length + k ≤ 2000 → shunterref08_Slots_l8 (i : Int) rec (n : Int) f out (j : Int) = rec (out ++ ((List.range n).drop j).map (fun k : Nat => ((i : Int), (k : Int)))) ((i : Int) + 1) := by
  intro k
  induction k with
  | zero =>
    intro f j out hj hf ho
    obtain ⟨f, rfl⟩ : ∃ n, f = n + 1 := ⟨f - 1, by omega⟩
    rw [shunterref08_Slots_l8, if_neg (by omega), ck_pos _ (by omega), List.drop_of_length_le (by rw [List.length_range]; omega), List.map_nil, List.append_nil]
  | succ k ih =>
    intro f j out hj hf ho
    obtain ⟨f, rfl⟩ : ∃ n, f = n + 1 := ⟨f - 1, by omega⟩
    have e1 : (j : Int) + 1 = ((j + 1 : Nat) : Int) := by omega
    have hd : (List.range n).drop j = j :: (List.range n).drop (j + 1) := by rw [List.drop_eq_getElem_cons (by rw [List.length_range]; omega), List.getElem_range]
    rw [shunterref08_Slots_l8, if_pos (by omega), if_pos (by omega), shunterref08_Slots_k9, ck_pos _ (by simp only [List.length_singleton]; omega), ck_pos _ (by omega), e1, ih f (j + 1) _ (by omega) (by omega) (by rw [List.length_append, List.length_singleton]; omega), hd, List.map_cons, List.append_assoc]
    rfl
theorem refslots_loop (N : Nat) (hN : 3000 < N) (l : List Ins) (hl : l.length ≤ 40) : ∀ (k f i : Nat) (out : List (Int × Int)), i + k = l.length → k < f → out.length ≤ 4 * i → shunterref08_Slots_l3 N l f out (i : Int) = some (out ++ slotsF i (l.drop i)) := by
  intro k
  induction k with
  | zero =>
    intro f i out hi hf ho
    obtain ⟨f, rfl⟩ : ∃ n, f = n + 1 := ⟨f - 1, by omega⟩
    rw [shunterref08_Slots_l3, if_neg (by omega), List.drop_of_length_le (by omega), slotsF, List.append_nil]
  | succ k ih =>
    intro f i out hi hf ho
    obtain ⟨f, rfl⟩ : ∃ n, f = n + 1 := ⟨f - 1, by omega⟩
    have e1 : (i : Int) + 1 = ((i + 1 : Nat) : Int) := by omega
    have hdl := dep_le (l[i]!).2.2
    have next : ∀ ys : List Int, ys.length = dep (l[i]!).2.2 → shunterref08_Slots_l3 N l f (out ++ ys.map (fun k => ((i : Int), k))) ((i : Int) + 1) = some (out ++ (ys.map (fun k => ((i : Int), k)) ++ slotsF (i + 1) (l.drop (i + 1)))) := fun ys hy => by
      rw [e1, ih f (i + 1) _ (by omega) (by omega) (by rw [List.length_append, List.length_map, hy]; omega), List.append_assoc]
    have nextR : ∀ n : Nat, n = dep (l[i]!).2.2 → shunterref08_Slots_l3 N l f (out ++ (List.range n).map (fun k : Nat => ((i : Int), (k : Int)))) ((i : Int) + 1) = some (out ++ slotsF i (l.drop i)) := fun n hn => by
      have := next ((List.range n).map (fun k : Nat => (k : Int))) (by rw [List.length_map, List.length_range, hn])
      rw [List.map_map] at this
      rw [consI l i (by omega), slotsF, ← hn]
      exact this
    rw [shunterref08_Slots_l3, if_pos (by omega), ck_pos _ (by omega), Int.toNat_natCast]
    by_cases c0 : (l[i]!).2.2 = 0
    · rw [if_pos c0, shunterref08_Slots_k5, show (1 : Int) = ((1 : Nat) : Int) from rfl, show (0 : Int) = ((0 : Nat) : Int) from rfl, slots_in i (by omega) _ 1 (by omega) 1 N 0 out (by omega) (by omega) (by omega), List.drop_zero]
      exact nextR 1 (by unfold dep; rw [c0]; rfl)
    rw [if_neg c0, shunterref08_Slots_k5]
    by_cases c1 : (l[i]!).2.2 < 0
    · obtain ⟨M, rfl⟩ : ∃ n, N = n + 1 := ⟨N - 1, by omega⟩
      rw [shunterref08_Slots_l8, if_neg (by omega), ck_pos _ (by omega)]
      have := nextR 0 (by unfold dep; rw [if_neg (by omega)])
      rw [List.range_zero, List.map_nil, List.append_nil] at this
      exact this
    by_cases c4 : (l[i]!).2.2 ≤ 4
    · have hz : ((((l[i]!).2.2).toNat : Nat) : Int) = (l[i]!).2.2 := by omega
      rw [← hz, show (0 : Int) = ((0 : Nat) : Int) from rfl, slots_in i (by omega) _ _ (by omega) ((l[i]!).2.2).toNat N 0 out (by omega) (by omega) (by omega), List.drop_zero]
      exact nextR _ (by unfold dep; rw [if_pos (by omega)]; omega)
    · obtain ⟨M, rfl⟩ : ∃ n, N = n + 1 := ⟨N - 1, by omega⟩
      rw [shunterref08_Slots_l8, if_pos (by omega), if_neg c4, ck_pos _ (by omega)]
      have := nextR 0 (by unfold dep; rw [if_neg (by omega)])
      rw [List.range_zero, List.map_nil, List.append_nil] at this
      exact this
theorem refslots_s (N : Nat) (hN : 3000 < N) (l : List Ins) (hl : l.length ≤ 40) : shunterref08_Slots_m N l = some (slotsF 0 l) := by
  have := refslots_loop N hN l hl l.length N 0 [] (by omega) (by omega) (by simp)
  rw [List.drop_zero, List.nil_append] at this
  exact this
/-! ### instances -/
def goI (n : Nat) : List Ins → List Ins → Int
  | _, [] => 0
  | pre, x :: r => if plainL x.1 = true then if pre.any (fun y => alikeL y.1 x.1) = true then 6 else if x.2.1 < 0 ∨ (n : Int) ≤ x.2.1 then 5 else if x.2.2 < 0 ∨ 4 < x.2.2 then 7 else goI n (pre ++ [x]) r else 4
def finI (l : List Ins) (e : Int) : Int := if e = 0 then if 32 < total l then 8 else 0 else e
def instsL (n : Nat) (l : List Ins) : Int := if 16 < l.length then 2 else finI l (goI n [] l)
theorem refinsts_in (N : Nat) (hN : 3000 < N) (hs : List Hd) (l : List Ins) (i : Nat) (hi : i < l.length) (hl : l.length ≤ 40) (hall : ∀ j, j < l.length → ((l[j]!).1).length ≤ 300) (rec : Int → Option Int) :
    ∀ (k f j : Nat), j + k = i → k < f → shunterref08_Insts_l4 N hs l (i : Int) rec f (j : Int) = (if ((l.take i).drop j).any (fun x => alikeL x.1 (l[i]!).1) = true then some 6 else if (l[i]!).2.1 < 0 ∨ (hs.length : Int) ≤ (l[i]!).2.1 then some 5 else if (l[i]!).2.2 < 0 ∨ 4 < (l[i]!).2.2 then some 7 else rec ((i : Int) + 1)) := by
  intro k
  induction k with
  | zero =>
    intro f j hj hf
    obtain ⟨f, rfl⟩ : ∃ n, f = n + 1 := ⟨f - 1, by omega⟩
    rw [shunterref08_Insts_l4, if_neg (by omega), ck_pos _ (by omega), List.drop_of_length_le (by rw [List.length_take]; omega), Int.toNat_natCast, List.any_nil, if_neg Bool.false_ne_true]
    by_cases a : (l[i]!).2.1 < 0
    · rw [if_pos a, if_pos (Or.inl a)]
    rw [if_neg a, ck_pos _ (by omega)]
    by_cases b : (l[i]!).2.1 ≥ (hs.length : Int)
    · rw [if_pos b, if_pos (Or.inr b)]
    rw [if_neg b, if_neg (by omega), shunterref08_Insts_k5, ck_pos _ (by omega), Int.toNat_natCast]
    by_cases c : (l[i]!).2.2 < 0
    · rw [if_pos c, if_pos (Or.inl c)]
    rw [if_neg c, ck_pos _ (by omega)]
    by_cases d : (l[i]!).2.2 > 4
    · rw [if_pos d, if_pos (Or.inr d)]
    rw [if_neg d, if_neg (by omega), ck_pos _ (by omega)]
  | succ k ih =>
    intro f j hj hf
    obtain ⟨f, rfl⟩ : ∃ n, f = n + 1 := ⟨f - 1, by omega⟩
    have e1 : (j : Int) + 1 = ((j + 1 : Nat) : Int) := by omega
    have a1 := hall j (by omega)
    have a2 := hall i hi
    rw [shunterref08_Insts_l4, if_pos (by omega), ck_pos _ (by omega), ck_pos _ (by omega), Int.toNat_natCast, Int.toNat_natCast, refalike_s N _ _ (by omega) (by omega) hN, Option.bind_some, any_drop l i j (by omega) (by omega)]
    by_cases h : alikeL (l[j]!).1 (l[i]!).1 = true
    · rw [if_pos h, if_pos (by rw [h]; rfl)]
    · rw [if_neg h, ck_pos _ (by omega), e1, ih f (j + 1) (by omega) (by omega), Bool.eq_false_iff.2 h, Bool.false_or]
theorem refinsts_loop (N : Nat) (hN : 3000 < N) (hs : List Hd) (l : List Ins) (hl : l.length ≤ 40) (hall : ∀ j, j < l.length → ((l[j]!).1).length ≤ 300) :
    ∀ (k f i : Nat), i + k = l.length → k < f → shunterref08_Insts_l2 N hs l f (i : Int) = some (finI l (goI hs.length (l.take i) (l.drop i))) := by
  intro k
  induction k with
  | zero =>
    intro f i hi hf
    obtain ⟨f, rfl⟩ : ∃ n, f = n + 1 := ⟨f - 1, by omega⟩
    rw [shunterref08_Insts_l2, if_neg (by omega), List.drop_of_length_le (by omega), goI, finI, if_pos rfl, refslots_s N hN l hl, Option.bind_some, slotsF_len]
    by_cases c : 32 < total l
    · rw [if_pos c, if_pos (by omega)]
    · rw [if_neg c, if_neg (by omega)]
  | succ k ih =>
    intro f i hi hf
    obtain ⟨f, rfl⟩ : ∃ n, f = n + 1 := ⟨f - 1, by omega⟩
    have e1 : (i : Int) + 1 = ((i + 1 : Nat) : Int) := by omega
    have a2 := hall i (by omega)
    rw [shunterref08_Insts_l2, if_pos (by omega), ck_pos _ (by omega), Int.toNat_natCast, refplain_s N _ (by omega) hN, Option.bind_some, consI l i (by omega), goI]
    by_cases c1 : plainL (l[i]!).1 = true
    · have hin := refinsts_in N hN hs l i (by omega) hl hall (shunterref08_Insts_l2 N hs l f) i N 0 (by omega) (by omega)
      rw [show ((0 : Nat) : Int) = 0 from rfl, List.drop_zero] at hin
      rw [if_pos c1, if_pos c1, hin]
      by_cases c2 : (l.take i).any (fun x => alikeL x.1 (l[i]!).1) = true
      · rw [if_pos c2, if_pos c2]; rfl
      rw [if_neg c2, if_neg c2]
      by_cases c3 : (l[i]!).2.1 < 0 ∨ (hs.length : Int) ≤ (l[i]!).2.1
      · rw [if_pos c3, if_pos c3]; rfl
      rw [if_neg c3, if_neg c3]
      by_cases c4 : (l[i]!).2.2 < 0 ∨ 4 < (l[i]!).2.2
      · rw [if_pos c4, if_pos c4]; rfl
      rw [if_neg c4, if_neg c4, e1, ih f (i + 1) (by omega) (by omega), takeS l i (by omega)]
    · rw [if_neg c1, if_neg c1]; rfl
theorem refinsts_s (N : Nat) (hN : 3000 < N) (hs : List Hd) (l : List Ins) (hl : l.length ≤ 40) (hall : ∀ j, j < l.length → ((l[j]!).1).length ≤ 300) : shunterref08_Insts_m N hs l = some (instsL hs.length l) := by
  have := refinsts_loop N hN hs l hl hall l.length N 0 (by omega) (by omega)
  unfold shunterref08_Insts_m instsL
  by_cases c : 16 < l.length
  · rw [if_pos c, if_pos (by omega)]
  · rw [if_neg c, if_neg (by omega), show (0 : Int) = ((0 : Nat) : Int) from rfl, this, List.drop_zero, List.take_zero]
end Go.Proofs.Ytdmakhnmfnkcmaa
