/- Layer 8: the law ShapeInsts answers true, if the program's functions have the answers that are told. Conditions: what Insts, Slots, Of, Header and Find answer, and that the example holds, proved elsewhere; fuel above 3000. -/
import Derived.Test.YtdmakhnmfnkcmaaHs
import Derived.Test.YtdmakhnmfnkcmaaHd
import Derived.Test.YtdmakhnmfnkcmaaHg
import Derived.Test.YtdmakhnmfnkcmaaLShapeInsts
namespace Go.Proofs.Ytdmakhnmfnkcmaa
open Go Go.RowKit Go.Eng
theorem slotsF_mem : ∀ (l : List Ins) (i : Nat), ∀ p ∈ slotsF i l, (i : Int) ≤ p.1 ∧ p.1 < ((i + l.length : Nat) : Int)
  | [], _, p, h => by cases h
  | x :: r, i, p, h => by
    rw [slotsF] at h
    rcases List.mem_append.1 h with h | h
    · obtain ⟨k, _, rfl⟩ := List.mem_map.1 h
      rw [List.length_cons]; exact ⟨Int.le_refl _, by show (i : Int) < _; omega⟩
    · have := slotsF_mem r (i + 1) p h
      rw [List.length_cons]; omega
theorem ofL_in (l : List Ins) (k : Nat) (h : k < (slotsF 0 l).length) : ofL l (k : Int) = (((slotsF 0 l)[k]!).1, ((slotsF 0 l)[k]!).2, true) := by
  unfold ofL
  rw [if_neg (by omega), ofF_slots, dif_pos h, getElem!_pos _ k h]
theorem ofL_out (l : List Ins) (k : Nat) (h : ¬ k < (slotsF 0 l).length) : ofL l (k : Int) = (0, 0, false) := by
  unfold ofL
  rw [if_neg (by omega), ofF_slots, dif_neg h]
theorem insts_find (N : Nat) (hN : 3000 < N) (lives : shunterlaw08_lives_m N = some true) (l : List Ins) (s : List UInt8) (hl : Ft 0 l) (hs : s.length ≤ 200)
    (find : shape_Find_m N l s = some (idxL (l.map (·.1)) s)) :
    ∀ (k f : Nat) (want : Int), k ≤ l.length → k < f → shunterlaw08_ShapeInsts_l10 N l s f want ((k : Int) - 1) = some (decide (idxL (l.map (·.1)) s = wantH (l.map (·.1)) s k want)) := by
  intro k
  induction k with
  | zero =>
    intro f want hk hf
    obtain ⟨f, rfl⟩ : ∃ n, f = n + 1 := ⟨f - 1, by omega⟩
    have e : wantH (l.map (·.1)) s 0 want = want := rfl
    rw [shunterlaw08_ShapeInsts_l10, if_neg (by omega), find, Option.bind_some, e]
    by_cases h : idxL (l.map (·.1)) s = want
    · rw [if_pos h, lives, decide_eq_true h]; rfl
    · rw [if_neg h, decide_eq_false h]
  | succ k ih =>
    intro f want hk hf
    obtain ⟨f, rfl⟩ : ∃ n, f = n + 1 := ⟨f - 1, by omega⟩
    have e1 : ((k + 1 : Nat) : Int) - 1 = (k : Int) := by omega
    have h1l := hl.2.1
    have a1 := hl.2.2 k (by omega)
    have ht : (l.map (·.1)).take (k + 1) = (l.map (·.1)).take k ++ [(l[k]!).1] := by
      rw [List.take_succ_eq_append_getElem (by rw [List.length_map]; omega), List.getElem_map, getElem!_pos l k (by omega)]
    rw [e1, shunterlaw08_ShapeInsts_l10, if_pos (by omega), ck_pos _ (by omega), Int.toNat_natCast, refalike_s N _ _ (by omega) (by omega) hN, Option.bind_some]
    by_cases h : alikeL (l[k]!).1 s = true
    · rw [if_pos h, ck_pos _ (by omega), ih f _ (by omega) (by omega), wantH_yes (by rw [List.length_map]; omega) ht h]
    · rw [if_neg h, ck_pos _ (by omega), ih f _ (by omega) (by omega), wantH_no ht h]
theorem insts_loop (N : Nat) (hN : 3000 < N) (S : ShapesI N) (lives : shunterlaw08_lives_m N = some true) (hs : List Hd) (l : List Ins) (s : List UInt8) (hl : Ft hs.length l) (hsl : s.length ≤ 200)
    (find : shape_Find_m N l s = some (idxL (l.map (·.1)) s)) (header : ∀ k : Int, -1 ≤ k → k ≤ 1000 → shape_Header_m N hs l k = some (hdL hs l k)) :
    ∀ (k f : Nat) (i : Int), i + (k : Int) = (total l : Int) + 1 → -1 ≤ i → k < f → shunterlaw08_ShapeInsts_l4 N hs l s (slotsF 0 l) f i = some true := by
  have h40 := hl.2.1
  have h30 := hl.1
  have htl := total_le l
  have hlen := slotsF_len l 0
  intro k
  induction k with
  | zero =>
    intro f i hi hm hf
    obtain ⟨f, rfl⟩ : ∃ n, f = n + 1 := ⟨f - 1, by omega⟩
    have := insts_find N hN lives l s ⟨by omega, hl.2⟩ hsl find l.length N (-1) (by omega) (by omega)
    rw [shunterlaw08_ShapeInsts_l4, if_neg (by rw [hlen]; omega), ck_pos _ (by omega), this, wantH_all (by rw [List.length_map]; exact Nat.le_refl _), decide_eq_true rfl]
  | succ k ih =>
    intro f i hi hm hf
    obtain ⟨f, rfl⟩ : ∃ n, f = n + 1 := ⟨f - 1, by omega⟩
    have next : shunterlaw08_ShapeInsts_l4 N hs l s (slotsF 0 l) f (i + 1) = some true := ih f (i + 1) (by omega) (by omega) (by omega)
    have out : ofL l i = (0, 0, false) → shunterlaw08_ShapeInsts_k6 hs l (slotsF 0 l) i (shunterlaw08_ShapeInsts_l4 N hs l s (slotsF 0 l) f) (ofL l i) (hdL hs l i) true = some true := fun ho => by
      have hh : hdL hs l i = ([], [], 0, 0, 0, 0, false) := by unfold hdL; rw [ho, if_neg (fun h => by cases h.1)]
      rw [ho, hh, shunterlaw08_ShapeInsts_k6, if_pos rfl, if_neg (fun h => h rfl), if_neg (fun h => h rfl), if_neg (by decide), if_neg (by decide), if_neg (fun h => h rfl), ck_pos _ (by omega), next]
    rw [shunterlaw08_ShapeInsts_l4, if_pos (by rw [hlen]; omega), S.of l i h40 (by omega) (by omega), Option.bind_some, header i (by omega) (by omega), Option.bind_some]
    by_cases a : i < 0
    · rw [if_pos a]
      exact out (by unfold ofL; rw [if_pos a])
    rw [if_neg a]
    obtain ⟨n, rfl⟩ : ∃ n : Nat, i = (n : Int) := ⟨i.toNat, by omega⟩
    by_cases b : n = (slotsF 0 l).length
    · rw [show ((n : Int) == ((slotsF 0 l).length : Int)) = true from by rw [beq_iff_eq]; omega]
      exact out (ofL_out l n (by omega))
    have hn : n < (slotsF 0 l).length := by rw [hlen] at b ⊢; omega
    have ho := ofL_in l n hn
    have hmem := slotsF_mem l 0 _ (List.getElem_mem hn)
    rw [← getElem!_pos _ n hn] at hmem
    rw [show ((n : Int) == ((slotsF 0 l).length : Int)) = false from by rw [beq_eq_false_iff_ne]; omega, shunterlaw08_ShapeInsts_k6, if_neg (by decide), ck_pos _ (by omega), Int.toNat_natCast, ck_pos _ (by omega), ck_pos _ (by omega), ho, if_neg (fun h => h rfl), ck_pos _ (by omega), if_neg (fun h => h rfl), if_pos rfl]
    have k7 : ∀ q : Bool, q = decide (0 ≤ (l[(((slotsF 0 l)[n]!).1).toNat]!).2.1 ∧ (l[(((slotsF 0 l)[n]!).1).toNat]!).2.1 < (hs.length : Int)) → (hdL hs l (n : Int)).2.2.2.2.2.2 = q ∧ shunterlaw08_ShapeInsts_k7 hs l (slotsF 0 l) (n : Int) (shunterlaw08_ShapeInsts_l4 N hs l s (slotsF 0 l) f) (hdL hs l (n : Int)) = some true := fun q hq => by
      unfold hdL
      rw [ho]
      by_cases c : 0 ≤ (l[(((slotsF 0 l)[n]!).1).toNat]!).2.1 ∧ (l[(((slotsF 0 l)[n]!).1).toNat]!).2.1 < (hs.length : Int)
      · rw [if_pos ⟨rfl, c⟩]
        refine ⟨by rw [hq, decide_eq_true c], ?_⟩
        rw [shunterlaw08_ShapeInsts_k7, if_pos rfl, Int.toNat_natCast, ck_pos _ c, if_neg (fun h => h rfl), ck_pos _ (by omega), next]
      · rw [if_neg (fun h => c h.2)]
        refine ⟨by rw [hq, decide_eq_false c], ?_⟩
        rw [shunterlaw08_ShapeInsts_k7, if_neg (by decide), ck_pos _ (by omega), next]
    obtain ⟨q1, q2⟩ := k7 _ rfl
    by_cases c : (l[(((slotsF 0 l)[n]!).1).toNat]!).2.1 ≥ 0
    · rw [if_pos c, if_neg (fun h => h (by rw [q1, Bool.eq_iff_iff, decide_eq_true_eq, decide_eq_true_eq]; omega)), q2]
    · rw [if_neg c, if_neg (fun h => h (by rw [q1]; exact decide_eq_false (fun h => c h.1))), q2]
theorem shapeInsts_true (N : Nat) (hN : 3000 < N) (S : ShapesI N) (lives : shunterlaw08_lives_m N = some true)
    (Insts : ∀ (hs : List Hd) (l : List Ins), Ft hs.length l → shape_Insts_m N hs l = some (instsL hs.length l))
    (Find : ∀ (l : List Ins) (s : List UInt8), Ft 0 l → s.length ≤ 200 → shape_Find_m N l s = some (idxL (l.map (·.1)) s))
    (hs : List Hd) (Header : ∀ (l : List Ins) (k : Int), Ft hs.length l → -1 ≤ k → k ≤ 1000 → shape_Header_m N hs l k = some (hdL hs l k))
    (l : List Ins) (s : List UInt8) : shunterlaw08_ShapeInsts_m N hs l s = some true := by
  unfold shunterlaw08_ShapeInsts_m
  rw [few_s N hN, Option.bind_some]
  by_cases hB : fewB hs.length l = true
  rotate_left
  · rw [if_neg hB, lives]; rfl
  have hl := ft_of hB
  have h40 := hl.2.1
  rw [if_pos hB]
  by_cases hsl : s.length ≤ 200
  rotate_left
  · rw [if_pos (by omega), lives]; rfl
  have htl := total_le l
  rw [if_neg (by omega), shunterlaw08_ShapeInsts_k1, refslots_s N hN l h40, Option.bind_some, Insts hs l hl, Option.bind_some, refinsts_s N hN hs l h40 (fun j hj => by have := hl.2.2 j hj; omega), Option.bind_some, if_neg (fun h => h rfl), S.slots l h40, Option.bind_some, slotsF_len, if_neg (fun h => h rfl), shunterlaw08_ShapeInsts_k2]
  exact insts_loop N hN S lives hs l s hl hsl (Find l s ⟨by omega, hl.2⟩ hsl) (fun k h1 h2 => Header l k hl h1 h2) (total l + 2) N (-1) (by omega) (by omega) (by omega)
end Go.Proofs.Ytdmakhnmfnkcmaa
