/- Layer 9: the law CodeLists answers true, if the program's functions have the answers that are told. Conditions: the structure Code9, and what All, Target and Only answer, proved elsewhere; fuel above 300. -/
import Derived.Test.YtmfedgmmgehmgaaDoorCb
import Derived.Test.YtmfedgmmgehmgaaDoorLCodeLists
namespace Go.Proofs.YtmfedgmmgehmgaaDoor
open Go Go.RowKit Go.Eng
theorem consL {α : Type} [Inhabited α] (l : List α) (i : Nat) (h : i < l.length) : l.drop i = l[i]! :: l.drop (i + 1) := by rw [List.drop_eq_getElem_cons h, getElem!_pos l i h]
theorem badF_zero : ∀ (l : List I9) (i : Nat) (d : Int × Int), (badF i l d).2 = 0 → (∀ x ∈ l, may9I x = 0) ∧ d.2 = 0
  | [], _, _, h => ⟨fun x hx => (by cases hx), h⟩
  | x :: r, i, d, h => by
    rw [badF] at h
    by_cases c : may9I x = 0
    · rw [if_neg (fun q => q c)] at h
      obtain ⟨h1, h2⟩ := badF_zero r (i + 1) d h
      exact ⟨fun y hy => (List.mem_cons.1 hy).elim (fun e => e ▸ c) (h1 y), h2⟩
    · rw [if_pos c] at h; exact absurd h c
theorem all9_ok {l : List I9} (h : (bad9 l).2 = 0) : l.length ≤ 64 ∧ ∀ i, i < l.length → may9I (l[i]!) = 0 := by
  obtain ⟨h1, h2⟩ := badF_zero _ _ _ h
  have hl : l.length ≤ 64 := by
    by_cases c : l.length > 64
    · rw [if_pos c] at h2; exact absurd (show (2 : Int) = 0 from h2) (by decide)
    · omega
  refine ⟨hl, fun i hi => h1 _ ?_⟩
  rw [List.take_of_length_le hl, getElem!_pos l i hi]; exact List.getElem_mem _
theorem bad_loop {N : Nat} (l : List I9) (r : List Sum31 × Int × Int) (hr1 : r.2.1 = (bad9 l).1) (hr2 : r.2.2 = (bad9 l).2) :
    ∀ (k f : Nat), k ≤ min l.length 64 → k < f → shunterlaw09_CodeLists_l6 N l r f (badF k ((l.take 64).drop k) (((min l.length 64 : Nat) : Int), if l.length > 64 then 2 else 0)).1 (badF k ((l.take 64).drop k) (((min l.length 64 : Nat) : Int), if l.length > 64 then 2 else 0)).2 ((k : Int) - 1) = shunterlaw09_CodeLists_k7 N l r := by
  intro k
  induction k with
  | zero =>
    intro f hk hf
    obtain ⟨f, rfl⟩ : ∃ n, f = n + 1 := ⟨f - 1, by omega⟩
    rw [shunterlaw09_CodeLists_l6, if_neg (by omega), List.drop_zero, hr1, hr2, if_neg (fun h => h rfl), if_neg (fun h => h rfl)]
  | succ k ih =>
    intro f hk hf
    obtain ⟨f, rfl⟩ : ∃ n, f = n + 1 := ⟨f - 1, by omega⟩
    have e1 : ((k + 1 : Nat) : Int) - 1 = (k : Int) := by omega
    have hlt : k < (l.take 64).length := by rw [List.length_take]; omega
    have hget : (l.take 64)[k]! = l[k]! := by rw [getElem!_pos _ k hlt, List.getElem_take, getElem!_pos l k (by omega)]
    have hih := ih f (by omega) (by omega)
    rw [consL _ k hlt, badF, hget] at hih
    rw [e1, shunterlaw09_CodeLists_l6, if_pos (by omega), ck_pos _ (by omega), refmay9_s, Option.bind_some, Int.toNat_natCast]
    by_cases c : may9I (l[k]!) = 0
    · rw [if_neg (fun q => q c)] at hih
      have c2 : may9 (l[k]!).1 (l[k]!).2.1 (l[k]!).2.2.1 (l[k]!).2.2.2.1 (l[k]!).2.2.2.2 = 0 := c
      rw [if_neg (fun q => q c2), ck_pos _ (by omega)]
      exact hih
    · rw [if_pos c] at hih
      have c2 : may9 (l[k]!).1 (l[k]!).2.1 (l[k]!).2.2.1 (l[k]!).2.2.2.1 (l[k]!).2.2.2.2 ≠ 0 := c
      rw [if_pos c2, ck_pos _ (by omega)]
      exact hih
set_option maxRecDepth 100000 in
theorem k17_s {N : Nat} (only : ∀ w x, code_Only_m N (.t47 w x) = some (w, x)) (l : List I9) (r : List Sum31 × Int × Int) (i : Nat) (rec : Int → Option Bool) (s : Sum31) (hi : i < r.1.length) (hi2 : i < 1000) (hs : r.1[i]! = s)
    (ht : (tab9[(l[i]!).1.toNat]!).2.2.2.2.2.2.2.2 = typ9 s) (hrec : rec (((i + 1 : Nat) : Int)) = some true) : shunterlaw09_CodeLists_k17 N l r (i : Int) rec tab9 = some true := by
  have e1 : (i : Int) + 1 = ((i + 1 : Nat) : Int) := by omega
  have nx : ck (-9223372036854775808 ≤ ((i : Int) + 1) ∧ ((i : Int) + 1) ≤ 9223372036854775807) (rec ((i : Int) + 1)) = some true := by rw [ck_pos _ (by omega), e1]; exact hrec
  have np : ∀ t : List UInt8, (t == ([80, 117, 115, 104] : List UInt8)) = false → (if false ≠ (t == ([80, 117, 115, 104] : List UInt8)) then some false else ck (-9223372036854775808 ≤ ((i : Int) + 1) ∧ ((i : Int) + 1) ≤ 9223372036854775807) (rec ((i : Int) + 1))) = some true := fun t h => by
    rw [h, if_neg (fun q => q rfl)]; exact nx
  unfold shunterlaw09_CodeLists_k17
  rw [ck_pos _ (by omega), Int.toNat_natCast, hs, ht]
  cases s
  case t47 w x =>
    show ck (0 ≤ (i : Int) ∧ (i : Int) < ((r.1).length : Int)) ((code_Only_m N (.t47 w x)).bind fun r94 => if ((r94.1 == w) && (r94.2 == x)) = true then if true ≠ (typ9 (.t47 w x) == ([80, 117, 115, 104] : List UInt8)) then some false else ck (-9223372036854775808 ≤ ((i : Int) + 1) ∧ ((i : Int) + 1) ≤ 9223372036854775807) (rec ((i : Int) + 1)) else some false) = some true
    rw [ck_pos _ (by omega), only, Option.bind_some, if_pos (by simp), if_neg (fun q => q rfl)]; exact nx
  all_goals first
    | (rw [Sum31.at_nil]; exact np _ rfl)
    | (rw [Sum31.at_t49]; exact np _ rfl)
    | (rw [Sum31.at_t51]; exact np _ rfl)
    | (rw [Sum31.at_t86]; exact np _ rfl)
    | (rw [Sum31.at_t52]; exact np _ rfl)
    | (rw [Sum31.at_t54]; exact np _ rfl)
    | (rw [Sum31.at_t56]; exact np _ rfl)
    | (rw [Sum31.at_t88]; exact np _ rfl)
    | (rw [Sum31.at_t58]; exact np _ rfl)
    | (rw [Sum31.at_t90]; exact np _ rfl)
    | (rw [Sum31.at_t60]; exact np _ rfl)
theorem typ_jump {s : Sum31} (h : typ9 s = [74, 117, 109, 112]) : ∃ o t, s = .t88 o t := by
  cases s <;> first | exact ⟨_, _, rfl⟩ | (simp [typ9] at h; done)
theorem typ_gone {s : Sum31} (h : typ9 s = [71, 111, 110, 101]) : ∃ a t, s = .t58 a t := by
  cases s <;> first | exact ⟨_, _, rfl⟩ | (simp [typ9] at h; done)
theorem target_none {s : Sum31} (hJ : ¬ typ9 s = [74, 117, 109, 112]) (hG : ¬ typ9 s = [71, 111, 110, 101]) : target9 s = (0, false) := by
  cases s <;> first | rfl | exact absurd rfl hJ | exact absurd rfl hG
theorem k12_s {N : Nat} (l : List I9) (r : List Sum31 × Int × Int) (i : Nat) (rec : Int → Option Bool) (r52 : Int × Bool) (r56 : Int × Int) (s : Sum31) (hi : i < l.length) (hx : ins9 s = l[i]!)
    (ht : (tab9[(l[i]!).1.toNat]!).2.2.2.2.2.2.2.2 = typ9 s) :
    (if (tab9[(l[i]!).1.toNat]!).2.2.2.2.2.2.2.2 = ([74, 117, 109, 112] : List UInt8) then shunterlaw09_CodeLists_k12 N l r (i : Int) rec r52 r56 tab9 true 0 else shunterlaw09_CodeLists_k12 N l r (i : Int) rec r52 r56 tab9 ((tab9[(l[i]!).1.toNat]!).2.2.2.2.2.2.2.2 == ([71, 111, 110, 101] : List UInt8)) 0)
    = shunterlaw09_CodeLists_k16 N l r (i : Int) rec r52 r56 tab9 (target9 s).2 (target9 s).1 := by
  unfold shunterlaw09_CodeLists_k12 shunterlaw09_CodeLists_k14
  rw [Int.toNat_natCast, ht]
  by_cases hJ : typ9 s = [74, 117, 109, 112]
  · obtain ⟨o, t, rfl⟩ := typ_jump hJ
    rw [if_pos hJ, if_pos hJ, ck_pos _ (by omega), if_neg (fun h => absurd (hJ.symm.trans h) (by decide)), ← hx]; rfl
  rw [if_neg hJ, if_neg hJ]
  by_cases hG : typ9 s = [71, 111, 110, 101]
  · obtain ⟨a, t, rfl⟩ := typ_gone hG
    rw [if_pos hG, ck_pos _ (by omega), ← hx]; rfl
  rw [if_neg hG, show (typ9 s == ([71, 111, 110, 101] : List UInt8)) = false from beq_eq_false_iff_ne.2 hG, target_none hJ hG]
theorem lists_loop {N : Nat} (S : Code9 N) (target : ∀ s, code_Target_m N s = some (target9 s)) (only : ∀ w x, code_Only_m N (.t47 w x) = some (w, x)) (l : List I9) (r : List Sum31 × Int × Int) (hr : r.1 = l.map step9I) (hl : l.length ≤ 64) (hok : ∀ i, i < l.length → may9I (l[i]!) = 0) :
    ∀ (k f i : Nat), i + k = l.length → k < f → shunterlaw09_CodeLists_l9 N l r f (i : Int) = some true := by
  have hrl : r.1.length = l.length := by rw [hr, List.length_map]
  intro k
  induction k with
  | zero =>
    intro f i hi hf
    obtain ⟨f, rfl⟩ : ∃ n, f = n + 1 := ⟨f - 1, by omega⟩
    rw [shunterlaw09_CodeLists_l9, if_neg (by omega)]; exact S.live
  | succ k ih =>
    intro f i hi hf
    obtain ⟨f, rfl⟩ : ∃ n, f = n + 1 := ⟨f - 1, by omega⟩
    have hm := hok i (by omega)
    obtain ⟨h0, h1⟩ := may9_op hm
    obtain ⟨t, x⟩ := step9_ok hm
    have hg : r.1[i]! = step9I (l[i]!) := by
      rw [getElem!_pos _ i (by omega), getElem!_pos l i (by omega)]
      simp only [hr, List.getElem_map]
    have ht : (tab9[(l[i]!).1.toNat]!).2.2.2.2.2.2.2.2 = typ9 (step9I (l[i]!)) := t.symm
    have hrec := ih f (i + 1) (by omega) (by omega)
    rw [shunterlaw09_CodeLists_l9, if_pos (by omega), ck_pos _ (by omega), Int.toNat_natCast, hg, target, Option.bind_some, ck_pos _ (by omega), S.effect, Option.bind_some, table_s, Option.bind_some, ck_pos _ (by omega), ck_pos _ (by rw [tab9_len]; omega)]
    refine (k12_s l r i _ _ _ (step9I (l[i]!)) (by omega) x ht).trans ?_
    unfold shunterlaw09_CodeLists_k16
    rw [if_neg (fun q => q rfl), if_neg (fun q => q rfl), show eff9 (l[i]!).1 = ((row9 (l[i]!).1).2.1, (row9 (l[i]!).1).2.2.1) from if_pos ⟨h0, h1⟩, Int.toNat_natCast, if_neg (fun q => q rfl), if_neg (fun q => q rfl)]
    exact k17_s only l r i _ _ (by omega) (by omega) hg ht hrec
theorem codeLists_true {N : Nat} (hN : 300 < N) (S : Code9 N) (All : ∀ l : List I9, l.length ≤ 200 → code_All_m N l = some (all9 l)) (target : ∀ s, code_Target_m N s = some (target9 s)) (only : ∀ w x, code_Only_m N (.t47 w x) = some (w, x)) (l : List I9) : shunterlaw09_CodeLists_m N l = some true := by
  unfold shunterlaw09_CodeLists_m
  by_cases c : l.length ≤ 200
  rotate_left
  · rw [if_pos (by omega)]; exact S.live
  rw [if_neg (by omega), All l c, Option.bind_some]
  have k2 : ∀ w : Int, w = (if l.length > 64 then 2 else 0) → shunterlaw09_CodeLists_k2 N l (all9 l) w = some true := fun w hw => by
    have hb := bad_loop (N := N) l (all9 l) rfl rfl (min l.length 64) N (Nat.le_refl _) (by omega)
    rw [List.drop_of_length_le (by rw [List.length_take]; omega), badF] at hb
    have em : min (l.length : Int) 64 = ((min l.length 64 : Nat) : Int) := by omega
    unfold shunterlaw09_CodeLists_k2
    rw [ck_pos _ (by omega), em, hw]
    refine hb.trans ?_
    unfold shunterlaw09_CodeLists_k7
    by_cases d : (bad9 l).2 = 0
    · obtain ⟨h1, h2⟩ := all9_ok d
      have ea : (all9 l).1 = l.map step9I := if_pos d
      rw [if_neg (show ¬ (all9 l).2.2 ≠ 0 from fun q => q d), if_neg (fun q => q (by rw [ea, List.length_map]))]
      exact lists_loop S target only l _ ea h1 h2 l.length N 0 (by omega) (by omega)
    · have ea : (all9 l).1 = [] := if_neg d
      rw [if_pos (show (all9 l).2.2 ≠ 0 from d), if_pos (by rw [ea]; rfl)]; exact S.live
  by_cases d : l.length > 64
  · rw [if_pos (by omega)]; exact k2 2 (if_pos d).symm
  · rw [if_neg (by omega)]; exact k2 0 (if_neg d).symm
end Go.Proofs.YtmfedgmmgehmgaaDoor
