import Derived.Test.YtjmdbbnnpmmpiaaGreatDoorHs
namespace Go.Proofs.YtjmdbbnnpmmpiaaGreatDoor
open Go Go.RowKit Go.Eng
theorem Uz (c : UInt8) : ∀ s : List UInt8, -1 ≤ Lib.index s [c] ∧ (Lib.index s [c] ≥ 0 ↔ c ∈ s)
 | [] => ⟨by simp [Lib.index], ⟨fun h => by revert h; simp [Lib.index], fun h => by cases h⟩⟩
 | d :: l => by
  have ih := Uz c l
  unfold Lib.index
  by_cases h : d = c
  ·subst h; simp
  ·have hp : List.isPrefixOf [c] (d :: l) = false := by
    simp only [List.isPrefixOf, Bool.and_true]
    exact beq_eq_false_iff_ne.2 (Ne.symm h)
   have hm : c ∈ d :: l ↔ c ∈ l := by rw [List.mem_cons]; exact ⟨fun h2 => h2.resolve_left (fun e => h e.symm), .inr⟩
   rw [hp, if_neg (by decide), hm, ← ih.2]
   by_cases h2 : Lib.index l [c] = -1
   ·rw [h2]; decide
   ·have e : (Lib.index l [c] == -1) = false := beq_eq_false_iff_ne.2 h2
    rw [e, if_neg (by decide)]
    omega
theorem Xb (s : List UInt8) (l : List (List UInt8)) (k : Nat) : Qr (fun x => KV x == KV s) l k = Qr (fun x => HX x s) l k := by
 congr 1
 funext x
 unfold HX
 rw [Bool.eq_iff_iff, beq_iff_eq, decide_eq_true_eq]
 exact bA
theorem Mz (N : Nat) (hN : 3000 < N) (s : List UInt8) (hs : s.length ≤ 2000) : HD N s = some (GH s) := by
 unfold HD GH
 rw [cN N s (by omega), Option.bind_some]
 by_cases h : WM (EK s) = true
 ·rw [if_pos h, h, Bool.and_true, Gm, JG, AQ _ (show ([46] : List UInt8).length = 1 from rfl), Option.bind_some, Option.bind_some]
  congr 1
  rw [Bool.eq_iff_iff, decide_eq_true_eq, Bool.not_eq_true', decide_eq_false_iff_not, (Uz 46 s).2]
 ·rw [if_neg h, Bool.eq_false_iff.2 h, Bool.and_false]
theorem Jl {α : Type} [Inhabited α] (g : α → List UInt8) (l : List α) (i : Nat) (h : i < l.length) : ((l.take i).map g ++ List.replicate (l.length - i) ([] : List UInt8)).set i (g (l[i]!)) = (l.take (i + 1)).map g ++ List.replicate (l.length - (i + 1)) [] := by
 have hl : ((l.take i).map g).length = i := by rw [List.length_map, List.length_take]; omega
 rw [List.set_append_right _ _ (by rw [hl]; exact Nat.le_refl _), hl, Nat.sub_self, show l.length - i = (l.length - (i + 1)) + 1 from by omega, List.replicate_succ, List.set_cons_zero, QU l i h, List.map_append, List.append_assoc]
 rfl
theorem NO {α : Type} (g : α → List UInt8) (l : List α) (i : Nat) (h : i ≤ l.length) : ((l.take i).map g ++ List.replicate (l.length - i) ([] : List UInt8)).length = l.length := by
 rw [List.length_append, List.length_map, List.length_take, List.length_replicate]; omega
theorem fR (N : Nat) (l : List Fd) (hl : l.length ≤ 1000) : ∀ (k f i : Nat), i + k = l.length → k < f →
  BX N (l.length : Int) l f ((l.take i).map (·.1) ++ List.replicate (l.length - i) []) (i : Int) = some (l.map (·.1)) := by
 intro k
 induction k with
 | zero =>
  intro f i hi hf
  obtain ⟨f, rfl⟩ : ∃ n, f = n + 1 := ⟨f - 1, by omega⟩
  rw [BX, if_neg (by omega), List.take_of_length_le (by omega), show l.length - i = 0 from by omega, List.replicate_zero, List.append_nil]
 | succ k ih =>
  intro f i hi hf
  obtain ⟨f, rfl⟩ : ∃ n, f = n + 1 := ⟨f - 1, by omega⟩
  have e1 : (i : Int) + 1 = ((i + 1 : Nat) : Int) := by omega
  rw [BX, if_pos (by omega), CB, AQ _ (by omega), Option.bind_some, AQ _ (by rw [NO _ _ _ (by omega)]; omega), AQ _ (by omega), e1, Int.toNat_natCast, Jl _ l i (by omega)]
  exact ih f (i + 1) (by omega) (by omega)
theorem QG (N : Nat) (l : List Fd) (hl : l.length ≤ 1000) (hN : l.length < N) : DG N l = some (l.map (·.1)) := by
 have := fR N l hl l.length N 0 (by omega) hN
 rw [DG, FE, AQ _ (by omega), Int.toNat_natCast]
 have e : BX N (l.length : Int) l N (List.replicate l.length []) 0 = some (l.map (·.1)) := this
 rw [e]; rfl
theorem Pv (N : Nat) (hN : 3000 < N) (l : List (List UInt8)) (i : Nat) (hi : i < l.length) (hl : l.length ≤ 300) (hall : ∀ j, j < l.length → (l[j]!).length ≤ 300) :
  Ea N l (i : Int) = some (if GH (l[i]!) = true then if (l.take i).any (fun x => HX x (l[i]!)) = true then 6 else 0 else 4) := by
 have hs := hall i hi
 rw [Ea, AQ _ (by omega), Int.toNat_natCast, Mz N hN _ (by omega), Option.bind_some]
 by_cases c1 : GH (l[i]!) = true
 ·rw [if_pos c1, if_pos c1, AQ _ (by omega), AQ _ (by omega), List.drop_zero, Uy N _ _ hN (by rw [List.length_take]; omega) hs (fun j hj => by
   rw [List.length_take] at hj
   have := hall j (by omega)
   rw [getElem!_pos _ j (by rw [List.length_take]; exact hj), List.getElem_take]
   rw [getElem!_pos l j (by omega)] at this
   exact this), Option.bind_some, Xb]
  by_cases c2 : (l.take i).any (fun x => HX x (l[i]!)) = true
  ·rw [if_pos ((Nu _ _ _).2 c2), if_pos c2]
  ·rw [if_neg (fun h => c2 ((Nu _ _ _).1 h)), if_neg c2]
 ·rw [if_neg c1, if_neg c1]
theorem PS {α : Type} (g : α → List UInt8) (l : List α) (i : Nat) (s : List UInt8) : ((l.map g).take i).any (fun x => HX x s) = (l.take i).any (fun x => HX (g x) s) := by
 rw [← List.map_take, List.any_map]; rfl
theorem IB {α : Type} [Inhabited α] (g : α → List UInt8) (l : List α) (i : Nat) (h : i < l.length) : (l.map g)[i]! = g (l[i]!) := by
 rw [getElem!_pos _ i (by rw [List.length_map]; exact h), List.getElem_map, getElem!_pos l i h]
theorem DD (N : Nat) (n a b : Int) : BV N n a b = some (decide (a ≤ n ∧ n ≤ b)) := by
 unfold BV
 by_cases h : a ≤ n
 ·rw [if_pos h]
  by_cases h1 : n ≤ b
  ·rw [decide_eq_true h1, decide_eq_true ⟨h, h1⟩]
  ·rw [decide_eq_false h1, decide_eq_false (fun h2 => h1 h2.2)]
 ·rw [if_neg h, decide_eq_false (fun h2 => h h2.1)]
theorem Vf (N : Nat) (h0 : List UInt8) (h1 : List Fd) (h2 h3 h4 h5 : Int) (hl : h1.length ≤ 40) : DF N h0 h1 h2 h3 h4 h5 = some (UP h1 h2 h3 h4 h5) := by
 unfold DF UP
 by_cases c : h2 = 0
 ·rw [if_pos c, if_pos c]
  by_cases a : h3 = 0
  ·rw [if_pos a]
   by_cases b : h4 = 0
   ·rw [if_pos b]; congr 1
    rw [Bool.eq_iff_iff, beq_iff_eq, decide_eq_true_eq]; omega
   ·rw [if_neg b, decide_eq_false (by omega)]
  ·rw [if_neg a, decide_eq_false (by omega)]
 rw [if_neg c, if_neg c, DD, Option.bind_some]
 by_cases a : 1 ≤ h2 ∧ h2 ≤ 64
 rotate_left
 ·rw [decide_eq_false a, if_neg (by decide), decide_eq_false (by omega)]
 rw [decide_eq_true a, if_pos rfl, AQ _ (by omega), DD, Option.bind_some]
 by_cases b : 0 ≤ h3 ∧ h3 ≤ (h1.length : Int) - 1
 rotate_left
 ·rw [decide_eq_false b, if_neg (by decide), decide_eq_false (by omega)]
 rw [decide_eq_true b, if_pos rfl, AQ _ (by omega)]
 by_cases d : (h1[h3.toNat]!).2 ≤ 16
 rotate_left
 ·rw [if_neg d, decide_eq_false (by omega)]
 rw [if_pos d, DD, Option.bind_some]
 by_cases e : 1 ≤ h4 ∧ h4 ≤ 64
 rotate_left
 ·rw [decide_eq_false e, if_neg (by decide), decide_eq_false (by omega)]
 rw [decide_eq_true e, if_pos rfl, DD, Option.bind_some]
 congr 1
 rw [Bool.eq_iff_iff, decide_eq_true_eq, decide_eq_true_eq]; omega
theorem SY (l : List Fd) (hw : okW l) (hl : l.length ≤ 40) : ∀ (k f i : Nat), i + k = l.length → k < f → EN l f (In (l.take i)) (i : Int) = some (In l) := by
 intro k
 induction k with
 | zero =>
  intro f i hi hf
  obtain ⟨f, rfl⟩ : ∃ n, f = n + 1 := ⟨f - 1, by omega⟩
  rw [EN, if_neg (by omega), List.take_of_length_le (by omega)]
 | succ k ih =>
  intro f i hi hf
  obtain ⟨f, rfl⟩ : ∃ n, f = n + 1 := ⟨f - 1, by omega⟩
  have e1 : (i : Int) + 1 = ((i + 1 : Nat) : Int) := by omega
  have es : In (l.take i) + (l[i]!).2 = In (l.take (i + 1)) := by rw [QU l i (by omega), VX]; simp [In]
  have hs := MA _ (WA hw (i + 1))
  have hlt : (l.take (i + 1)).length ≤ 40 := by rw [List.length_take]; omega
  rw [EN, if_pos (by omega), AQ _ (by omega), Int.toNat_natCast, es, AQ _ (by omega), AQ _ (by omega), e1]
  exact ih f (i + 1) (by omega) (by omega)
theorem TS (N : Nat) (hN : 3000 < N) (l : List Fd) (hw : okW l) (hl : l.length ≤ 40) : GD N l = some (In l) := SY l hw hl l.length N 0 (by omega) (by omega)
theorem Nc (N : Nat) (hN : 3000 < N) (h1 : List Fd) (hl : h1.length ≤ 40) (hall : ∀ j, j < h1.length → (h1[j]!).1.length ≤ 200) :
  ∀ (k f i : Nat), i + k = h1.length → k < f → Cn N h1 (h1.map (·.1)) f (i : Int) = some (goF (h1.take i) (h1.drop i)) := by
 intro k
 induction k with
 | zero =>
  intro f i hi hf
  obtain ⟨f, rfl⟩ : ∃ n, f = n + 1 := ⟨f - 1, by omega⟩
  rw [Cn, if_neg (by omega), List.drop_of_length_le (by omega)]; rfl
 | succ k ih =>
  intro f i hi hf
  obtain ⟨f, rfl⟩ : ∃ n, f = n + 1 := ⟨f - 1, by omega⟩
  have e1 : (i : Int) + 1 = ((i + 1 : Nat) : Int) := by omega
  have en := IB (fun x : Fd => x.1) h1 i (by omega)
  rw [Cn, if_pos (by omega), AQ _ (by omega), Int.toNat_natCast, Pv N hN _ i (by rw [List.length_map]; omega) (by rw [List.length_map]; omega) (fun j hj => by
    rw [List.length_map] at hj
    have := hall j hj
    rw [IB (fun x : Fd => x.1) h1 j hj]; omega), Option.bind_some, en, PS, Xx h1 i (by omega), goF]
  by_cases c1 : GH (h1[i]!).1 = true
  rotate_left
  ·rw [if_neg c1, if_neg c1]; rfl
  rw [if_pos c1, if_pos c1]
  by_cases c2 : (h1.take i).any (fun x => HX x.1 (h1[i]!).1) = true
  ·rw [if_pos c2, if_pos c2]; rfl
  rw [if_neg c2, if_neg c2, if_neg (fun h => h rfl), DD, Option.bind_some]
  by_cases c3 : (h1[i]!).2 < 1 ∨ 128 < (h1[i]!).2
  ·rw [decide_eq_false (by omega), if_neg (by decide), if_pos c3]
  rw [decide_eq_true (by omega), if_pos rfl, if_neg c3, AQ _ (by omega), e1, ih f (i + 1) (by omega) (by omega), QU h1 i (by omega)]
theorem Rk (N : Nat) (hN : 3000 < N) (h1 : List Fd) (hl : h1.length ≤ 40) (hall : ∀ j, j < h1.length → (h1[j]!).1.length ≤ 200) : Ey N h1 = some (goF [] h1) := by
 have := Nc N hN h1 hl hall h1.length N 0 (by omega) (by omega)
 rw [Ey, QG N h1 (by omega) (by omega), Option.bind_some]
 exact this
theorem dB (N : Nat) (hN : 3000 < N) (h0 : List UInt8) (h1 : List Fd) (h2 h3 h4 h5 : Int) (hl : Lt h0 h1) : CP N h0 h1 h2 h3 h4 h5 = some (Rj h0 h1 h2 h3 h4 h5) := by
 have hlen := hl.1
 unfold CP Rj
 rw [Mz N hN h0 (by have := hl.2.1; omega), Option.bind_some]
 by_cases c1 : GH h0 = true
 rotate_left
 ·rw [if_neg c1, if_neg c1]
 rw [if_pos c1, if_pos c1]
 by_cases c2 : 16 < h1.length
 ·rw [if_pos (by omega), if_pos c2]
 rw [if_neg (by omega), if_neg c2]
 by_cases c3 : h1.length = 0
 ·rw [if_pos (by omega), if_pos c3]
 rw [if_neg (by omega), if_neg c3, Rk N hN h1 hlen hl.2.2, Option.bind_some, eC]
 by_cases c4 : goF [] h1 = 0
 rotate_left
 ·rw [if_pos c4, if_neg c4]
 have hw := Tu _ _ c4
 have hs := MA _ hw
 rw [if_neg (fun h => h c4), if_pos c4, TS N hN h1 hw hlen, Option.bind_some, AQ _ (by omega), VU, Vf N _ _ _ _ _ _ hlen, Option.bind_some]
 by_cases a : In h1 % 8 ≠ 0
 ·rw [if_pos a, if_pos a]
 rw [if_neg a, if_neg a]
 by_cases b : UP h1 h2 h3 h4 h5 = true
 ·rw [if_pos b, if_pos b]
 ·rw [if_neg b, if_neg b]
end Go.Proofs.YtjmdbbnnpmmpiaaGreatDoor
