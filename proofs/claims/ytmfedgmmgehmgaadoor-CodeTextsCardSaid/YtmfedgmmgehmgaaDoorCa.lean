/- Layer 9: instructions, steps and the table of operations by definition; the reference's functions are these. Conditions: none but those written. -/
import Derived.Test.YtmfedgmmgehmgaaDoorVt
namespace Go.Proofs.YtmfedgmmgehmgaaDoor
open Go Go.RowKit Go.Eng
abbrev R9 := List UInt8 × Int × Int × Int × Int × Int × Int × Int × List UInt8
abbrev I9 := Int × Int × Int × Int × BitVec 128
def tab9 : List R9 := match shunterref09_Table_m 0 with | some l => l | none => []
theorem table_s (N : Nat) : shunterref09_Table_m N = some tab9 := rfl
theorem tab9_len : tab9.length = 35 := rfl
def row9 (o : Int) : R9 := tab9[o.toNat]!
def may9 (o a b w : Int) (x : BitVec 128) : Int :=
  if 0 ≤ o ∧ o ≤ 34 then
    if a < (row9 o).2.2.2.2.1 ∨ (row9 o).2.2.2.2.2.1 < a ∨ b < (row9 o).2.2.2.2.2.2.1 ∨ (row9 o).2.2.2.2.2.2.2.1 < b ∨ (o = 10 ∧ a < b) then 7
    else if o = 0 then (if mayB w x = true then 0 else 1) else if w = 0 ∧ x = 0#128 then 0 else 1
  else 10
theorem names9 : ∀ k : Nat, k < 35 → ((tab9[k]!).1 = [112, 117, 115, 104] ↔ k = 0) ∧ ((tab9[k]!).1 = [115, 108, 105, 99, 101] ↔ k = 10) := by decide +kernel
theorem row_push {o : Int} (h0 : 0 ≤ o) (h1 : o ≤ 34) : (row9 o).1 = [112, 117, 115, 104] ↔ o = 0 := by
  have := (names9 o.toNat (by omega)).1
  unfold row9; rw [this]; omega
theorem row_slice {o : Int} (h0 : 0 ≤ o) (h1 : o ≤ 34) : (row9 o).1 = [115, 108, 105, 99, 101] ↔ o = 10 := by
  have := (names9 o.toNat (by omega)).2
  unfold row9; rw [this]; omega
theorem zz9 : ((0#64) ++ (0#64) : BitVec 128) = 0#128 := by decide
theorem refmay9_s (N : Nat) (o a b w : Int) (x : BitVec 128) : shunterref09_May_m N o a b w x = some (may9 o a b w x) := by
  have k2 : 0 ≤ o → o ≤ 34 → shunterref09_May_k2 N o w x tab9 = some (if o = 0 then (if mayB w x = true then 0 else 1) else if w = 0 ∧ x = 0#128 then 0 else 1) := fun h0 h1 => by
    rw [shunterref09_May_k2, zz9]
    have e := row_push h0 h1
    unfold row9 at e
    by_cases c : o = 0
    · rw [if_pos (e.2 c), if_pos c, rmay_s, Option.bind_some]
      by_cases d : mayB w x = true
      · rw [if_pos d, if_pos d]
      · rw [if_neg d, if_neg d]
    · rw [if_neg (fun h => c (e.1 h)), if_neg c]
      by_cases d : w = 0 ∧ x = 0#128
      · rw [if_pos (by rw [d.1, d.2]; decide), if_pos d]
      · rw [if_neg (fun h => d (by simpa using h)), if_neg d]
  unfold shunterref09_May_m may9
  by_cases h0 : o < 0
  · rw [if_pos h0, if_neg (by omega)]
  rw [if_neg h0]
  by_cases h1 : o > 34
  · rw [if_pos h1, if_neg (by omega)]
  have e := row_slice (o := o) (by omega) (by omega)
  have k2' := k2 (by omega) (by omega)
  rw [if_neg h1, if_pos ⟨by omega, by omega⟩, shunterref09_May_k1, table_s, Option.bind_some, ck_pos _ (by rw [tab9_len]; omega)]
  unfold row9 at e ⊢
  by_cases a1 : a < (tab9[o.toNat]!).2.2.2.2.1
  · rw [if_pos a1, if_pos (.inl a1)]
  rw [if_neg a1]
  by_cases a2 : a > (tab9[o.toNat]!).2.2.2.2.2.1
  · rw [if_pos a2, if_pos (.inr (.inl a2))]
  rw [if_neg a2]
  by_cases a3 : b < (tab9[o.toNat]!).2.2.2.2.2.2.1
  · rw [if_pos a3, if_pos (.inr (.inr (.inl a3)))]
  rw [if_neg a3]
  by_cases a4 : b > (tab9[o.toNat]!).2.2.2.2.2.2.2.1
  · rw [if_pos a4, if_pos (.inr (.inr (.inr (.inl a4))))]
  rw [if_neg a4]
  have hn : ¬ (o = 10 ∧ a < b) → ¬ (a < (tab9[o.toNat]!).2.2.2.2.1 ∨ (tab9[o.toNat]!).2.2.2.2.2.1 < a ∨ b < (tab9[o.toNat]!).2.2.2.2.2.2.1 ∨ (tab9[o.toNat]!).2.2.2.2.2.2.2.1 < b ∨ (o = 10 ∧ a < b)) := fun q h => by
    rcases h with h | h | h | h | h
    · exact a1 h
    · exact a2 h
    · exact a3 h
    · exact a4 h
    · exact q h
  by_cases c : o = 10
  · rw [if_pos (e.2 c)]
    by_cases d : a < b
    · rw [if_pos d, if_pos (.inr (.inr (.inr (.inr ⟨c, d⟩))))]
    · rw [if_neg d, k2', if_neg (hn (fun h => d h.2))]
  · rw [if_neg (fun h => c (e.1 h)), k2', if_neg (hn (fun h => c h.1))]
/-! ### steps -/
def step9 (o a b w : Int) (x : BitVec 128) : Sum31 :=
  if o = 0 then .t47 w x
  else if o = 1 ∨ o = 22 then .t49 o a b
  else if o = 2 ∨ o = 3 ∨ o = 5 ∨ o = 23 ∨ o = 24 ∨ o = 29 ∨ o = 30 then .t51 o a
  else if o = 4 ∨ o = 25 ∨ o = 26 then .t86 o a
  else if o = 6 ∨ o = 7 ∨ o = 8 ∨ o = 9 ∨ o = 11 then .t52 o a
  else if o = 10 then .t54 a b
  else if o = 27 ∨ o = 28 then .t56 o a b
  else if o = 31 ∨ o = 32 then .t88 o a
  else if o = 33 then .t58 a b
  else if o = 34 then .t90
  else .t60 o
def typ9 : Sum31 → List UInt8
  | .nil => []
  | .t47 _ _ => [80, 117, 115, 104]
  | .t49 _ _ _ => [80, 108, 97, 99, 101]
  | .t51 _ _ => [67, 101, 108, 108]
  | .t86 _ _ => [83, 108, 111, 116]
  | .t52 _ _ => [79, 110, 101]
  | .t54 _ _ => [80, 97, 114, 116]
  | .t56 _ _ _ => [72, 101, 97, 100, 115]
  | .t88 _ _ => [74, 117, 109, 112]
  | .t58 _ _ => [71, 111, 110, 101]
  | .t90 => [83, 116, 111, 112]
  | .t60 _ => [84, 119, 111]
def ins9 : Sum31 → I9
  | .nil => (0, 0, 0, 0, 0#128)
  | .t47 w x => (0, 0, 0, w, x)
  | .t49 o a b => (o, a, b, 0, 0#128)
  | .t51 o a => (o, a, 0, 0, 0#128)
  | .t86 o a => (o, a, 0, 0, 0#128)
  | .t52 o a => (o, a, 0, 0, 0#128)
  | .t54 a b => (10, a, b, 0, 0#128)
  | .t56 o a b => (o, a, b, 0, 0#128)
  | .t88 o a => (o, a, 0, 0, 0#128)
  | .t58 a b => (33, a, b, 0, 0#128)
  | .t90 => (34, 0, 0, 0, 0#128)
  | .t60 o => (o, 0, 0, 0, 0#128)
def plain9 (s : Sum31) : Int × Int × Int × Int × BitVec 128 × Bool :=
  if may9 (ins9 s).1 (ins9 s).2.1 (ins9 s).2.2.1 (ins9 s).2.2.2.1 (ins9 s).2.2.2.2 = 0 ∧ typ9 s = (row9 (ins9 s).1).2.2.2.2.2.2.2.2
  then ((ins9 s).1, (ins9 s).2.1, (ins9 s).2.2.1, (ins9 s).2.2.2.1, (ins9 s).2.2.2.2, true) else (0, 0, 0, 0, 0#128, false)
theorem typeOf_s (N : Nat) (s : Sum31) : shunterlaw09_typeOf_m N s = some (typ9 s) := by cases s <;> rfl
theorem may9_op {o a b w : Int} {x : BitVec 128} (h : may9 o a b w x = 0) : 0 ≤ o ∧ o ≤ 34 := by
  unfold may9 at h
  by_cases c : 0 ≤ o ∧ o ≤ 34
  · exact c
  · rw [if_neg c] at h; omega
/-- What an instruction that may be has besides its operation. -/
theorem may9_in {o a b w : Int} {x : BitVec 128} (h : may9 o a b w x = 0) : (row9 o).2.2.2.2.1 ≤ a ∧ a ≤ (row9 o).2.2.2.2.2.1 ∧ (row9 o).2.2.2.2.2.2.1 ≤ b ∧ b ≤ (row9 o).2.2.2.2.2.2.2.1 ∧ (o ≠ 0 → w = 0 ∧ x = 0#128) ∧ (o = 0 → mayB w x = true) ∧ (o = 10 → b ≤ a) := by
  have c := may9_op h
  unfold may9 at h
  rw [if_pos c] at h
  by_cases d : a < (row9 o).2.2.2.2.1 ∨ (row9 o).2.2.2.2.2.1 < a ∨ b < (row9 o).2.2.2.2.2.2.1 ∨ (row9 o).2.2.2.2.2.2.2.1 < b ∨ (o = 10 ∧ a < b)
  · rw [if_pos d] at h; omega
  rw [if_neg d] at h
  have d1 : ¬ a < (row9 o).2.2.2.2.1 := fun q => d (.inl q)
  have d2 : ¬ (row9 o).2.2.2.2.2.1 < a := fun q => d (.inr (.inl q))
  have d3 : ¬ b < (row9 o).2.2.2.2.2.2.1 := fun q => d (.inr (.inr (.inl q)))
  have d4 : ¬ (row9 o).2.2.2.2.2.2.2.1 < b := fun q => d (.inr (.inr (.inr (.inl q))))
  refine ⟨by omega, by omega, by omega, by omega, fun q => ?_, fun q => ?_, fun q => ?_⟩
  · rw [if_neg q] at h
    by_cases e : w = 0 ∧ x = 0#128
    · exact e
    · rw [if_neg e] at h; omega
  · rw [if_pos q] at h
    by_cases e : mayB w x = true
    · exact e
    · rw [if_neg e] at h; omega
  · exact Int.not_lt.1 fun q2 => d (.inr (.inr (.inr (.inr ⟨q, q2⟩))))
/-- The step of an instruction that may be: its type, and the instruction again. -/
theorem step9_ok {o a b w : Int} {x : BitVec 128} (h : may9 o a b w x = 0) : typ9 (step9 o a b w x) = (row9 o).2.2.2.2.2.2.2.2 ∧ ins9 (step9 o a b w x) = (o, a, b, w, x) := by
  obtain ⟨h0, h1⟩ := may9_op h
  obtain ⟨i1, i2, i3, i4, i5, i6, i7⟩ := may9_in h
  have two : ∀ a0 a1 b0 b1 : Int, (row9 o).2.2.2.2.1 = a0 → (row9 o).2.2.2.2.2.1 = a1 → (row9 o).2.2.2.2.2.2.1 = b0 → (row9 o).2.2.2.2.2.2.2.1 = b1 → a0 ≤ a ∧ a ≤ a1 ∧ b0 ≤ b ∧ b ≤ b1 := fun _ _ _ _ e1 e2 e3 e4 => ⟨e1 ▸ i1, e2 ▸ i2, e3 ▸ i3, e4 ▸ i4⟩
  unfold step9
  by_cases c0 : o = 0
  · subst c0
    have := two 0 0 0 0 rfl rfl rfl rfl
    obtain rfl : a = 0 := by omega
    obtain rfl : b = 0 := by omega
    rw [if_pos rfl]; exact ⟨rfl, rfl⟩
  obtain ⟨rfl, rfl⟩ := i5 c0
  rw [if_neg c0]
  by_cases c1 : o = 1 ∨ o = 22
  · rw [if_pos c1]; rcases c1 with rfl | rfl <;> exact ⟨rfl, rfl⟩
  rw [if_neg c1]
  by_cases c2 : o = 2 ∨ o = 3 ∨ o = 5 ∨ o = 23 ∨ o = 24 ∨ o = 29 ∨ o = 30
  · rw [if_pos c2]
    rcases c2 with rfl | rfl | rfl | rfl | rfl | rfl | rfl <;> (have := two _ _ 0 0 rfl rfl rfl rfl; obtain rfl : b = 0 := by omega) <;> exact ⟨rfl, rfl⟩
  rw [if_neg c2]
  by_cases c3 : o = 4 ∨ o = 25 ∨ o = 26
  · rw [if_pos c3]
    rcases c3 with rfl | rfl | rfl <;> (have := two _ _ 0 0 rfl rfl rfl rfl; obtain rfl : b = 0 := by omega) <;> exact ⟨rfl, rfl⟩
  rw [if_neg c3]
  by_cases c4 : o = 6 ∨ o = 7 ∨ o = 8 ∨ o = 9 ∨ o = 11
  · rw [if_pos c4]
    rcases c4 with rfl | rfl | rfl | rfl | rfl <;> (have := two _ _ 0 0 rfl rfl rfl rfl; obtain rfl : b = 0 := by omega) <;> exact ⟨rfl, rfl⟩
  rw [if_neg c4]
  by_cases c5 : o = 10
  · rw [if_pos c5]; subst c5; exact ⟨rfl, rfl⟩
  rw [if_neg c5]
  by_cases c6 : o = 27 ∨ o = 28
  · rw [if_pos c6]; rcases c6 with rfl | rfl <;> exact ⟨rfl, rfl⟩
  rw [if_neg c6]
  by_cases c7 : o = 31 ∨ o = 32
  · rw [if_pos c7]
    rcases c7 with rfl | rfl <;> (have := two _ _ 0 0 rfl rfl rfl rfl; obtain rfl : b = 0 := by omega) <;> exact ⟨rfl, rfl⟩
  rw [if_neg c7]
  by_cases c8 : o = 33
  · rw [if_pos c8]; subst c8; exact ⟨rfl, rfl⟩
  rw [if_neg c8]
  by_cases c9 : o = 34
  · subst c9
    have := two 0 0 0 0 rfl rfl rfl rfl
    obtain rfl : a = 0 := by omega
    obtain rfl : b = 0 := by omega
    rw [if_pos rfl]; exact ⟨rfl, rfl⟩
  rw [if_neg c9]
  have h2 : o = 12 ∨ o = 13 ∨ o = 14 ∨ o = 15 ∨ o = 16 ∨ o = 17 ∨ o = 18 ∨ o = 19 ∨ o = 20 ∨ o = 21 := by omega
  rcases h2 with rfl | rfl | rfl | rfl | rfl | rfl | rfl | rfl | rfl | rfl <;> (have := two 0 0 0 0 rfl rfl rfl rfl; obtain rfl : a = 0 := (by omega); obtain rfl : b = 0 := (by omega)) <;> exact ⟨rfl, rfl⟩
/-! ### the other answers -/
def eff9 (o : Int) : Int × Int := if 0 ≤ o ∧ o ≤ 34 then ((row9 o).2.1, (row9 o).2.2.1) else (0, 0)
def target9 : Sum31 → Int × Bool
  | .t88 _ t => (t, true)
  | .t58 _ t => (t, true)
  | _ => (0, false)
def name9 (o : Int) : List UInt8 := if 0 ≤ o ∧ o ≤ 34 then (row9 o).1 else []
def findF (s : List UInt8) : Nat → List R9 → Int × Bool
  | _, [] => (0, false)
  | i, r :: l => if r.1 = s then ((i : Int), true) else findF s (i + 1) l
def find9 (s : List UInt8) : Int × Bool := findF s 0 tab9
def many9 (o a b : Int) : List UInt8 := (if (row9 o).2.2.2.1 ≥ 1 then [32] ++ Lib.itoa a else []) ++ (if (row9 o).2.2.2.1 = 2 then [32] ++ Lib.itoa b else [])
def text9 (o a b w : Int) (x : BitVec 128) : List UInt8 :=
  if 0 ≤ o ∧ o ≤ 34 then (if o = 0 then (row9 o).1 ++ [32] ++ textV w x else (row9 o).1 ++ many9 o a b) else []
theorem name9_len : ∀ k : Nat, k < 35 → (tab9[k]!).1.length ≤ 10 := by decide +kernel
theorem row_len {o : Int} (h0 : 0 ≤ o) (h1 : o ≤ 34) : (row9 o).1.length ≤ 10 := name9_len o.toNat (by omega)
theorem reftext9_s (N : Nat) (o a b w : Int) (x : BitVec 128) (ha : I64 a) (hb : I64 b) : shunterref09_Text_m N o a b w x = some (text9 o a b w x) := by
  have la := itoa_len ha
  have lb := itoa_len hb
  have lv := textV_len w x
  unfold shunterref09_Text_m text9
  by_cases h0 : o < 0
  · rw [if_pos h0, if_neg (by omega)]
  rw [if_neg h0]
  by_cases h1 : o > 34
  · rw [if_pos h1, if_neg (by omega)]
  have lr := row_len (o := o) (by omega) (by omega)
  have e := row_push (o := o) (by omega) (by omega)
  rw [if_neg h1, if_pos ⟨by omega, by omega⟩, shunterref09_Text_k1, table_s, Option.bind_some, ck_pos _ (by rw [tab9_len]; omega)]
  unfold row9 at e lr
  have k3 : ∀ s : List UInt8, s.length ≤ 100 → shunterref09_Text_k3 N o b tab9 s = some (s ++ (if (row9 o).2.2.2.1 = 2 then [32] ++ Lib.itoa b else [])) := fun s hs => by
    unfold shunterref09_Text_k3 row9
    by_cases c : (tab9[o.toNat]!).2.2.2.1 = 2
    · rw [if_pos c, if_pos c, ck_pos _ (by simp only [List.length_singleton]; omega), digits9_s N b hb, Option.bind_some, ck_pos _ (by simp only [List.length_append, List.length_singleton]; omega), List.append_assoc]
    · rw [if_neg c, if_neg c, List.append_nil]
  by_cases c : o = 0
  · rw [if_pos (e.2 c), if_pos c, ck_pos _ (by simp only [List.length_singleton]; omega), rtextv_s, Option.bind_some, ck_pos _ (by simp only [List.length_append, List.length_singleton]; omega)]; rfl
  rw [if_neg (fun h => c (e.1 h)), if_neg c]
  unfold many9
  by_cases d : (tab9[o.toNat]!).2.2.2.1 ≥ 1
  · rw [if_pos d, ck_pos _ (by simp only [List.length_singleton]; omega), digits9_s N a ha, Option.bind_some, ck_pos _ (by simp only [List.length_append, List.length_singleton]; omega), k3 _ (by simp only [List.length_append, List.length_singleton]; omega)]
    unfold row9
    rw [if_pos d, List.append_assoc, List.append_assoc, List.append_assoc]
  · rw [if_neg d, k3 _ (by omega)]
    unfold row9
    rw [if_neg d, List.nil_append]
end Go.Proofs.YtmfedgmmgehmgaaDoor
