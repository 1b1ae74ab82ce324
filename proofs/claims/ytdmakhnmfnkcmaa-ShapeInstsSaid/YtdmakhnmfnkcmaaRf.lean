/- The reference of layer 5: the models' answers. Conditions: none. -/
import Derived.Test.YtdmakhnmfnkcmaaRb
import Derived.Test.YtdmakhnmfnkcmaaRp
import Derived.Test.YtdmakhnmfnkcmaaBc
namespace Go.Proofs.Ytdmakhnmfnkcmaa
open Go Go.RowKit Go.Eng
theorem refrunes_loop (N : Nat) : ∀ (f : Nat) (s : List UInt8) (l : List Int), s.length < f → l.length + s.length ≤ 100000 → shunterref05_Runes_l3 N f s l = some (l ++ runesL s) := by
  intro f
  induction f with
  | zero => intro s l h; omega
  | succ f ih =>
    intro s l h hl
    rw [shunterref05_Runes_l3]
    by_cases hs : s = []
    · subst hs
      rw [if_neg (by simp), runesL_nil, List.append_nil]
    · have hpos := List.length_pos_iff.mpr hs
      have hw := dec_w s hs
      have e : ((dec s).2 : Int).toNat = (dec s).2 := Int.toNat_natCast _
      rw [if_pos (by omega), first_s N s hs, Option.bind_some]
      simp only [e]
      rw [ck_pos _ (by simp only [List.length_singleton]; omega), ck_pos _ (by omega), ih _ _ (by rw [List.length_drop]; omega) (by rw [List.length_append, List.length_singleton, List.length_drop]; omega), runesL_cons hs, List.append_assoc]
      rfl
theorem refrunes_s (N : Nat) (s : List UInt8) (hb : s.length ≤ 100000) (hN : s.length < N) : shunterref05_Runes_m N s = some (runesL s) := by
  rw [shunterref05_Runes_m, refrunes_loop N N s [] hN (by simpa using hb), List.nil_append]
/-- a rune folded -/
def foldR (c : Int) : Int := if (65 ≤ c ∧ c ≤ 90) ∨ (192 ≤ c ∧ c ≤ 222 ∧ c ≠ 215) ∨ (913 ≤ c ∧ c ≤ 937 ∧ c ≠ 930) ∨ (1040 ≤ c ∧ c ≤ 1071) then c + 32 else if 1024 ≤ c ∧ c ≤ 1039 then c + 80 else if c = 962 then 963 else c
theorem fold1_s (c : Int) (h : ¬ ((65 ≤ c ∧ c ≤ 90) ∨ (192 ≤ c ∧ c ≤ 222 ∧ c ≠ 215) ∨ (913 ≤ c ∧ c ≤ 937 ∧ c ≠ 930) ∨ (1040 ≤ c ∧ c ≤ 1071))) : shunterref05_Fold_k1 c = some (foldR c) := by
  unfold shunterref05_Fold_k1 shunterref05_Fold_k2 foldR
  rw [if_neg h]
  by_cases h1 : c ≥ 1024
  · rw [if_pos h1]
    by_cases h2 : c ≤ 1039
    · rw [if_pos h2, if_pos ⟨h1, h2⟩, ck_pos _ (by omega)]
    · have hn : ¬ (1024 ≤ c ∧ c ≤ 1039) := fun h' => h2 h'.2
      rw [if_neg h2, if_neg hn]; split <;> rfl
  · have hn : ¬ (1024 ≤ c ∧ c ≤ 1039) := fun h' => h1 h'.1
    rw [if_neg h1, if_neg hn]; split <;> rfl
theorem fold32_s (c : Int) (h : (65 ≤ c ∧ c ≤ 90) ∨ (192 ≤ c ∧ c ≤ 222 ∧ c ≠ 215) ∨ (913 ≤ c ∧ c ≤ 937 ∧ c ≠ 930) ∨ (1040 ≤ c ∧ c ≤ 1071)) : ck (-9223372036854775808 ≤ c + 32 ∧ c + 32 ≤ 9223372036854775807) (some (c + 32)) = some (foldR c) := by
  unfold foldR; rw [if_pos h, ck_pos _ (by omega)]
theorem reffold_s (N : Nat) (c : Int) : shunterref05_Fold_m N c = some (foldR c) := by
  unfold shunterref05_Fold_m
  repeat' split
  all_goals first
    | exact fold32_s c (by omega)
    | exact fold1_s c (by omega)
/-- a letter? -/
theorem letT {c : Int} (h : ((65 ≤ c ∧ c ≤ 90) ∨ (97 ≤ c ∧ c ≤ 122) ∨ c = 95 ∨ (192 ≤ c ∧ c ≤ 591) ∨ (913 ≤ c ∧ c ≤ 969) ∨ (1024 ≤ c ∧ c ≤ 1279)) ∧ c ≠ 215 ∧ c ≠ 247 ∧ c ≠ 930) : some true = some (letR c) := congrArg some (decide_eq_true h).symm
theorem letF {c : Int} (h : ¬ (((65 ≤ c ∧ c ≤ 90) ∨ (97 ≤ c ∧ c ≤ 122) ∨ c = 95 ∨ (192 ≤ c ∧ c ≤ 591) ∨ (913 ≤ c ∧ c ≤ 969) ∨ (1024 ≤ c ∧ c ≤ 1279)) ∧ c ≠ 215 ∧ c ≠ 247 ∧ c ≠ 930)) : some false = some (letR c) := congrArg some (decide_eq_false h).symm
theorem letD {c : Int} {p : Prop} [Decidable p] (h : p ↔ (((65 ≤ c ∧ c ≤ 90) ∨ (97 ≤ c ∧ c ≤ 122) ∨ c = 95 ∨ (192 ≤ c ∧ c ≤ 591) ∨ (913 ≤ c ∧ c ≤ 969) ∨ (1024 ≤ c ∧ c ≤ 1279)) ∧ c ≠ 215 ∧ c ≠ 247 ∧ c ≠ 930)) : some (decide p) = some (letR c) := congrArg some (decide_eq_decide.mpr h)
theorem letk2_s (c : Int) (h : ¬ ((65 ≤ c ∧ c ≤ 90) ∨ (97 ≤ c ∧ c ≤ 122) ∨ c = 95)) (h1 : c ≠ 215 ∧ c ≠ 247 ∧ c ≠ 930) : shunterref05_Letter_k2 c = some (letR c) := by
  unfold shunterref05_Letter_k2
  by_cases a1 : c ≥ 192
  · rw [if_pos a1]
    by_cases a2 : c ≤ 591
    · rw [if_pos a2]; exact letT (by omega)
    · rw [if_neg a2]
      by_cases a3 : c ≥ 913
      · rw [if_pos a3]
        by_cases a4 : c ≤ 969
        · rw [if_pos a4]; exact letT (by omega)
        · rw [if_neg a4]
          by_cases a5 : c ≥ 1024
          · rw [if_pos a5]; exact letD (by omega)
          · rw [if_neg a5]; exact letF (by omega)
      · rw [if_neg a3, if_neg (by omega)]; exact letF (by omega)
  · rw [if_neg a1, if_neg (by omega), if_neg (by omega)]; exact letF (by omega)
theorem letk1_s (c : Int) (h : ¬ ((65 ≤ c ∧ c ≤ 90) ∨ (97 ≤ c ∧ c ≤ 122) ∨ c = 95)) : shunterref05_Letter_k1 c = some (letR c) := by
  unfold shunterref05_Letter_k1
  by_cases a1 : c = 215
  · rw [if_pos a1]; exact letF (by omega)
  · rw [if_neg a1]
    by_cases a2 : c = 247
    · rw [if_pos a2]; exact letF (by omega)
    · rw [if_neg a2]
      by_cases a3 : c = 930
      · rw [if_pos a3]; exact letF (by omega)
      · rw [if_neg a3, letk2_s c h ⟨a1, a2, a3⟩]
theorem refletter_s (N : Nat) (c : Int) : shunterref05_Letter_m N c = some (letR c) := by
  unfold shunterref05_Letter_m
  have key : (if c = 95 then some true else shunterref05_Letter_k1 c) = some (letR c) ∨ ((65 ≤ c ∧ c ≤ 90) ∨ (97 ≤ c ∧ c ≤ 122)) := by
    by_cases h : (65 ≤ c ∧ c ≤ 90) ∨ (97 ≤ c ∧ c ≤ 122)
    · exact .inr h
    · left
      by_cases h1 : c = 95
      · rw [if_pos h1]; exact letT (by omega)
      · rw [if_neg h1, letk1_s c (by omega)]
  have fin : ¬ ((65 ≤ c ∧ c ≤ 90) ∨ (97 ≤ c ∧ c ≤ 122)) → (if c = 95 then some true else shunterref05_Letter_k1 c) = some (letR c) := fun h => key.resolve_right h
  by_cases a1 : c ≥ 65
  · rw [if_pos a1]
    by_cases a2 : c ≤ 90
    · rw [if_pos a2]; exact letT (by omega)
    · rw [if_neg a2]
      by_cases a3 : c ≥ 97
      · rw [if_pos a3]
        by_cases a4 : c ≤ 122
        · rw [if_pos a4]; exact letT (by omega)
        · rw [if_neg a4]; exact fin (by omega)
      · rw [if_neg a3]; exact fin (by omega)
  · rw [if_neg a1, if_neg (by omega)]; exact fin (by omega)
/-- the runes of a text's key -/
def keysL (s : List UInt8) : List Int := (runesL s).map foldR
theorem map_step (l : List Int) (i : Nat) (h : i < l.length) : ((l.take i).map foldR ++ l.drop i)[i]! = l[i]! ∧ ((l.take i).map foldR ++ l.drop i).set i (foldR (l[i]!)) = (l.take (i + 1)).map foldR ++ l.drop (i + 1) := by
  have hl : ((l.take i).map foldR).length = i := by rw [List.length_map, List.length_take]; omega
  have hd : l.drop i = l[i]! :: l.drop (i + 1) := by rw [List.drop_eq_getElem_cons h, getElem!_pos l i h]
  have ht : l.take (i + 1) = l.take i ++ [l[i]!] := by rw [List.take_add_one, List.getElem?_eq_getElem h, getElem!_pos l i h]; rfl
  refine ⟨?_, ?_⟩
  · rw [List.getElem!_eq_getElem?_getD, List.getElem?_append_right (by omega), hl, Nat.sub_self, hd]; rfl
  · rw [List.set_append_right _ _ (by omega), hl, Nat.sub_self, hd, List.set_cons_zero, ht, List.map_append, List.append_assoc]; rfl
theorem refkeys_loop (N : Nat) (l : List Int) (hl : l.length ≤ 100000) : ∀ (k f i : Nat), i + k = l.length → k < f → shunterref05_Keys_l3 N f ((l.take i).map foldR ++ l.drop i) (i : Int) = some (l.map foldR) := by
  intro k
  induction k with
  | zero =>
    intro f i hi hf
    obtain ⟨f, rfl⟩ : ∃ n, f = n + 1 := ⟨f - 1, by omega⟩
    have hlen : ((l.take i).map foldR ++ l.drop i).length = l.length := by rw [List.length_append, List.length_map, List.length_take, List.length_drop]; omega
    rw [shunterref05_Keys_l3, hlen, if_neg (by omega), List.take_of_length_le (by omega), List.drop_of_length_le (by omega), List.append_nil]
  | succ k ih =>
    intro f i hi hf
    obtain ⟨f, rfl⟩ : ∃ n, f = n + 1 := ⟨f - 1, by omega⟩
    have hlen : ((l.take i).map foldR ++ l.drop i).length = l.length := by rw [List.length_append, List.length_map, List.length_take, List.length_drop]; omega
    obtain ⟨h1, h2⟩ := map_step l i (by omega)
    have e1 : (i : Int) + 1 = ((i + 1 : Nat) : Int) := by omega
    rw [shunterref05_Keys_l3, hlen, if_pos (by omega), ck_pos _ (by omega), Int.toNat_natCast, h1, reffold_s, Option.bind_some, ck_pos _ (by omega), ck_pos _ (by omega), h2, e1]
    exact ih f (i + 1) (by omega) (by omega)
theorem refkeys_s (N : Nat) (s : List UInt8) (hb : s.length ≤ 100000) (hN : s.length < N) : shunterref05_Keys_m N s = some (keysL s) := by
  have hl := runesL_len s
  rw [shunterref05_Keys_m, refrunes_s N s hb hN, Option.bind_some]
  have := refkeys_loop N (runesL s) (by omega) (runesL s).length N 0 (by omega) (by omega)
  exact this
/-- how two rows of runes stand to each other -/
def ordL : List Int → List Int → Int
  | [], [] => 0
  | [], _ :: _ => -1
  | _ :: _, [] => 1
  | x :: a, y :: b => if x < y then -1 else if x > y then 1 else ordL a b
theorem ordL_same : ∀ a : List Int, ordL a a = 0
  | [] => rfl
  | x :: a => by rw [ordL, if_neg (by omega), if_neg (by omega), ordL_same a]
theorem reforder_loop (a b : List Int) (ha : a.length ≤ 100000) : ∀ (k f i : Nat), a.length ≤ i + k → k < f → i ≤ a.length → i ≤ b.length → shunterref05_Order_l3 a b f (i : Int) = some (ordL (a.drop i) (b.drop i)) := by
  intro k
  induction k with
  | zero =>
    intro f i hi hf h1 h2
    obtain ⟨f, rfl⟩ : ∃ n, f = n + 1 := ⟨f - 1, by omega⟩
    have ea : a.drop i = [] := List.drop_of_length_le (by omega)
    rw [shunterref05_Order_l3, if_neg (by omega), shunterref05_Order_k1, ea]
    by_cases hb1 : i < b.length
    · rw [if_pos (by omega), List.drop_eq_getElem_cons hb1]; rfl
    · rw [if_neg (by omega), if_neg (by omega), List.drop_of_length_le (by omega : b.length ≤ i)]; rfl
  | succ k ih =>
    intro f i hi hf h1 h2
    obtain ⟨f, rfl⟩ : ∃ n, f = n + 1 := ⟨f - 1, by omega⟩
    have e1 : (i : Int) + 1 = ((i + 1 : Nat) : Int) := by omega
    rw [shunterref05_Order_l3]
    by_cases ha1 : i < a.length
    · have ea : a.drop i = a[i]! :: a.drop (i + 1) := by rw [List.drop_eq_getElem_cons ha1, getElem!_pos a i ha1]
      rw [if_pos (by omega), ea]
      by_cases hb1 : i < b.length
      · have eb : b.drop i = b[i]! :: b.drop (i + 1) := by rw [List.drop_eq_getElem_cons hb1, getElem!_pos b i hb1]
        rw [if_pos (by omega), eb, ordL, shunterref05_Order_k4, ck_pos _ (by omega), ck_pos _ (by omega), Int.toNat_natCast]
        by_cases hlt : a[i]! < b[i]!
        · rw [if_pos hlt, if_pos hlt]
        · rw [if_neg hlt, if_neg hlt, ck_pos _ (by omega), ck_pos _ (by omega)]
          by_cases hgt : a[i]! > b[i]!
          · rw [if_pos hgt, if_pos hgt]
          · rw [if_neg hgt, if_neg hgt, ck_pos _ (by omega), e1, ih f (i + 1) (by omega) (by omega) (by omega) (by omega)]
      · rw [if_neg (by omega), shunterref05_Order_k1, if_neg (by omega), if_pos (by omega), List.drop_of_length_le (by omega : b.length ≤ i)]; rfl
    · have ea : a.drop i = [] := List.drop_of_length_le (by omega)
      rw [if_neg (by omega), shunterref05_Order_k1, ea]
      by_cases hb1 : i < b.length
      · rw [if_pos (by omega), List.drop_eq_getElem_cons hb1]; rfl
      · rw [if_neg (by omega), if_neg (by omega), List.drop_of_length_le (by omega : b.length ≤ i)]; rfl
theorem reforder_s (N : Nat) (a b : List Int) (ha : a.length ≤ 100000) (hN : a.length < N) : shunterref05_Order_m N a b = some (ordL a b) := by
  have := reforder_loop a b ha a.length N 0 (by omega) hN (by omega) (by omega)
  rw [shunterref05_Order_m]; exact this
/-- which of two texts comes ahead -/
def lessL (a b : List UInt8) : Bool := if ordL (keysL a) (keysL b) < 0 then true else if ordL (keysL a) (keysL b) = 0 then Op.bytesLess a b else false
theorem keysL_len (s : List UInt8) : (keysL s).length ≤ s.length := by unfold keysL; rw [List.length_map]; exact runesL_len s
end Go.Proofs.Ytdmakhnmfnkcmaa
