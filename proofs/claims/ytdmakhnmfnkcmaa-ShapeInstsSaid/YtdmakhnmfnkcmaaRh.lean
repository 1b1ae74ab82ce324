/- The reference of layer 5: names, first runes, places. Conditions: none. -/
import Derived.Test.YtdmakhnmfnkcmaaRg
import Derived.Test.YtdmakhnmfnkcmaaBc
namespace Go.Proofs.Ytdmakhnmfnkcmaa
open Go Go.RowKit Go.Eng
theorem dropI (l : List Int) (i : Nat) (h : i < l.length) : l.drop i = l[i]! :: l.drop (i + 1) := by rw [List.drop_eq_getElem_cons h, getElem!_pos l i h]
theorem refmay_loop (N : Nat) (l : List Int) (hl : l.length ≤ 100000) : ∀ (k f i : Nat), i + k = l.length → k < f → shunterref05_May_l3 N l f (i : Int) = some ((l.drop i).all inR) := by
  intro k
  induction k with
  | zero =>
    intro f i hi hf
    obtain ⟨f, rfl⟩ : ∃ n, f = n + 1 := ⟨f - 1, by omega⟩
    rw [shunterref05_May_l3, if_neg (by omega), List.drop_of_length_le (by omega)]; rfl
  | succ k ih =>
    intro f i hi hf
    obtain ⟨f, rfl⟩ : ∃ n, f = n + 1 := ⟨f - 1, by omega⟩
    have e1 : (i : Int) + 1 = ((i + 1 : Nat) : Int) := by omega
    have g : (0 : Int) ≤ (i : Int) ∧ (i : Int) < (l.length : Int) := by omega
    rw [shunterref05_May_l3, if_pos (by omega), ck_pos _ g, refletter_s, Option.bind_some]
    simp only [ck_pos _ g]
    rw [ck_pos _ (by omega), e1, ih f (i + 1) (by omega) (by omega), Int.toNat_natCast, dropI l i (by omega), List.all_cons]
    generalize l[i]! = c
    unfold inR
    by_cases h1 : letR c = true
    · rw [if_pos h1, h1]; rfl
    · have h1' : letR c = false := by simpa using h1
      rw [if_neg h1, h1', Bool.false_or]
      have yes : ((48 ≤ c ∧ c ≤ 57) ∨ c = 45 ∨ c = 46) → some ((l.drop (i + 1)).all inR) = some (decide ((48 ≤ c ∧ c ≤ 57) ∨ c = 45 ∨ c = 46) && (l.drop (i + 1)).all inR) := fun h => by rw [decide_eq_true h]; rfl
      have no : ¬ ((48 ≤ c ∧ c ≤ 57) ∨ c = 45 ∨ c = 46) → some false = some (decide ((48 ≤ c ∧ c ≤ 57) ∨ c = 45 ∨ c = 46) && (l.drop (i + 1)).all inR) := fun h => by rw [decide_eq_false h]; rfl
      have tail : ¬ (48 ≤ c ∧ c ≤ 57) → (if c ≠ 45 then if c ≠ 46 then some false else some ((l.drop (i + 1)).all inR) else some ((l.drop (i + 1)).all inR)) = some (decide ((48 ≤ c ∧ c ≤ 57) ∨ c = 45 ∨ c = 46) && (l.drop (i + 1)).all inR) := fun h => by
        by_cases a : c ≠ 45
        · rw [if_pos a]
          by_cases b : c ≠ 46
          · rw [if_pos b]; exact no (by omega)
          · rw [if_neg b]; exact yes (by omega)
        · rw [if_neg a]; exact yes (by omega)
      by_cases h2 : c ≥ 48
      · rw [if_pos h2]
        by_cases h3 : c ≤ 57
        · rw [if_pos h3]; exact yes (.inl ⟨h2, h3⟩)
        · rw [if_neg h3]; exact tail (by omega)
      · rw [if_neg h2]; exact tail (by omega)
theorem refmay_s (N : Nat) (s : List UInt8) (hb : s.length ≤ 100000) (hN : s.length < N) : shunterref05_May_m N s = some (mayL (runesL s)) := by
  have hl := runesL_len s
  rw [shunterref05_May_m, refrunes_s N s hb hN, Option.bind_some]
  generalize runesL s = l at hl
  unfold mayL
  by_cases h1 : (l.length : Int) < 1
  · rw [if_pos h1, decide_eq_false (by omega)]; rfl
  rw [if_neg h1]
  by_cases h2 : (l.length : Int) > 24
  · rw [if_pos h2, decide_eq_false (by omega)]; rfl
  rw [if_neg h2, decide_eq_true (by omega), ck_pos _ (by omega), refletter_s, Option.bind_some, Bool.true_and]
  show (if letR (l[0]!) = true then _ else _) = _
  by_cases h3 : letR (l[0]!) = true
  · rw [if_pos h3, h3, shunterref05_May_k1]
    exact refmay_loop N l (by omega) l.length N 0 (by omega) (by omega)
  · have h3' : letR (l[0]!) = false := by simpa using h3
    rw [if_neg h3, h3']; rfl
/-! ### first runes -/
/-- how many bytes the first k runes have -/
def posR (s : List UInt8) : Nat → Nat
  | 0 => 0
  | k + 1 => nextP s (posR s k)
theorem nextP_end {s : List UInt8} {p : Nat} (h : ¬ p < s.length) : nextP s p = p := by unfold nextP; rw [if_neg h]
theorem posR_le (s : List UInt8) (k : Nat) : posR s k ≤ s.length := by
  induction k with
  | zero => exact Nat.zero_le _
  | succ k ih =>
    rw [posR]
    by_cases h : posR s k < s.length
    · exact (next_lt h).2
    · rw [nextP_end h]; exact ih
theorem posR_end {s : List UInt8} {k : Nat} (h : ¬ posR s k < s.length) : ∀ j, posR s (k + j) = posR s k
  | 0 => rfl
  | j + 1 => by rw [← Nat.add_assoc, posR, posR_end h j, nextP_end h]
theorem posR_ge {s : List UInt8} {k : Nat} (h : posR s k < s.length) : k ≤ posR s k := by
  induction k with
  | zero => exact Nat.zero_le _
  | succ k ih =>
    by_cases h1 : posR s k < s.length
    · have := (next_lt h1).1
      have := ih h1
      rw [posR]; omega
    · have e : posR s (k + 1) = posR s k := posR_end h1 1
      rw [e] at h; exact absurd h h1
theorem posR_runes (s : List UInt8) (k : Nat) (h : posR s k < s.length ∨ k = 0) : (runesL (s.drop (posR s k))).length + k = (runesL s).length := by
  induction k with
  | zero => rw [posR]; rfl
  | succ k ih =>
    have h1 : posR s k < s.length := by
      by_cases h1 : posR s k < s.length
      · exact h1
      · have e : posR s (k + 1) = posR s k := posR_end h1 1
        rw [e] at h; omega
    have := ih (.inl h1)
    rw [runesL_at h1, List.length_cons] at this
    rw [posR]; omega
/-- all runes are the text -/
theorem posR_all (s : List UInt8) : posR s (runesL s).length = s.length := by
  by_cases h : posR s (runesL s).length < s.length
  · have h1 := posR_runes s _ (.inl h)
    have h2 := runesL_at h
    have h3 := congrArg List.length h2
    rw [List.length_cons] at h3; omega
  · have := posR_le s (runesL s).length; omega
/-! ### places -/
/-- the line, and where it begins, behind i bytes -/
def plF (s : List UInt8) : Nat → Nat × Nat
  | 0 => (1, 0)
  | i + 1 => if byteAt s (i : Int) = 10 then ((plF s i).1 + 1, i + 1) else plF s i
theorem plF_le (s : List UInt8) (i : Nat) : (plF s i).2 ≤ i ∧ (plF s i).1 ≤ i + 1 := by
  induction i with
  | zero => exact ⟨Nat.le_refl _, Nat.le_refl _⟩
  | succ i ih =>
    rw [plF]; split
    · exact ⟨Nat.le_refl _, by show (plF s i).1 + 1 ≤ _; omega⟩
    · omega
def clampL (s : List UInt8) (at' : Int) : Nat := (max 0 (min at' (s.length : Int))).toNat
def placeL (s : List UInt8) (at' : Int) : Int × Int := (((plF s (clampL s at')).1 : Int), ((runesL ((s.take (clampL s at')).drop (plF s (clampL s at')).2)).length : Int) + 1)
end Go.Proofs.Ytdmakhnmfnkcmaa
