/- The runes of texts. Conditions: none. -/
import Derived.Test.YtdgejbbelmhbdaaIt
namespace Go.Proofs.Ytdgejbbelmhbdaa
open Go Go.RowKit Go.Eng
def cont (n : Nat) : Prop := 128 ≤ n ∧ n < 192
instance (n : Nat) : Decidable (cont n) := inferInstanceAs (Decidable (_ ∧ _))
/-- the first rune of four bytes, of which n are there -/
def decN (b0 b1 b2 b3 n : Nat) : Nat × Nat :=
  if b0 < 128 then (b0, 1)
  else if 194 ≤ b0 ∧ b0 < 224 ∧ 2 ≤ n ∧ cont b1 then (64 * (b0 - 192) + (b1 - 128), 2)
  else if 224 ≤ b0 ∧ b0 < 240 ∧ 3 ≤ n ∧ cont b1 ∧ cont b2 ∧ 2048 ≤ 4096 * (b0 - 224) + 64 * (b1 - 128) + (b2 - 128) ∧ (4096 * (b0 - 224) + 64 * (b1 - 128) + (b2 - 128) < 55296 ∨ 57343 < 4096 * (b0 - 224) + 64 * (b1 - 128) + (b2 - 128)) then (4096 * (b0 - 224) + 64 * (b1 - 128) + (b2 - 128), 3)
  else if 240 ≤ b0 ∧ b0 < 245 ∧ 4 ≤ n ∧ cont b1 ∧ cont b2 ∧ cont b3 ∧ 65536 ≤ 262144 * (b0 - 240) + 4096 * (b1 - 128) + 64 * (b2 - 128) + (b3 - 128) ∧ 262144 * (b0 - 240) + 4096 * (b1 - 128) + 64 * (b2 - 128) + (b3 - 128) ≤ 1114111 then (262144 * (b0 - 240) + 4096 * (b1 - 128) + 64 * (b2 - 128) + (b3 - 128), 4)
  else (65533, 1)
def decU (b0 b1 b2 b3 n : Nat) : Nat × Nat :=
  if b0 < 0x80 then (b0, 1)
  else if b0 / 32 == 6 && (decide (1 < n) && b1 / 64 == 2) then
    if b0 % 32 * 64 + b1 % 64 ≥ 0x80 then (b0 % 32 * 64 + b1 % 64, 2) else (65533, 1)
  else if b0 / 16 == 14 && (decide (1 < n) && b1 / 64 == 2) && (decide (2 < n) && b2 / 64 == 2) then
    if b0 % 16 * 4096 + b1 % 64 * 64 + b2 % 64 ≥ 0x800 && Utf8.valid ((b0 % 16 * 4096 + b1 % 64 * 64 + b2 % 64 : Nat) : Int) then (b0 % 16 * 4096 + b1 % 64 * 64 + b2 % 64, 3) else (65533, 1)
  else if b0 / 8 == 30 && (decide (1 < n) && b1 / 64 == 2) && (decide (2 < n) && b2 / 64 == 2) && (decide (3 < n) && b3 / 64 == 2) then
    if b0 % 8 * 262144 + b1 % 64 * 4096 + b2 % 64 * 64 + b3 % 64 ≥ 0x10000 && Utf8.valid ((b0 % 8 * 262144 + b1 % 64 * 4096 + b2 % 64 * 64 + b3 % 64 : Nat) : Int) then (b0 % 8 * 262144 + b1 % 64 * 4096 + b2 % 64 * 64 + b3 % 64, 4) else (65533, 1)
  else (65533, 1)
theorem decU_eq (b0 b1 b2 b3 n : Nat) (h0 : b0 < 256) (h1 : b1 < 256) (h2 : b2 < 256) (h3 : b3 < 256) : decU b0 b1 b2 b3 n = decN b0 b1 b2 b3 n := by
  unfold decU decN cont Utf8.valid
  simp only [Bool.and_eq_true, beq_iff_eq, decide_eq_true_eq, Bool.or_eq_true, ge_iff_le]
  by_cases g0 : b0 < 128
  · rw [if_pos g0, if_pos g0]
  rw [if_neg g0, if_neg g0]
  split
  · rename_i h
    split
    · rw [if_pos (by omega)]; exact Prod.ext (by show b0 % 32 * 64 + b1 % 64 = 64 * (b0 - 192) + (b1 - 128); omega) rfl
    · rw [if_neg (by omega), if_neg (by omega), if_neg (by omega)]
  · rename_i h
    split
    · rename_i h2
      have e : b0 % 16 * 4096 + b1 % 64 * 64 + b2 % 64 = 4096 * (b0 - 224) + 64 * (b1 - 128) + (b2 - 128) := by omega
      rw [e]
      split
      · rw [if_neg (by omega), if_pos (by omega)]
      · rw [if_neg (by omega), if_neg (by omega), if_neg (by omega)]
    · rename_i h2
      split
      · rename_i h3
        have e : b0 % 8 * 262144 + b1 % 64 * 4096 + b2 % 64 * 64 + b3 % 64 = 262144 * (b0 - 240) + 4096 * (b1 - 128) + 64 * (b2 - 128) + (b3 - 128) := by omega
        rw [e]
        split
        · rw [if_neg (by omega), if_neg (by omega), if_pos (by omega)]
        · rw [if_neg (by omega), if_neg (by omega), if_neg (by omega)]
      · rw [if_neg (by omega), if_neg (by omega), if_neg (by omega)]
theorem get_b (s : List UInt8) (i : Nat) : (⟨s.toArray⟩ : ByteArray).get! i = s.getD i 0 := by
  show s.toArray[i]! = _
  rw [List.getElem!_toArray, List.getElem!_eq_getElem?_getD, List.getD_eq_getElem?_getD]; rfl
theorem getD_drop (s : List UInt8) (p k : Nat) : (s.drop p).getD k 0 = s.getD (p + k) 0 := by
  rw [List.getD_eq_getElem?_getD, List.getD_eq_getElem?_getD, List.getElem?_drop]
def dec (s : List UInt8) : Nat × Nat := decN (s.getD 0 0).toNat (s.getD 1 0).toNat (s.getD 2 0).toNat (s.getD 3 0).toNat s.length
theorem decode_dec (s : List UInt8) (p : Nat) (h : p < s.length) : Utf8.decode ⟨s.toArray⟩ p = dec (s.drop p) := by
  unfold dec
  rw [← decU_eq _ _ _ _ _ (UInt8.toNat_lt _) (UInt8.toNat_lt _) (UInt8.toNat_lt _) (UInt8.toNat_lt _)]
  unfold Utf8.decode decU
  have hs : (⟨s.toArray⟩ : ByteArray).size = s.length := rfl
  simp only [get_b, getD_drop, List.length_drop, hs, Nat.add_zero, Utf8.runeError]
  have e : ∀ k, (p + k < s.length) = (k < s.length - p) := fun k => propext (by omega)
  simp only [e]
end Go.Proofs.Ytdgejbbelmhbdaa
/- The runes of texts, as a row; and back. Conditions: none. -/
namespace Go.Proofs.Ytdgejbbelmhbdaa
open Go Go.RowKit Go.Eng
theorem decN_w (b0 b1 b2 b3 n : Nat) (h : 1 ≤ n) : 1 ≤ (decN b0 b1 b2 b3 n).2 ∧ (decN b0 b1 b2 b3 n).2 ≤ n ∧ (decN b0 b1 b2 b3 n).2 ≤ 4 := by
  unfold decN
  split
  · show 1 ≤ 1 ∧ 1 ≤ n ∧ 1 ≤ 4; omega
  · split
    · show 1 ≤ 2 ∧ 2 ≤ n ∧ 2 ≤ 4; omega
    · split
      · show 1 ≤ 3 ∧ 3 ≤ n ∧ 3 ≤ 4; omega
      · split
        · show 1 ≤ 4 ∧ 4 ≤ n ∧ 4 ≤ 4; omega
        · show 1 ≤ 1 ∧ 1 ≤ n ∧ 1 ≤ 4; omega
theorem dec_w (s : List UInt8) (h : s ≠ []) : 1 ≤ (dec s).2 ∧ (dec s).2 ≤ s.length ∧ (dec s).2 ≤ 4 := decN_w _ _ _ _ _ (List.length_pos_iff.mpr h)
def runesF : Nat → List UInt8 → List Int
  | 0, _ => []
  | f + 1, s => if s = [] then [] else ((dec s).1 : Int) :: runesF f (s.drop (dec s).2)
theorem runesF_ge : ∀ (f g : Nat) (s : List UInt8), s.length ≤ f → s.length ≤ g → runesF f s = runesF g s
  | 0, 0, _, _, _ => rfl
  | 0, g + 1, s, h, _ => by
    have : s = [] := List.eq_nil_of_length_eq_zero (by omega)
    rw [runesF, runesF, if_pos this]
  | f + 1, 0, s, _, h => by
    have : s = [] := List.eq_nil_of_length_eq_zero (by omega)
    rw [runesF, runesF, if_pos this]
  | f + 1, g + 1, s, h, h' => by
    rw [runesF, runesF]
    by_cases hs : s = []
    · rw [if_pos hs, if_pos hs]
    · have := dec_w s hs
      rw [if_neg hs, if_neg hs, runesF_ge f g _ (by rw [List.length_drop]; omega) (by rw [List.length_drop]; omega)]
/-- The runes of a text. -/
def runesL (s : List UInt8) : List Int := runesF s.length s
theorem runesL_nil : runesL [] = [] := rfl
theorem runesL_cons {s : List UInt8} (h : s ≠ []) : runesL s = ((dec s).1 : Int) :: runesL (s.drop (dec s).2) := by
  have hw := dec_w s h
  unfold runesL
  obtain ⟨k, hk⟩ : ∃ k, s.length = k + 1 := ⟨s.length - 1, by omega⟩
  rw [hk, runesF, if_neg h, runesF_ge k _ _ (by rw [List.length_drop]; omega) (Nat.le_refl _)]
theorem runes_ind {p : List UInt8 → Prop} (h0 : p []) (h1 : ∀ s, s ≠ [] → p (s.drop (dec s).2) → p s) : ∀ s, p s := by
  have : ∀ n s, s.length ≤ n → p s := by
    intro n
    induction n with
    | zero => intro s h; rw [List.eq_nil_of_length_eq_zero (by omega : s.length = 0)]; exact h0
    | succ n ih =>
      intro s h
      by_cases hs : s = []
      · rw [hs]; exact h0
      · have := dec_w s hs
        exact h1 s hs (ih _ (by rw [List.length_drop]; omega))
  exact fun s => this s.length s (Nat.le_refl _)
theorem runesL_len (s : List UInt8) : (runesL s).length ≤ s.length := by
  refine runes_ind (p := fun s => (runesL s).length ≤ s.length) (Nat.le_refl _) (fun s hs ih => ?_) s
  have := dec_w s hs
  rw [runesL_cons hs, List.length_cons]; rw [List.length_drop] at ih; omega
theorem at_dec {s : List UInt8} {p : Nat} (h : p < s.length) : runeAt s p = (dec (s.drop p)).1 ∧ nextP s p = p + (dec (s.drop p)).2 := by
  unfold runeAt nextP runeW
  rw [if_pos h, decode_dec s p h]; exact ⟨rfl, rfl⟩
theorem drop_ne {s : List UInt8} {p : Nat} (h : p < s.length) : s.drop p ≠ [] := fun e => by
  have := congrArg List.length e
  rw [List.length_drop, List.length_nil] at this; omega
theorem next_lt {s : List UInt8} {p : Nat} (h : p < s.length) : p < nextP s p ∧ nextP s p ≤ s.length := by
  have := dec_w _ (drop_ne h)
  rw [List.length_drop] at this
  rw [(at_dec h).2]; omega
theorem runesL_at {s : List UInt8} {p : Nat} (h : p < s.length) : runesL (s.drop p) = (runeAt s p : Int) :: runesL (s.drop (nextP s p)) := by
  rw [runesL_cons (drop_ne h), (at_dec h).1, (at_dec h).2, List.drop_drop]
theorem runesL_end {s : List UInt8} {p : Nat} (h : ¬ p < s.length) : runesL (s.drop p) = [] := by
  rw [List.drop_of_length_le (by omega)]; rfl
end Go.Proofs.Ytdgejbbelmhbdaa
/- Letters, names, by their runes. Conditions: none. -/
namespace Go.Proofs.Ytdgejbbelmhbdaa
open Go Go.RowKit Go.Eng
def letR (c : Int) : Bool := decide (((65 ≤ c ∧ c ≤ 90) ∨ (97 ≤ c ∧ c ≤ 122) ∨ c = 95 ∨ (192 ≤ c ∧ c ≤ 591) ∨ (913 ≤ c ∧ c ≤ 969) ∨ (1024 ≤ c ∧ c ≤ 1279)) ∧ c ≠ 215 ∧ c ≠ 247 ∧ c ≠ 930)
def inR (c : Int) : Bool := letR c || decide ((48 ≤ c ∧ c ≤ 57) ∨ c = 45 ∨ c = 46)
def mayL (l : List Int) : Bool := decide (1 ≤ l.length ∧ l.length ≤ 24) && letR (l[0]!) && l.all inR
end Go.Proofs.Ytdgejbbelmhbdaa
