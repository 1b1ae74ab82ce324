/- What the models of bits in bytes come to. Conditions: none but those written. -/
import Derived.Test.YtdgejbbelmhbdaaVQ
namespace Go.Proofs.Ytdgejbbelmhbdaa
open Go Go.RowKit Go.Eng
def byteBits (x : UInt8) : List Bool := (List.range 8).map fun t => x.toNat.testBit (7 - t)
def bitsB (b : List UInt8) : List Bool := b.flatMap byteBits
def bitAt (b : List UInt8) (k : Nat) : Bool := (b[k / 8]!).toNat.testBit (7 - k % 8)
theorem byteBits_len (x : UInt8) : (byteBits x).length = 8 := by simp [byteBits]
theorem bitsB_len (b : List UInt8) : (bitsB b).length = 8 * b.length := by
  induction b with
  | nil => rfl
  | cons x b ih => simp only [bitsB, List.flatMap_cons, List.length_append, byteBits_len, List.length_cons] at *; omega
theorem bitsB_app (a b : List UInt8) : bitsB (a ++ b) = bitsB a ++ bitsB b := by simp [bitsB]
theorem bitsB_get? (b : List UInt8) : ∀ k, k < 8 * b.length → (bitsB b)[k]? = some (bitAt b k) := by
  induction b with
  | nil => intro k hk; simp at hk
  | cons x b ih =>
    intro k hk
    show (byteBits x ++ bitsB b)[k]? = _
    by_cases h : k < 8
    · rw [List.getElem?_append_left (by rw [byteBits_len]; exact h)]
      have h0 : k / 8 = 0 := by omega
      have h1 : k % 8 = k := by omega
      simp [byteBits, bitAt, h0, h1, h]
    · rw [List.getElem?_append_right (by rw [byteBits_len]; omega), byteBits_len, ih _ (by simp at hk; omega)]
      have h0 : k / 8 = (k - 8) / 8 + 1 := by omega
      have h1 : k % 8 = (k - 8) % 8 := by omega
      simp only [bitAt, h0, h1]
      congr 1
theorem bitsB_get (b : List UInt8) (k : Nat) (hk : k < 8 * b.length) : (bitsB b)[k]! = bitAt b k := by
  rw [List.getElem!_eq_getElem?_getD, bitsB_get? b k hk]; rfl
theorem u8_ext {x y : UInt8} (h : ∀ t, t < 8 → x.toNat.testBit t = y.toNat.testBit t) : x = y :=
  UInt8.toNat_inj.1 (Nat.eq_of_testBit_eq fun t => by
    by_cases ht : t < 8
    · exact h t ht
    · have hp : 2 ^ 8 ≤ 2 ^ t := Nat.pow_le_pow_right (by decide) (by omega)
      rw [Nat.testBit_lt_two_pow (Nat.lt_of_lt_of_le x.toNat_lt hp), Nat.testBit_lt_two_pow (Nat.lt_of_lt_of_le y.toNat_lt hp)])
theorem get!_of_lt {α : Type} [Inhabited α] (l : List α) (i : Nat) (h : i < l.length) : l[i]! = l[i] := by
  rw [List.getElem!_eq_getElem?_getD, List.getElem?_eq_getElem h]; rfl
theorem bytes_ext {a b : List UInt8} (hl : a.length = b.length) (h : ∀ k, k < 8 * a.length → bitAt a k = bitAt b k) : a = b := by
  refine List.ext_getElem hl fun i h1 h2 => u8_ext fun t ht => ?_
  have := h (8 * i + (7 - t)) (by omega)
  unfold bitAt at this
  have e1 : (8 * i + (7 - t)) / 8 = i := by omega
  have e2 : 7 - (8 * i + (7 - t)) % 8 = t := by omega
  rw [e1, e2, get!_of_lt _ _ h1, get!_of_lt _ _ h2] at this
  exact this
/-- The text's way to a byte's bits. -/
def topB : Nat → Nat → List Bool
  | 0, _ => []
  | j + 1, n => decide (2 ^ j ≤ n) :: topB j (if 2 ^ j ≤ n then n - 2 ^ j else n)
theorem topB8_all : ∀ n, n < 256 → topB 8 n = (List.range 8).map fun t => n.testBit (7 - t) := by decide +kernel
theorem topB8 (x : UInt8) : topB 8 x.toNat = byteBits x := topB8_all x.toNat x.toNat_lt
def kk (m : Nat) : Int := if m = 0 then 0 else ((2 ^ (m - 1) : Nat) : Int)
theorem kk_succ (m : Nat) : kk (m + 1) = ((2 ^ m : Nat) : Int) := by simp [kk]
theorem kk_div (m : Nat) : kk (m + 1) / 2 = kk m := by
  rw [kk_succ]
  cases m with
  | zero => rfl
  | succ m => rw [kk_succ, Nat.pow_succ, Int.natCast_mul]; omega
theorem rb_in (i : Int) (hi : -9223372036854775808 ≤ i + 1 ∧ i + 1 ≤ 9223372036854775807) (rec : List Bool → Int → Option (List Bool)) : ∀ (m f : Nat) (l : List Bool) (n : Nat), m ≤ 8 → m < f → l.length + m ≤ 140737488355328 → n < 2 ^ m →
    shunterref03_Bits_l7 i rec f l (n : Int) (kk m) = rec (l ++ topB m n) (i + 1)
  | 0, f, l, n, _, hf, _, _ => by
    obtain ⟨f, rfl⟩ : ∃ k, f = k + 1 := ⟨f - 1, by omega⟩
    rw [shunterref03_Bits_l7, if_neg (by simp [kk]), ck_pos _ hi, topB, List.append_nil]
  | m + 1, f, l, n, hm, hf, hl, hn => by
    obtain ⟨f, rfl⟩ : ∃ k, f = k + 1 := ⟨f - 1, by omega⟩
    have hp : 0 < 2 ^ m := Nat.pow_pos (by decide)
    have hp8 : 2 ^ m ≤ 2 ^ 7 := Nat.pow_le_pow_right (by decide) (by omega)
    have hn2 : 2 ^ (m + 1) = 2 * 2 ^ m := by rw [Nat.pow_succ]; omega
    have hk : kk (m + 1) = ((2 ^ m : Nat) : Int) := kk_succ m
    have hdec : decide ((n : Int) ≥ kk (m + 1)) = decide (2 ^ m ≤ n) := by rw [hk]; exact decide_eq_decide.2 (by omega)
    rw [shunterref03_Bits_l7, if_pos (by rw [hk]; omega), ck_pos _ (by simp; omega), hdec, kk_div]
    have ih := fun n' h => rb_in i hi rec m f (l ++ [decide (2 ^ m ≤ n)]) n' (by omega) (by omega) (by simp; omega) h
    by_cases hc : 2 ^ m ≤ n
    · rw [if_pos (by rw [hk]; omega), ck_pos _ (by rw [hk]; omega), ck_pos _ (by rw [hk]; omega)]
      have e : (n : Int) - kk (m + 1) = ((n - 2 ^ m : Nat) : Int) := by rw [hk]; omega
      rw [e, ih (n - 2 ^ m) (by omega), topB, if_pos hc, List.append_assoc]; rfl
    · rw [if_neg (by rw [hk]; omega), ck_pos _ (by rw [hk]; omega), ih n (by omega), topB, if_neg hc, List.append_assoc]; rfl
theorem rb_out (N : Nat) (b : List UInt8) (hN : 8 < N) (hb : 8 * b.length ≤ 140737488355328) : ∀ (k f i : Nat), i + k = b.length → k < f →
    shunterref03_Bits_l3 N b f (bitsB (b.take i)) (i : Int) = some (bitsB b) := by
  intro k
  induction k with
  | zero =>
    intro f i hi hf
    obtain ⟨f, rfl⟩ : ∃ k, f = k + 1 := ⟨f - 1, by omega⟩
    rw [shunterref03_Bits_l3, if_neg (by omega), List.take_of_length_le (by omega)]
  | succ k ih =>
    intro f i hi hf
    obtain ⟨f, rfl⟩ : ∃ k, f = k + 1 := ⟨f - 1, by omega⟩
    rw [shunterref03_Bits_l3, if_pos (by omega), ck_pos _ (by omega), Int.toNat_natCast]
    have h128 : (128 : Int) = kk 8 := by decide
    have hlt : i < b.length := by omega
    rw [h128, rb_in (i : Int) (by omega) _ 8 N _ _ (by omega) hN (by rw [bitsB_len, List.length_take]; omega) (b[i]!).toNat_lt, topB8]
    have h2 : bitsB (b.take i) ++ byteBits (b[i]!) = bitsB (b.take (i + 1)) := by
      rw [List.take_add_one, bitsB_app, List.getElem?_eq_getElem hlt, get!_of_lt _ _ hlt]
      simp [bitsB]
    rw [h2]
    exact ih f (i + 1) (by omega) (by omega)
theorem rbits_s (N : Nat) (b : List UInt8) (hN : 8 < N) (hN2 : b.length < N) (hb : 8 * b.length ≤ 140737488355328) : shunterref03_Bits_m N b = some (bitsB b) :=
  rb_out N b hN hb b.length N 0 (by omega) hN2
def vecL (l : List Bool) : BitVec 128 := ofL l.reverse
theorem rev_get (l : List Bool) (j : Nat) (h : j < l.length) : l.reverse[j]! = l[l.length - 1 - j]! := by
  rw [List.getElem!_eq_getElem?_getD, List.getElem!_eq_getElem?_getD, List.getElem?_reverse h]
theorem get!_ge {l : List Bool} {j : Nat} (h : l.length ≤ j) : l[j]! = false := by
  rw [List.getElem!_eq_getElem?_getD, List.getElem?_eq_none h]; rfl
theorem vecL_bit (l : List Bool) (hl : l.length ≤ 128) (j : Nat) : (vecL l).getLsbD j = (decide (j < l.length) && l[l.length - 1 - j]!) := by
  unfold vecL
  rw [ofL_bit _ (by simpa using hl)]
  by_cases h : j < l.length
  · rw [decide_eq_true h, Bool.true_and, rev_get _ _ h]
  · rw [decide_eq_false h, Bool.false_and, get!_ge (by simp; omega)]
theorem drop_rev (l : List Bool) (k : Nat) (h : k < l.length) : (l.drop (k + 1)).reverse ++ [l[k]!] = (l.drop k).reverse := by
  rw [List.drop_eq_getElem_cons h, List.reverse_cons, get!_of_lt _ _ h]
theorem rv_loop (N : Nat) (l : List Bool) (hl : l.length ≤ 128) : ∀ (k f : Nat), k ≤ l.length → k < f → shunterref03_Vec_l3 N l f (l.drop k).reverse ((k : Int) - 1) = (shunterref02_Of_m N l.reverse).bind fun r => some (r.1, r.2)
  | 0, f, _, hf => by
    obtain ⟨f, rfl⟩ : ∃ k, f = k + 1 := ⟨f - 1, by omega⟩
    rw [shunterref03_Vec_l3, if_neg (by omega)]; rfl
  | k + 1, f, hk, hf => by
    obtain ⟨f, rfl⟩ : ∃ k, f = k + 1 := ⟨f - 1, by omega⟩
    have e : ((k + 1 : Nat) : Int) - 1 = (k : Int) := by omega
    rw [e, shunterref03_Vec_l3, if_pos (by omega), ck_pos _ (by omega), ck_pos _ (by simp; omega), ck_pos _ (by omega), Int.toNat_natCast, drop_rev _ _ (by omega)]
    exact rv_loop N l hl k f (by omega) (by omega)
theorem rvec_s (N : Nat) (hN : 128 < N) (l : List Bool) (hl : l.length ≤ 128) : shunterref03_Vec_m N l = some ((l.length : Int), vecL l) := by
  unfold shunterref03_Vec_m
  rw [ck_pos _ (by omega)]
  have := rv_loop N l hl l.length N (Nat.le_refl _) (by omega)
  rw [List.drop_length] at this
  rw [show ([] : List Bool) = ([] : List Bool).reverse from rfl, this, of_s N hN _ (by simpa using hl), Option.bind_some, List.length_reverse]; rfl
/-- A row's bits, the highest first. -/
def highB (w : Int) (x : BitVec 128) : List Bool := (bitsL w.toNat x).reverse
theorem highB_len (w : Int) (x : BitVec 128) : (highB w x).length = w.toNat := by simp [highB, bitsL_len]
theorem highB_get (w : Int) (x : BitVec 128) (i : Nat) (h : i < w.toNat) : (highB w x)[i]! = x.getLsbD (w.toNat - 1 - i) := by
  unfold highB
  rw [rev_get _ _ (by rw [bitsL_len]; exact h), bitsL_len, bitsL_get, decide_eq_true (by omega), Bool.true_and]
def accN (l : List Bool) (i : Nat) : Nat → Nat
  | 0 => 0
  | m + 1 => 2 * accN l i m + (if l[i + m]! = true then 1 else 0)
theorem accN_bit (l : List Bool) (i : Nat) : ∀ m j, (accN l i m).testBit j = (decide (j < m) && l[i + m - 1 - j]!)
  | 0, j => by simp [accN]
  | m + 1, 0 => by
    have h0 : decide (0 < m + 1) = true := decide_eq_true (by omega)
    rw [h0, Bool.true_and, accN, Nat.testBit_zero, show i + (m + 1) - 1 - 0 = i + m from by omega]
    cases hb : l[i + m]! <;> simp
  | m + 1, j + 1 => by
    have h0 : (2 * accN l i m + (if l[i + m]! = true then 1 else 0)) / 2 = accN l i m := by
      cases l[i + m]!
      · simp
      · simp; omega
    rw [accN, Nat.testBit_succ, h0, accN_bit l i m j]
    rw [show i + (m + 1) - 1 - (j + 1) = i + m - 1 - j from by omega]
    congr 1
    exact decide_eq_decide.2 (by omega)
theorem accN_lt (l : List Bool) (i : Nat) : ∀ m, accN l i m < 2 ^ m
  | 0 => by simp [accN]
  | m + 1 => by
    have := accN_lt l i m
    rw [accN, Nat.pow_succ]
    split <;> omega
def byteL (l : List Bool) (i : Nat) : UInt8 := UInt8.ofNat (accN l i 8)
theorem byteL_bit (l : List Bool) (i t : Nat) (ht : t < 8) : (byteL l i).toNat.testBit (7 - t) = l[i + t]! := by
  have := accN_lt l i 8
  unfold byteL
  rw [UInt8.toNat_ofNat', Nat.mod_eq_of_lt this, accN_bit, decide_eq_true (by omega), Bool.true_and]
  congr 1; omega
def bytesL (l : List Bool) : List UInt8 := (List.range ((l.length + 7) / 8)).map fun i => byteL l (8 * i)
theorem bytesL_len (l : List Bool) : (bytesL l).length = (l.length + 7) / 8 := by simp [bytesL]
theorem bytesL_bit (l : List Bool) (k : Nat) (hk : k < 8 * (bytesL l).length) : bitAt (bytesL l) k = l[k]! := by
  rw [bytesL_len] at hk
  have hi : k / 8 < (l.length + 7) / 8 := by omega
  have hg : (bytesL l)[k / 8]! = byteL l (8 * (k / 8)) := by
    rw [List.getElem!_eq_getElem?_getD]
    simp [bytesL, hi]
  unfold bitAt
  rw [hg, byteL_bit _ _ _ (by omega)]
  congr 1; omega
end Go.Proofs.Ytdgejbbelmhbdaa
