/- What the models of bits in bytes come to. Conditions: none but those written. -/
import Derived.Test.YtmiabhodfcidcaaVQ
namespace Go.Proofs.Ytmiabhodfcidcaa
open Go Go.RowKit Go.Eng

/-! ### The bits of bytes -/
def byteBits (x : UInt8) : List Bool := (List.range 8).map fun t => x.toNat.testBit (7 - t)
def bitsB (b : List UInt8) : List Bool := b.flatMap byteBits
def bitAt (b : List UInt8) (k : Nat) : Bool := (b[k / 8]!).toNat.testBit (7 - k % 8)
theorem byteBits_len (x : UInt8) : (byteBits x).length = 8 := by simp [byteBits]
theorem bitsB_len (b : List UInt8) : (bitsB b).length = 8 * b.length := by
  induction b with
  | nil => rfl
  | cons x b ih => simp only [bitsB, List.flatMap_cons, List.length_append, byteBits_len, List.length_cons] at *; omega
theorem bitsB_app (a b : List UInt8) : bitsB (a ++ b) = bitsB a ++ bitsB b := by simp [bitsB]
theorem bitsB_get? (b : List UInt8) : ∀ k, k < 8 * b.length → (bitsB b)[k]? = some (bitAt b k) := by
  induction b with
  | nil => intro k hk; simp at hk
  | cons x b ih =>
    intro k hk
    show (byteBits x ++ bitsB b)[k]? = _
    by_cases h : k < 8
    · rw [List.getElem?_append_left (by rw [byteBits_len]; exact h)]
      have h0 : k / 8 = 0 := by omega
      have h1 : k % 8 = k := by omega
      simp [byteBits, bitAt, h0, h1, h]
    · rw [List.getElem?_append_right (by rw [byteBits_len]; omega), byteBits_len, ih _ (by simp at hk; omega)]
      have h0 : k / 8 = (k - 8) / 8 + 1 := by omega
      have h1 : k % 8 = (k - 8) % 8 := by omega
      simp only [bitAt, h0, h1]
      congr 1
theorem bitsB_get (b : List UInt8) (k : Nat) (hk : k < 8 * b.length) : (bitsB b)[k]! = bitAt b k := by
  rw [List.getElem!_eq_getElem?_getD, bitsB_get? b k hk]; rfl
theorem u8_ext {x y : UInt8} (h : ∀ t, t < 8 → x.toNat.testBit t = y.toNat.testBit t) : x = y :=
  UInt8.toNat_inj.1 (Nat.eq_of_testBit_eq fun t => by
    by_cases ht : t < 8
    · exact h t ht
    · have hp : 2 ^ 8 ≤ 2 ^ t := Nat.pow_le_pow_right (by decide) (by omega)
      rw [Nat.testBit_lt_two_pow (Nat.lt_of_lt_of_le x.toNat_lt hp), Nat.testBit_lt_two_pow (Nat.lt_of_lt_of_le y.toNat_lt hp)])
theorem get!_of_lt {α : Type} [Inhabited α] (l : List α) (i : Nat) (h : i < l.length) : l[i]! = l[i] := by
  rw [List.getElem!_eq_getElem?_getD, List.getElem?_eq_getElem h]; rfl
theorem bytes_ext {a b : List UInt8} (hl : a.length = b.length) (h : ∀ k, k < 8 * a.length → bitAt a k = bitAt b k) : a = b := by
  refine List.ext_getElem hl fun i h1 h2 => u8_ext fun t ht => ?_
  have := h (8 * i + (7 - t)) (by omega)
  unfold bitAt at this
  have e1 : (8 * i + (7 - t)) / 8 = i := by omega
  have e2 : 7 - (8 * i + (7 - t)) % 8 = t := by omega
  rw [e1, e2, get!_of_lt _ _ h1, get!_of_lt _ _ h2] at this
  exact this
/-- The text's way to a byte's bits. -/
def topB : Nat → Nat → List Bool
  | 0, _ => []
  | j + 1, n => decide (2 ^ j ≤ n) :: topB j (if 2 ^ j ≤ n then n - 2 ^ j else n)
theorem topB8_all : ∀ n, n < 256 → topB 8 n = (List.range 8).map fun t => n.testBit (7 - t) := by decide +kernel
theorem topB8 (x : UInt8) : topB 8 x.toNat = byteBits x := topB8_all x.toNat x.toNat_lt
def kk (m : Nat) : Int := if m = 0 then 0 else ((2 ^ (m - 1) : Nat) : Int)
theorem kk_succ (m : Nat) : kk (m + 1) = ((2 ^ m : Nat) : Int) := by simp [kk]
theorem kk_div (m : Nat) : kk (m + 1) / 2 = kk m := by
  rw [kk_succ]
  cases m with
  | zero => rfl
  | succ m => rw [kk_succ, Nat.pow_succ, Int.natCast_mul]; omega
theorem rb_in (i : Int) (hi : -9223372036854775808 ≤ i + 1 ∧ i + 1 ≤ 9223372036854775807) (rec : List Bool → Int → Option (List Bool)) : ∀ (m f : Nat) (l : List Bool) (n : Nat), m ≤ 8 → m < f → l.length + m ≤ 140737488355328 → n < 2 ^ m →
    shunterref03_Bits_l7 i rec f l (n : Int) (kk m) = rec (l ++ topB m n) (i + 1)
  | 0, f, l, n, _, hf, _, _ => by
    obtain ⟨f, rfl⟩ : ∃ k, f = k + 1 := ⟨f - 1, by omega⟩
    rw [shunterref03_Bits_l7, if_neg (by simp [kk]), ck_pos _ hi, topB, List.append_nil]
  | m + 1, f, l, n, hm, hf, hl, hn => by
    obtain ⟨f, rfl⟩ : ∃ k, f = k + 1 := ⟨f - 1, by omega⟩
    have hp : 0 < 2 ^ m := Nat.pow_pos (by decide)
    have hp8 : 2 ^ m ≤ 2 ^ 7 := Nat.pow_le_pow_right (by decide) (by omega)
    have hn2 : 2 ^ (m + 1) = 2 * 2 ^ m := by rw [Nat.pow_succ]; omega
    have hk : kk (m + 1) = ((2 ^ m : Nat) : Int) := kk_succ m
    have hdec : decide ((n : Int) ≥ kk (m + 1)) = decide (2 ^ m ≤ n) := by rw [hk]; exact decide_eq_decide.2 (by omega)
    rw [shunterref03_Bits_l7, if_pos (by rw [hk]; omega), ck_pos _ (by simp; omega), hdec, kk_div]
    have ih := fun n' h => rb_in i hi rec m f (l ++ [decide (2 ^ m ≤ n)]) n' (by omega) (by omega) (by simp; omega) h
    by_cases hc : 2 ^ m ≤ n
    · rw [if_pos (by rw [hk]; omega), ck_pos _ (by rw [hk]; omega), ck_pos _ (by rw [hk]; omega)]
      have e : (n : Int) - kk (m + 1) = ((n - 2 ^ m : Nat) : Int) := by rw [hk]; omega
      rw [e, ih (n - 2 ^ m) (by omega), topB, if_pos hc, List.append_assoc]; rfl
    · rw [if_neg (by rw [hk]; omega), ck_pos _ (by rw [hk]; omega), ih n (by omega), topB, if_neg hc, List.append_assoc]; rfl
theorem rb_out (N : Nat) (b : List UInt8) (hN : 8 < N) (hb : 8 * b.length ≤ 140737488355328) : ∀ (k f i : Nat), i + k = b.length → k < f →
    shunterref03_Bits_l3 N b f (bitsB (b.take i)) (i : Int) = some (bitsB b) := by
  intro k
  induction k with
  | zero =>
    intro f i hi hf
    obtain ⟨f, rfl⟩ : ∃ k, f = k + 1 := ⟨f - 1, by omega⟩
    rw [shunterref03_Bits_l3, if_neg (by omega), List.take_of_length_le (by omega)]
  | succ k ih =>
    intro f i hi hf
    obtain ⟨f, rfl⟩ : ∃ k, f = k + 1 := ⟨f - 1, by omega⟩
    rw [shunterref03_Bits_l3, if_pos (by omega), ck_pos _ (by omega), Int.toNat_natCast]
    have h128 : (128 : Int) = kk 8 := by decide
    have hlt : i < b.length := by omega
    rw [h128, rb_in (i : Int) (by omega) _ 8 N _ _ (by omega) hN (by rw [bitsB_len, List.length_take]; omega) (b[i]!).toNat_lt, topB8]
    have h2 : bitsB (b.take i) ++ byteBits (b[i]!) = bitsB (b.take (i + 1)) := by
      rw [List.take_add_one, bitsB_app, List.getElem?_eq_getElem hlt, get!_of_lt _ _ hlt]
      simp [bitsB]
    rw [h2]
    exact ih f (i + 1) (by omega) (by omega)
theorem rbits_s (N : Nat) (b : List UInt8) (hN : 8 < N) (hN2 : b.length < N) (hb : 8 * b.length ≤ 140737488355328) : shunterref03_Bits_m N b = some (bitsB b) :=
  rb_out N b hN hb b.length N 0 (by omega) hN2

/-! ### Rows of bits as rows -/
def vecL (l : List Bool) : BitVec 128 := ofL l.reverse
theorem rev_get (l : List Bool) (j : Nat) (h : j < l.length) : l.reverse[j]! = l[l.length - 1 - j]! := by
  rw [List.getElem!_eq_getElem?_getD, List.getElem!_eq_getElem?_getD, List.getElem?_reverse h]
theorem get!_ge {l : List Bool} {j : Nat} (h : l.length ≤ j) : l[j]! = false := by
  rw [List.getElem!_eq_getElem?_getD, List.getElem?_eq_none h]; rfl
theorem vecL_bit (l : List Bool) (hl : l.length ≤ 128) (j : Nat) : (vecL l).getLsbD j = (decide (j < l.length) && l[l.length - 1 - j]!) := by
  unfold vecL
  rw [ofL_bit _ (by simpa using hl)]
  by_cases h : j < l.length
  · rw [decide_eq_true h, Bool.true_and, rev_get _ _ h]
  · rw [decide_eq_false h, Bool.false_and, get!_ge (by simp; omega)]
theorem drop_rev (l : List Bool) (k : Nat) (h : k < l.length) : (l.drop (k + 1)).reverse ++ [l[k]!] = (l.drop k).reverse := by
  rw [List.drop_eq_getElem_cons h, List.reverse_cons, get!_of_lt _ _ h]
theorem rv_loop (N : Nat) (l : List Bool) (hl : l.length ≤ 128) : ∀ (k f : Nat), k ≤ l.length → k < f → shunterref03_Vec_l3 N l f (l.drop k).reverse ((k : Int) - 1) = (shunterref02_Of_m N l.reverse).bind fun r => some (r.1, r.2)
  | 0, f, _, hf => by
    obtain ⟨f, rfl⟩ : ∃ k, f = k + 1 := ⟨f - 1, by omega⟩
    rw [shunterref03_Vec_l3, if_neg (by omega)]; rfl
  | k + 1, f, hk, hf => by
    obtain ⟨f, rfl⟩ : ∃ k, f = k + 1 := ⟨f - 1, by omega⟩
    have e : ((k + 1 : Nat) : Int) - 1 = (k : Int) := by omega
    rw [e, shunterref03_Vec_l3, if_pos (by omega), ck_pos _ (by omega), ck_pos _ (by simp; omega), ck_pos _ (by omega), Int.toNat_natCast, drop_rev _ _ (by omega)]
    exact rv_loop N l hl k f (by omega) (by omega)
theorem rvec_s (N : Nat) (hN : 128 < N) (l : List Bool) (hl : l.length ≤ 128) : shunterref03_Vec_m N l = some ((l.length : Int), vecL l) := by
  unfold shunterref03_Vec_m
  rw [ck_pos _ (by omega)]
  have := rv_loop N l hl l.length N (Nat.le_refl _) (by omega)
  rw [List.drop_length] at this
  rw [show ([] : List Bool) = ([] : List Bool).reverse from rfl, this, of_s N hN _ (by simpa using hl), Option.bind_some, List.length_reverse]; rfl
/-- A row's bits, the highest first. -/
def highB (w : Int) (x : BitVec 128) : List Bool := (bitsL w.toNat x).reverse
theorem highB_len (w : Int) (x : BitVec 128) : (highB w x).length = w.toNat := by simp [highB, bitsL_len]
theorem highB_get (w : Int) (x : BitVec 128) (i : Nat) (h : i < w.toNat) : (highB w x)[i]! = x.getLsbD (w.toNat - 1 - i) := by
  unfold highB
  rw [rev_get _ _ (by rw [bitsL_len]; exact h), bitsL_len, bitsL_get, decide_eq_true (by omega), Bool.true_and]
theorem ro_loop (r : List Bool) (hr : r.length ≤ 128) : ∀ (k f : Nat), k ≤ r.length → k < f → shunterref03_Of_l3 r f (r.drop k).reverse ((k : Int) - 1) = some r.reverse
  | 0, f, _, hf => by
    obtain ⟨f, rfl⟩ : ∃ k, f = k + 1 := ⟨f - 1, by omega⟩
    rw [shunterref03_Of_l3, if_neg (by omega)]; rfl
  | k + 1, f, hk, hf => by
    obtain ⟨f, rfl⟩ : ∃ k, f = k + 1 := ⟨f - 1, by omega⟩
    have e : ((k + 1 : Nat) : Int) - 1 = (k : Int) := by omega
    rw [e, shunterref03_Of_l3, if_pos (by omega), ck_pos _ (by omega), ck_pos _ (by simp; omega), ck_pos _ (by omega), Int.toNat_natCast, drop_rev _ _ (by omega)]
    exact ro_loop r hr k f (by omega) (by omega)
theorem rof_s (N : Nat) (hN : 128 < N) (w : Int) (x : BitVec 128) (h0 : 0 ≤ w) (h1 : w ≤ 128) : shunterref03_Of_m N w x = some (highB w x) := by
  unfold shunterref03_Of_m
  rw [bits_s N w x hN h0 h1, Option.bind_some, ck_pos _ (by rw [bitsL_len]; omega)]
  have := ro_loop (bitsL w.toNat x) (by rw [bitsL_len]; omega) (bitsL w.toNat x).length N (Nat.le_refl _) (by rw [bitsL_len]; omega)
  rw [List.drop_length] at this
  exact this
theorem vec_high {w : Int} {x : BitVec 128} (h : mayB w x = true) : vecL (highB w x) = x := by
  obtain ⟨h1, h2, _⟩ := may_w h
  have hl := highB_len w x
  apply BitVec.eq_of_getLsbD_eq
  intro j hj
  rw [vecL_bit _ (by omega), hl]
  by_cases hw : j < w.toNat
  · rw [decide_eq_true hw, Bool.true_and, highB_get _ _ _ (by omega)]
    congr 1; omega
  · rw [decide_eq_false hw, Bool.false_and, may_bit h j (by omega)]

/-! ### Bytes of bits -/
def accN (l : List Bool) (i : Nat) : Nat → Nat
  | 0 => 0
  | m + 1 => 2 * accN l i m + (if l[i + m]! = true then 1 else 0)
theorem accN_bit (l : List Bool) (i : Nat) : ∀ m j, (accN l i m).testBit j = (decide (j < m) && l[i + m - 1 - j]!)
  | 0, j => by simp [accN]
  | m + 1, 0 => by
    have h0 : decide (0 < m + 1) = true := decide_eq_true (by omega)
    rw [h0, Bool.true_and, accN, Nat.testBit_zero, show i + (m + 1) - 1 - 0 = i + m from by omega]
    cases hb : l[i + m]! <;> simp
  | m + 1, j + 1 => by
    have h0 : (2 * accN l i m + (if l[i + m]! = true then 1 else 0)) / 2 = accN l i m := by
      cases l[i + m]!
      · simp
      · simp; omega
    rw [accN, Nat.testBit_succ, h0, accN_bit l i m j]
    rw [show i + (m + 1) - 1 - (j + 1) = i + m - 1 - j from by omega]
    congr 1
    exact decide_eq_decide.2 (by omega)
theorem accN_lt (l : List Bool) (i : Nat) : ∀ m, accN l i m < 2 ^ m
  | 0 => by simp [accN]
  | m + 1 => by
    have := accN_lt l i m
    rw [accN, Nat.pow_succ]
    split <;> omega
def byteL (l : List Bool) (i : Nat) : UInt8 := UInt8.ofNat (accN l i 8)
theorem byteI_acc (l : List Bool) (i : Nat) : byteI ((accN l i 8 : Nat) : Int) = byteL l i := by
  have := accN_lt l i 8
  unfold byteI byteL
  congr 1; omega
theorem byteL_bit (l : List Bool) (i t : Nat) (ht : t < 8) : (byteL l i).toNat.testBit (7 - t) = l[i + t]! := by
  have := accN_lt l i 8
  unfold byteL
  rw [UInt8.toNat_ofNat', Nat.mod_eq_of_lt this, accN_bit, decide_eq_true (by omega), Bool.true_and]
  congr 1; omega
def bytesL (l : List Bool) : List UInt8 := (List.range ((l.length + 7) / 8)).map fun i => byteL l (8 * i)
theorem bytesL_len (l : List Bool) : (bytesL l).length = (l.length + 7) / 8 := by simp [bytesL]
theorem bytesL_bit (l : List Bool) (k : Nat) (hk : k < 8 * (bytesL l).length) : bitAt (bytesL l) k = l[k]! := by
  rw [bytesL_len] at hk
  have hi : k / 8 < (l.length + 7) / 8 := by omega
  have hg : (bytesL l)[k / 8]! = byteL l (8 * (k / 8)) := by
    rw [List.getElem!_eq_getElem?_getD]
    simp [bytesL, hi]
  unfold bitAt
  rw [hg, byteL_bit _ _ _ (by omega)]
  congr 1; omega
theorem ry_in (l : List Bool) (b : List UInt8) (i : Nat) (rec : List UInt8 → Int → Option (List UInt8)) (hi : i < 140737488355328) (hb : b.length < 140737488355328) : ∀ (m f t : Nat), t + m = 8 → m < f →
    shunterref03_Bytes_l6 l b (i : Int) rec f ((accN l i t : Nat) : Int) ((i : Int) + (t : Int)) = rec (b ++ [byteL l i]) ((i : Int) + 8) := by
  intro m
  induction m with
  | zero =>
    intro f t ht hf
    obtain ⟨f, rfl⟩ : ∃ k, f = k + 1 := ⟨f - 1, by omega⟩
    obtain rfl : t = 8 := by omega
    rw [shunterref03_Bytes_l6, ck_pos _ (by omega), if_neg (by omega), ck_pos _ (by simp; omega), ck_pos _ (by omega), byteI_acc]
  | succ m ih =>
    intro f t ht hf
    obtain ⟨f, rfl⟩ : ∃ k, f = k + 1 := ⟨f - 1, by omega⟩
    have hlt := accN_lt l i t
    have h8 : 2 ^ t ≤ 2 ^ 8 := Nat.pow_le_pow_right (by decide) (by omega)
    have hn : (((i : Int) + (t : Int)).toNat) = i + t := by omega
    rw [shunterref03_Bytes_l6, ck_pos _ (by omega), if_pos (by omega), ck_pos _ (by omega)]
    have ih' := ih f (t + 1) (by omega) (by omega)
    have e : (i : Int) + ((t + 1 : Nat) : Int) = (i : Int) + (t : Int) + 1 := by omega
    rw [e] at ih'
    by_cases h1 : i + t < l.length
    · rw [if_pos (by omega), ck_pos _ (by omega), hn]
      by_cases h2 : l[i + t]! = true
      · rw [if_pos h2, ck_pos _ (by omega), ck_pos _ (by omega)]
        rw [show (accN l i (t + 1) : Nat) = 2 * accN l i t + 1 from by rw [accN, if_pos h2]] at ih'
        rw [← ih']; congr 1
      · rw [if_neg h2, ck_pos _ (by omega)]
        rw [show (accN l i (t + 1) : Nat) = 2 * accN l i t from by rw [accN, if_neg h2]; rfl] at ih'
        rw [← ih']; congr 1
    · rw [if_neg (by omega), ck_pos _ (by omega)]
      rw [show (accN l i (t + 1) : Nat) = 2 * accN l i t from by rw [accN, if_neg (by rw [get!_ge (by omega)]; decide)]; rfl] at ih'
      rw [← ih']; congr 1
theorem ry_out (N : Nat) (l : List Bool) (hN : 8 < N) (hl : l.length ≤ 140737488355000) : ∀ (k f i : Nat), i + k = (l.length + 7) / 8 → k < f →
    shunterref03_Bytes_l3 N l f ((List.range i).map fun i => byteL l (8 * i)) ((8 * i : Nat) : Int) = some (bytesL l) := by
  intro k
  induction k with
  | zero =>
    intro f i hi hf
    obtain ⟨f, rfl⟩ : ∃ k, f = k + 1 := ⟨f - 1, by omega⟩
    rw [shunterref03_Bytes_l3, if_neg (by omega), bytesL, show i = (l.length + 7) / 8 from by omega]
  | succ k ih =>
    intro f i hi hf
    obtain ⟨f, rfl⟩ : ∃ k, f = k + 1 := ⟨f - 1, by omega⟩
    rw [shunterref03_Bytes_l3, if_pos (by omega)]
    have := ry_in l ((List.range i).map fun i => byteL l (8 * i)) (8 * i) (shunterref03_Bytes_l3 N l f) (by omega) (by simp; omega) 8 N 0 (by omega) hN
    simp only [accN, Int.natCast_zero, Int.add_zero] at this
    rw [this]
    have h2 := ih f (i + 1) (by omega) (by omega)
    rw [← h2, List.range_succ, List.map_append]
    rfl
theorem rbytes_s (N : Nat) (l : List Bool) (hN : 8 < N) (hN2 : (l.length + 7) / 8 < N) (hl : l.length ≤ 140737488355000) : shunterref03_Bytes_m N l = some (bytesL l) :=
  ry_out N l hN hl ((l.length + 7) / 8) N 0 (by omega) hN2

/-! ### Parts of bytes -/
def maskY (c w : Nat) : UInt8 := sl8 (sr8 255 (8 - c)) w
theorem maskY_bit : ∀ c, c < 9 → ∀ w, w < 9 → ∀ t, t < 8 → 1 ≤ c → w + c ≤ 8 → (maskY c w).toNat.testBit t = decide (w ≤ t ∧ t < w + c) := by decide +kernel
theorem mask_s (N : Nat) (p0 p3 : Int) (c w : Nat) (hc : c ≤ 8) : bits_part_mask_m N p0 (c : Int) (w : Int) p3 = some (maskY c w) := by
  unfold bits_part_mask_m
  rw [ck_pos _ (by omega), ck_pos _ (by omega), ck_pos _ (by omega)]
  congr 1
  unfold maskY
  rw [Int.toNat_natCast, show ((8 : Int) - (c : Int)).toNat = 8 - c from by omega]
theorem shift_bit (x : BitVec 128) (n j : Nat) (hj : j < 128) : (shiftI x (n : Int)).getLsbD j = (decide (n ≤ j) && x.getLsbD (j - n)) := by
  rw [← shiftI_pos (by omega), Int.toNat_natCast, BitVec.getLsbD_shiftLeft, decide_eq_true hj, Bool.true_and]
  by_cases h : j < n
  · rw [decide_eq_true h, decide_eq_false (by omega)]; rfl
  · rw [decide_eq_false h, decide_eq_true (by omega)]; rfl
theorem shiftd_bit (x : BitVec 128) (n j : Nat) : (shiftI x (-(n : Int))).getLsbD j = x.getLsbD (n + j) := by
  rw [← shiftI_down (by omega), Int.toNat_natCast, BitVec.getLsbD_ushiftRight]
theorem sr8_bit (x : UInt8) (n t : Nat) (hn : n ≤ 8) (_ : t < 8) : (sr8 x n).toNat.testBit t = x.toNat.testBit (n + t) := by
  unfold sr8
  have : x.toNat / 2 ^ min n 8 < 256 := Nat.lt_of_le_of_lt (Nat.div_le_self _ _) x.toNat_lt
  rw [UInt8.toNat_ofNat', Nat.mod_eq_of_lt this, Nat.min_eq_left hn, Nat.testBit_div_two_pow, Nat.add_comm]
theorem sl8_bit (x : UInt8) (n t : Nat) (hn : n ≤ 8) (ht : t < 8) : (sl8 x n).toNat.testBit t = (decide (n ≤ t) && x.toNat.testBit (t - n)) := by
  unfold sl8
  rw [UInt8.toNat_ofNat', Nat.min_eq_left hn, Nat.testBit_mod_two_pow, decide_eq_true ht, Bool.true_and, Nat.mul_comm, Nat.testBit_two_pow_mul]
/-- One part of a row that is read. -/
theorem get1_s (N : Nat) (p0 c w rest : Nat) (b : List UInt8) (m : BitVec 128) (hc : 1 ≤ c) (hcw : w + c ≤ 8) (h0 : p0 < b.length) (hr : rest + c ≤ 128) :
    ∃ X, bits_Get_1_v1_m N (p0 : Int) (c : Int) (w : Int) (rest : Int) b m = some X ∧ ∀ j, j < 128 → X.getLsbD j = (m.getLsbD j || (decide (rest ≤ j ∧ j < rest + c) && (b[p0]!).toNat.testBit (w + (j - rest)))) := by
  unfold bits_Get_1_v1_m
  rw [ck_pos _ (by omega), mask_s _ _ _ _ _ (by omega), Option.bind_some, ck_pos _ (by omega), ck_pos _ (by omega)]
  refine ⟨_, rfl, ?_⟩
  · intro j hj
    rw [Int.toNat_natCast, Int.toNat_natCast, BitVec.getLsbD_or, shift_bit _ _ _ hj]
    congr 1
    by_cases h1 : rest ≤ j
    · rw [decide_eq_true h1, Bool.true_and, BitVec.getLsbD_append]
      by_cases h2 : j < rest + c
      · rw [decide_eq_true (show rest ≤ j ∧ j < rest + c from ⟨h1, h2⟩), Bool.true_and, if_pos (show j - rest < 64 by omega), BitVec.getLsbD_ofNat, decide_eq_true (show j - rest < 64 by omega), Bool.true_and,
          sr8_bit _ _ _ (by omega) (by omega), UInt8.toNat_and, Nat.testBit_and, maskY_bit c (by omega) w (by omega) _ (by omega) hc hcw, decide_eq_true (by omega), Bool.and_true]
      · rw [decide_eq_false (show ¬ (rest ≤ j ∧ j < rest + c) from fun h => h2 h.2), Bool.false_and]
        by_cases h3 : j - rest < 64
        · rw [if_pos h3, BitVec.getLsbD_ofNat, decide_eq_true h3, Bool.true_and]
          by_cases h4 : j - rest < 8
          · rw [sr8_bit _ _ _ (by omega) h4, UInt8.toNat_and, Nat.testBit_and]
            by_cases h5 : w + (j - rest) < 8
            · rw [maskY_bit c (by omega) w (by omega) _ h5 hc hcw, decide_eq_false (by omega), Bool.and_false]
            · have hp : 2 ^ 8 ≤ 2 ^ (w + (j - rest)) := Nat.pow_le_pow_right (by decide) (by omega)
              rw [Nat.testBit_lt_two_pow (Nat.lt_of_lt_of_le (b[p0]!).toNat_lt hp), Bool.false_and]
          · have hp : 2 ^ 8 ≤ 2 ^ (j - rest) := Nat.pow_le_pow_right (by decide) (by omega)
            exact Nat.testBit_lt_two_pow (Nat.lt_of_lt_of_le (UInt8.toNat_lt _) hp)
        · rw [if_neg h3]; simp
    · rw [decide_eq_false h1, Bool.false_and, decide_eq_false (fun h => h1 h.1), Bool.false_and]
theorem get_loop (N : Nat) (b : List UInt8) (hb : b.length ≤ 140737488355328) : ∀ (f w a : Nat) (m : BitVec 128), w < f → w ≤ 128 → a + w ≤ 8 * b.length →
    ∃ X, bits_eachPart_v1_l4 N b f (a : Int) (w : Int) m = some X ∧ ∀ j, j < 128 → X.getLsbD j = (m.getLsbD j || (decide (j < w) && bitAt b (a + w - 1 - j))) := by
  intro f
  induction f with
  | zero => intro w a m h; omega
  | succ f ih =>
    intro w a m hf hw ha
    rw [bits_eachPart_v1_l4]
    by_cases h0 : w = 0
    · subst h0
      rw [if_neg (by omega)]
      exact ⟨m, rfl, fun j _ => by simp⟩
    · obtain ⟨c, hc⟩ : ∃ c : Nat, c = min (8 - a % 8) w := ⟨_, rfl⟩
      have e1 : (8 : Int) - (a : Int) % 8 = ((8 - a % 8 : Nat) : Int) := by omega
      have e2 : min ((8 : Int) - (a : Int) % 8) (w : Int) = (c : Int) := by rw [e1]; omega
      have e3 : (w : Int) - (c : Int) = ((w - c : Nat) : Int) := by omega
      have e4 : ((8 - a % 8 : Nat) : Int) - (c : Int) = ((8 - a % 8 - c : Nat) : Int) := by omega
      have e5 : (a : Int) / 8 = ((a / 8 : Nat) : Int) := by omega
      have e6 : (a : Int) + (c : Int) = ((a + c : Nat) : Int) := by omega
      rw [if_pos (by omega), ck_pos _ (by omega), ck_pos _ (by omega), e2, ck_pos _ (by omega), ck_pos _ (by omega), e1, ck_pos _ (by omega), e3, e4, e5, e6]
      obtain ⟨Y, hY, hYb⟩ := get1_s N (a / 8) c (8 - a % 8 - c) (w - c) b m (by omega) (by omega) (by omega) (by omega)
      rw [hY, Option.bind_some, ck_pos _ (by omega)]
      obtain ⟨X, hX, hXb⟩ := ih (w - c) (a + c) Y (by omega) (by omega) (by omega)
      refine ⟨X, hX, fun j hj => ?_⟩
      rw [hXb j hj, hYb j hj, Bool.or_assoc]
      congr 1
      by_cases h1 : j < w - c
      · rw [decide_eq_false (show ¬ (w - c ≤ j ∧ j < w - c + c) by omega), Bool.false_and, Bool.false_or, decide_eq_true h1, decide_eq_true (show j < w by omega), show a + c + (w - c) - 1 - j = a + w - 1 - j from by omega]
      · rw [decide_eq_false h1, Bool.false_and, Bool.or_false]
        by_cases h2 : j < w
        · rw [decide_eq_true (show w - c ≤ j ∧ j < w - c + c by omega), decide_eq_true h2, Bool.true_and, Bool.true_and]
          unfold bitAt
          have q1 : (a + w - 1 - j) / 8 = a / 8 := by omega
          have q2 : 7 - (a + w - 1 - j) % 8 = 8 - a % 8 - c + (j - (w - c)) := by omega
          rw [q1, q2]
        · rw [decide_eq_false (show ¬ (w - c ≤ j ∧ j < w - c + c) by omega), decide_eq_false h2]; rfl
theorem has_s (N : Nat) (b : List UInt8) (a w : Int) (hb : b.length ≤ 140737488355328) (hw : 1 ≤ w ∧ w ≤ 128) : bits_has_m N b a w = some (decide (0 ≤ a ∧ a ≤ 8 * (b.length : Int) - w)) := by
  unfold bits_has_m
  by_cases h : a ≥ 0
  · rw [if_pos h, ck_pos _ (by omega), ck_pos _ (by omega)]
    congr 1; exact decide_eq_decide.2 ⟨fun h2 => ⟨h, h2⟩, fun h2 => h2.2⟩
  · rw [if_neg h]; congr 1; exact (decide_eq_false (fun h2 => h h2.1)).symm
theorem width3_s (N : Nat) (w : Int) : bits_mayWidth_m N w = some (decide (1 ≤ w ∧ w ≤ 128)) := by
  unfold bits_mayWidth_m
  by_cases h1 : w ≥ 1
  · rw [if_pos h1]; congr 1; exact decide_eq_decide.2 ⟨fun h => ⟨h1, h⟩, fun h => h.2⟩
  · rw [if_neg h1]; congr 1; exact (decide_eq_false (fun h => h1 h.1)).symm
/-- The w bits from a on. -/
def cutB (b : List UInt8) (a w : Nat) : BitVec 128 := vecL (((bitsB b).take (a + w)).drop a)
theorem cut_len (b : List UInt8) (a w : Nat) (h : a + w ≤ 8 * b.length) : (((bitsB b).take (a + w)).drop a).length = w := by
  rw [List.length_drop, List.length_take, bitsB_len]; omega
theorem cut_get (b : List UInt8) (a w i : Nat) (h : a + w ≤ 8 * b.length) (hi : i < w) : (((bitsB b).take (a + w)).drop a)[i]! = bitAt b (a + i) := by
  rw [List.getElem!_eq_getElem?_getD, List.getElem?_drop, List.getElem?_take, if_pos (by omega), bitsB_get? _ _ (by omega)]; rfl
theorem cut_bit (b : List UInt8) (a w j : Nat) (h : a + w ≤ 8 * b.length) (hw : w ≤ 128) : (cutB b a w).getLsbD j = (decide (j < w) && bitAt b (a + w - 1 - j)) := by
  unfold cutB
  rw [vecL_bit _ (by rw [cut_len _ _ _ h]; exact hw), cut_len _ _ _ h]
  by_cases hj : j < w
  · rw [decide_eq_true hj, Bool.true_and, cut_get _ _ _ _ h (by omega)]
    congr 1; congr 1; omega
  · rw [decide_eq_false hj]; rfl
theorem get_s (N : Nat) (hN : 128 < N) (b : List UInt8) (a w : Int) (hb : b.length ≤ 140737488355328) :
    bits_Get_m N b a w = some (if 1 ≤ w ∧ w ≤ 128 then (if 0 ≤ a ∧ a ≤ 8 * (b.length : Int) - w then (w, cutB b a.toNat w.toNat, 0) else (0, 0#128, 7)) else (0, 0#128, 9)) := by
  unfold bits_Get_m
  rw [width3_s, Option.bind_some]
  by_cases h : 1 ≤ w ∧ w ≤ 128
  · rw [decide_eq_true h, if_pos rfl, if_pos h, has_s _ _ _ _ hb h, Option.bind_some]
    by_cases h2 : 0 ≤ a ∧ a ≤ 8 * (b.length : Int) - w
    · rw [decide_eq_true h2, if_pos rfl, if_pos h2]
      obtain ⟨X, hX, hXb⟩ := get_loop N b hb N w.toNat a.toNat ((0#64) ++ (0#64)) (by omega) (by omega) (by omega)
      rw [Int.toNat_of_nonneg (by omega), Int.toNat_of_nonneg (by omega)] at hX
      unfold bits_eachPart_v1_m
      rw [hX, Option.bind_some, cut_s, Option.bind_some, if_pos h]
      congr 2
      apply congrArg (fun z => (z, (0 : Int)))
      apply BitVec.eq_of_getLsbD_eq
      intro j hj
      rw [low_bit _ _ _ hj, hXb j hj, cut_bit _ _ _ _ (by omega) (by omega)]
      have hz : ((0#64) ++ (0#64) : BitVec 128).getLsbD j = false := by rw [show ((0#64) ++ (0#64) : BitVec 128) = 0#128 from by decide]; simp
      rw [hz, Bool.false_or]
      by_cases hjw : j < w.toNat
      · rw [decide_eq_true hjw, decide_eq_true (show (j : Int) < w by omega), Bool.and_true]
      · rw [decide_eq_false hjw, Bool.false_and, Bool.false_and]
    · rw [decide_eq_false h2, if_neg (by decide), if_neg h2]; rfl
  · rw [decide_eq_false h, if_neg (by decide), if_neg h]; rfl
theorem rget_s (N : Nat) (hN : 128 < N) (b : List UInt8) (a w : Int) (hN2 : b.length < N) (hb : 8 * b.length ≤ 140737488355328) :
    shunterref03_Get_m N b a w = some (if 1 ≤ w ∧ w ≤ 128 then (if 0 ≤ a ∧ a ≤ 8 * (b.length : Int) - w then (w, cutB b a.toNat w.toNat, 0) else (0, 0#128, 7)) else (0, 0#128, 9)) := by
  unfold shunterref03_Get_m
  by_cases h1 : w < 1
  · rw [if_pos h1, if_neg (by omega)]; rfl
  · rw [if_neg h1]
    by_cases h2 : w > 128
    · rw [if_pos h2, if_neg (by omega)]; rfl
    · rw [if_neg h2, if_pos (by omega)]
      unfold shunterref03_Get_k1
      rw [rbits_s N b (by omega) hN2 hb, Option.bind_some, bitsB_len]
      by_cases h3 : a < 0
      · rw [if_pos h3, if_neg (by omega)]; rfl
      · rw [if_neg h3]
        by_cases h4 : a > ((8 * b.length : Nat) : Int)
        · rw [if_pos h4, if_neg (by omega)]; rfl
        · rw [if_neg h4, ck_pos _ (by omega)]
          by_cases h5 : w > ((8 * b.length : Nat) : Int) - a
          · rw [if_pos h5, if_neg (by omega)]; rfl
          · rw [if_neg h5, if_pos (by omega)]
            unfold shunterref03_Get_k2
            rw [ck_pos _ (by omega), ck_pos _ (by rw [bitsB_len]; omega), show (a + w).toNat = a.toNat + w.toNat from by omega, rvec_s N hN _ (by rw [cut_len _ _ _ (by omega)]; omega), Option.bind_some, cut_len _ _ _ (by omega), Int.toNat_of_nonneg (by omega)]
            rfl
theorem lives3_s (N : Nat) (hN : 128 < N) : shunterlaw03_lives_m N = some true := by
  unfold shunterlaw03_lives_m
  rw [get_s N hN _ _ _ (by simp), Option.bind_some]
  decide +kernel
end Go.Proofs.Ytmiabhodfcidcaa
