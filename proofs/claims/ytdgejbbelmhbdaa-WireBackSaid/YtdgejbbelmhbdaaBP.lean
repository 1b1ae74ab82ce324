/- What the models of bits in bytes come to. Conditions: none but those written. -/
import Derived.Test.YtdgejbbelmhbdaaVQ
namespace Go.Proofs.Ytdgejbbelmhbdaa
open Go Go.RowKit Go.Eng
def byteBits (x : UInt8) : List Bool := (List.range 8).map fun t => x.toNat.testBit (7 - t)
def bitsB (b : List UInt8) : List Bool := b.flatMap byteBits
def bitAt (b : List UInt8) (k : Nat) : Bool := (b[k / 8]!).toNat.testBit (7 - k % 8)
theorem byteBits_len (x : UInt8) : (byteBits x).length = 8 := by simp [byteBits]
theorem bitsB_len (b : List UInt8) : (bitsB b).length = 8 * b.length := by
  induction b with
  | nil => rfl
  | cons x b ih => simp only [bitsB, List.flatMap_cons, List.length_append, byteBits_len, List.length_cons] at *; omega
theorem bitsB_get? (b : List UInt8) : ∀ k, k < 8 * b.length → (bitsB b)[k]? = some (bitAt b k) := by
  induction b with
  | nil => intro k hk; simp at hk
  | cons x b ih =>
    intro k hk
    show (byteBits x ++ bitsB b)[k]? = _
    by_cases h : k < 8
    · rw [List.getElem?_append_left (by rw [byteBits_len]; exact h)]
      have h0 : k / 8 = 0 := by omega
      have h1 : k % 8 = k := by omega
      simp [byteBits, bitAt, h0, h1, h]
    · rw [List.getElem?_append_right (by rw [byteBits_len]; omega), byteBits_len, ih _ (by simp at hk; omega)]
      have h0 : k / 8 = (k - 8) / 8 + 1 := by omega
      have h1 : k % 8 = (k - 8) % 8 := by omega
      simp only [bitAt, h0, h1]
      congr 1
theorem bitsB_get (b : List UInt8) (k : Nat) (hk : k < 8 * b.length) : (bitsB b)[k]! = bitAt b k := by
  rw [List.getElem!_eq_getElem?_getD, bitsB_get? b k hk]; rfl
theorem u8_ext {x y : UInt8} (h : ∀ t, t < 8 → x.toNat.testBit t = y.toNat.testBit t) : x = y :=
  UInt8.toNat_inj.1 (Nat.eq_of_testBit_eq fun t => by
    by_cases ht : t < 8
    · exact h t ht
    · have hp : 2 ^ 8 ≤ 2 ^ t := Nat.pow_le_pow_right (by decide) (by omega)
      rw [Nat.testBit_lt_two_pow (Nat.lt_of_lt_of_le x.toNat_lt hp), Nat.testBit_lt_two_pow (Nat.lt_of_lt_of_le y.toNat_lt hp)])
theorem get!_of_lt {α : Type} [Inhabited α] (l : List α) (i : Nat) (h : i < l.length) : l[i]! = l[i] := by
  rw [List.getElem!_eq_getElem?_getD, List.getElem?_eq_getElem h]; rfl
theorem bytes_ext {a b : List UInt8} (hl : a.length = b.length) (h : ∀ k, k < 8 * a.length → bitAt a k = bitAt b k) : a = b := by
  refine List.ext_getElem hl fun i h1 h2 => u8_ext fun t ht => ?_
  have := h (8 * i + (7 - t)) (by omega)
  unfold bitAt at this
  have e1 : (8 * i + (7 - t)) / 8 = i := by omega
  have e2 : 7 - (8 * i + (7 - t)) % 8 = t := by omega
  rw [e1, e2, get!_of_lt _ _ h1, get!_of_lt _ _ h2] at this
  exact this
def kk (m : Nat) : Int := if m = 0 then 0 else ((2 ^ (m - 1) : Nat) : Int)
def vecL (l : List Bool) : BitVec 128 := ofL l.reverse
theorem rev_get (l : List Bool) (j : Nat) (h : j < l.length) : l.reverse[j]! = l[l.length - 1 - j]! := by
  rw [List.getElem!_eq_getElem?_getD, List.getElem!_eq_getElem?_getD, List.getElem?_reverse h]
theorem get!_ge {l : List Bool} {j : Nat} (h : l.length ≤ j) : l[j]! = false := by
  rw [List.getElem!_eq_getElem?_getD, List.getElem?_eq_none h]; rfl
theorem vecL_bit (l : List Bool) (hl : l.length ≤ 128) (j : Nat) : (vecL l).getLsbD j = (decide (j < l.length) && l[l.length - 1 - j]!) := by
  unfold vecL
  rw [ofL_bit _ (by simpa using hl)]
  by_cases h : j < l.length
  · rw [decide_eq_true h, Bool.true_and, rev_get _ _ h]
  · rw [decide_eq_false h, Bool.false_and, get!_ge (by simp; omega)]
theorem drop_rev (l : List Bool) (k : Nat) (h : k < l.length) : (l.drop (k + 1)).reverse ++ [l[k]!] = (l.drop k).reverse := by
  rw [List.drop_eq_getElem_cons h, List.reverse_cons, get!_of_lt _ _ h]
/-- A row's bits, the highest first. -/
def highB (w : Int) (x : BitVec 128) : List Bool := (bitsL w.toNat x).reverse
theorem highB_len (w : Int) (x : BitVec 128) : (highB w x).length = w.toNat := by simp [highB, bitsL_len]
theorem highB_get (w : Int) (x : BitVec 128) (i : Nat) (h : i < w.toNat) : (highB w x)[i]! = x.getLsbD (w.toNat - 1 - i) := by
  unfold highB
  rw [rev_get _ _ (by rw [bitsL_len]; exact h), bitsL_len, bitsL_get, decide_eq_true (by omega), Bool.true_and]
theorem ro_loop (r : List Bool) (hr : r.length ≤ 128) : ∀ (k f : Nat), k ≤ r.length → k < f → shunterref03_Of_l3 r f (r.drop k).reverse ((k : Int) - 1) = some r.reverse
  | 0, f, _, hf => by
    obtain ⟨f, rfl⟩ : ∃ k, f = k + 1 := ⟨f - 1, by omega⟩
    rw [shunterref03_Of_l3, if_neg (by omega)]; rfl
  | k + 1, f, hk, hf => by
    obtain ⟨f, rfl⟩ : ∃ k, f = k + 1 := ⟨f - 1, by omega⟩
    have e : ((k + 1 : Nat) : Int) - 1 = (k : Int) := by omega
    rw [e, shunterref03_Of_l3, if_pos (by omega), ck_pos _ (by omega), ck_pos _ (by simp; omega), ck_pos _ (by omega), Int.toNat_natCast, drop_rev _ _ (by omega)]
    exact ro_loop r hr k f (by omega) (by omega)
theorem rof_s (N : Nat) (hN : 128 < N) (w : Int) (x : BitVec 128) (h0 : 0 ≤ w) (h1 : w ≤ 128) : shunterref03_Of_m N w x = some (highB w x) := by
  unfold shunterref03_Of_m
  rw [bits_s N w x hN h0 h1, Option.bind_some, ck_pos _ (by rw [bitsL_len]; omega)]
  have := ro_loop (bitsL w.toNat x) (by rw [bitsL_len]; omega) (bitsL w.toNat x).length N (Nat.le_refl _) (by rw [bitsL_len]; omega)
  rw [List.drop_length] at this
  exact this
theorem vec_high {w : Int} {x : BitVec 128} (h : mayB w x = true) : vecL (highB w x) = x := by
  obtain ⟨h1, h2, _⟩ := may_w h
  have hl := highB_len w x
  apply BitVec.eq_of_getLsbD_eq
  intro j hj
  rw [vecL_bit _ (by omega), hl]
  by_cases hw : j < w.toNat
  · rw [decide_eq_true hw, Bool.true_and, highB_get _ _ _ (by omega)]
    congr 1; omega
  · rw [decide_eq_false hw, Bool.false_and, may_bit h j (by omega)]
def accN (l : List Bool) (i : Nat) : Nat → Nat
  | 0 => 0
  | m + 1 => 2 * accN l i m + (if l[i + m]! = true then 1 else 0)
theorem accN_bit (l : List Bool) (i : Nat) : ∀ m j, (accN l i m).testBit j = (decide (j < m) && l[i + m - 1 - j]!)
  | 0, j => by simp [accN]
  | m + 1, 0 => by
    have h0 : decide (0 < m + 1) = true := decide_eq_true (by omega)
    rw [h0, Bool.true_and, accN, Nat.testBit_zero, show i + (m + 1) - 1 - 0 = i + m from by omega]
    cases hb : l[i + m]! <;> simp
  | m + 1, j + 1 => by
    have h0 : (2 * accN l i m + (if l[i + m]! = true then 1 else 0)) / 2 = accN l i m := by
      cases l[i + m]!
      · simp
      · simp; omega
    rw [accN, Nat.testBit_succ, h0, accN_bit l i m j]
    rw [show i + (m + 1) - 1 - (j + 1) = i + m - 1 - j from by omega]
    congr 1
    exact decide_eq_decide.2 (by omega)
theorem accN_lt (l : List Bool) (i : Nat) : ∀ m, accN l i m < 2 ^ m
  | 0 => by simp [accN]
  | m + 1 => by
    have := accN_lt l i m
    rw [accN, Nat.pow_succ]
    split <;> omega
def byteL (l : List Bool) (i : Nat) : UInt8 := UInt8.ofNat (accN l i 8)
theorem byteI_acc (l : List Bool) (i : Nat) : byteI ((accN l i 8 : Nat) : Int) = byteL l i := by
  have := accN_lt l i 8
  unfold byteI byteL
  congr 1; omega
theorem byteL_bit (l : List Bool) (i t : Nat) (ht : t < 8) : (byteL l i).toNat.testBit (7 - t) = l[i + t]! := by
  have := accN_lt l i 8
  unfold byteL
  rw [UInt8.toNat_ofNat', Nat.mod_eq_of_lt this, accN_bit, decide_eq_true (by omega), Bool.true_and]
  congr 1; omega
def bytesL (l : List Bool) : List UInt8 := (List.range ((l.length + 7) / 8)).map fun i => byteL l (8 * i)
theorem bytesL_len (l : List Bool) : (bytesL l).length = (l.length + 7) / 8 := by simp [bytesL]
theorem bytesL_bit (l : List Bool) (k : Nat) (hk : k < 8 * (bytesL l).length) : bitAt (bytesL l) k = l[k]! := by
  rw [bytesL_len] at hk
  have hi : k / 8 < (l.length + 7) / 8 := by omega
  have hg : (bytesL l)[k / 8]! = byteL l (8 * (k / 8)) := by
    rw [List.getElem!_eq_getElem?_getD]
    simp [bytesL, hi]
  unfold bitAt
  rw [hg, byteL_bit _ _ _ (by omega)]
  congr 1; omega
theorem ry_in (l : List Bool) (b : List UInt8) (i : Nat) (rec : List UInt8 → Int → Option (List UInt8)) (hi : i < 140737488355328) (hb : b.length < 140737488355328) : ∀ (m f t : Nat), t + m = 8 → m < f →
    shunterref03_Bytes_l6 l b (i : Int) rec f ((accN l i t : Nat) : Int) ((i : Int) + (t : Int)) = rec (b ++ [byteL l i]) ((i : Int) + 8) := by
  intro m
  induction m with
  | zero =>
    intro f t ht hf
    obtain ⟨f, rfl⟩ : ∃ k, f = k + 1 := ⟨f - 1, by omega⟩
    obtain rfl : t = 8 := by omega
    rw [shunterref03_Bytes_l6, ck_pos _ (by omega), if_neg (by omega), ck_pos _ (by simp; omega), ck_pos _ (by omega), byteI_acc]
  | succ m ih =>
    intro f t ht hf
    obtain ⟨f, rfl⟩ : ∃ k, f = k + 1 := ⟨f - 1, by omega⟩
    have hlt := accN_lt l i t
    have h8 : 2 ^ t ≤ 2 ^ 8 := Nat.pow_le_pow_right (by decide) (by omega)
    have hn : (((i : Int) + (t : Int)).toNat) = i + t := by omega
    rw [shunterref03_Bytes_l6, ck_pos _ (by omega), if_pos (by omega), ck_pos _ (by omega)]
    have ih' := ih f (t + 1) (by omega) (by omega)
    have e : (i : Int) + ((t + 1 : Nat) : Int) = (i : Int) + (t : Int) + 1 := by omega
    rw [e] at ih'
    by_cases h1 : i + t < l.length
    · rw [if_pos (by omega), ck_pos _ (by omega), hn]
      by_cases h2 : l[i + t]! = true
      · rw [if_pos h2, ck_pos _ (by omega), ck_pos _ (by omega)]
        rw [show (accN l i (t + 1) : Nat) = 2 * accN l i t + 1 from by rw [accN, if_pos h2]] at ih'
        rw [← ih']; congr 1
      · rw [if_neg h2, ck_pos _ (by omega)]
        rw [show (accN l i (t + 1) : Nat) = 2 * accN l i t from by rw [accN, if_neg h2]; rfl] at ih'
        rw [← ih']; congr 1
    · rw [if_neg (by omega), ck_pos _ (by omega)]
      rw [show (accN l i (t + 1) : Nat) = 2 * accN l i t from by rw [accN, if_neg (by rw [get!_ge (by omega)]; decide)]; rfl] at ih'
      rw [← ih']; congr 1
theorem ry_out (N : Nat) (l : List Bool) (hN : 8 < N) (hl : l.length ≤ 140737488355000) : ∀ (k f i : Nat), i + k = (l.length + 7) / 8 → k < f →
    shunterref03_Bytes_l3 N l f ((List.range i).map fun i => byteL l (8 * i)) ((8 * i : Nat) : Int) = some (bytesL l) := by
  intro k
  induction k with
  | zero =>
    intro f i hi hf
    obtain ⟨f, rfl⟩ : ∃ k, f = k + 1 := ⟨f - 1, by omega⟩
    rw [shunterref03_Bytes_l3, if_neg (by omega), bytesL, show i = (l.length + 7) / 8 from by omega]
  | succ k ih =>
    intro f i hi hf
    obtain ⟨f, rfl⟩ : ∃ k, f = k + 1 := ⟨f - 1, by omega⟩
    rw [shunterref03_Bytes_l3, if_pos (by omega)]
    have := ry_in l ((List.range i).map fun i => byteL l (8 * i)) (8 * i) (shunterref03_Bytes_l3 N l f) (by omega) (by simp; omega) 8 N 0 (by omega) hN
    simp only [accN, Int.natCast_zero, Int.add_zero] at this
    rw [this]
    have h2 := ih f (i + 1) (by omega) (by omega)
    rw [← h2, List.range_succ, List.map_append]
    rfl
theorem rbytes_s (N : Nat) (l : List Bool) (hN : 8 < N) (hN2 : (l.length + 7) / 8 < N) (hl : l.length ≤ 140737488355000) : shunterref03_Bytes_m N l = some (bytesL l) :=
  ry_out N l hN hl ((l.length + 7) / 8) N 0 (by omega) hN2
end Go.Proofs.Ytdgejbbelmhbdaa
