import Derived.Test.YthafnifhhblkbaaGreatDoorVQ
namespace Go.Proofs.YthafnifhhblkbaaGreatDoor
open Go Go.RowKit Go.Eng
def Pn (b : List UInt8) (k : Nat) : Bool := (b[k / 8]!).toNat.testBit (7 - k % 8)
theorem kt {x y : UInt8} (h : ∀ t, t < 8 → x.toNat.testBit t = y.toNat.testBit t) : x = y :=
 UInt8.toNat_inj.1 (Nat.eq_of_testBit_eq fun t => by
  by_cases ht : t < 8
  ·exact h t ht
  ·have hp : 2 ^ 8 ≤ 2 ^ t := Nat.pow_le_pow_right (by decide) (by omega)
   rw [Nat.testBit_lt_two_pow (Nat.lt_of_lt_of_le x.toNat_lt hp), Nat.testBit_lt_two_pow (Nat.lt_of_lt_of_le y.toNat_lt hp)])
theorem get!_of_lt {α : Type} [Inhabited α] (l : List α) (i : Nat) (h : i < l.length) : l[i]! = l[i] := by
 rw [List.getElem!_eq_getElem?_getD, List.getElem?_eq_getElem h]; rfl
theorem PT {a b : List UInt8} (hl : a.length = b.length) (h : ∀ k, k < 8 * a.length → Pn a k = Pn b k) : a = b := by
 refine List.ext_getElem hl fun i h1 h2 => kt fun t ht => ?_
 have := h (8 * i + (7 - t)) (by omega)
 unfold Pn at this
 have e1 : (8 * i + (7 - t)) / 8 = i := by omega
 have e2 : 7 - (8 * i + (7 - t)) % 8 = t := by omega
 rw [e1, e2, get!_of_lt _ _ h1, get!_of_lt _ _ h2] at this
 exact this
def kk (m : Nat) : Int := if m = 0 then 0 else ((2 ^ (m - 1) : Nat) : Int)
theorem UT (l : List Bool) (j : Nat) (h : j < l.length) : l.reverse[j]! = l[l.length - 1 - j]! := by
 rw [List.getElem!_eq_getElem?_getD, List.getElem!_eq_getElem?_getD, List.getElem?_reverse h]
theorem get!_ge {l : List Bool} {j : Nat} (h : l.length ≤ j) : l[j]! = false := by
 rw [List.getElem!_eq_getElem?_getD, List.getElem?_eq_none h]; rfl
theorem cw (l : List Bool) (k : Nat) (h : k < l.length) : (l.drop (k + 1)).reverse ++ [l[k]!] = (l.drop k).reverse := by
 rw [List.drop_eq_getElem_cons h, List.reverse_cons, get!_of_lt _ _ h]
def OZ (w : Int) (x : BitVec 128) : List Bool := (GC w.toNat x).reverse
theorem Nz (w : Int) (x : BitVec 128) : (OZ w x).length = w.toNat := by simp [OZ, DP]
theorem ay (w : Int) (x : BitVec 128) (i : Nat) (h : i < w.toNat) : (OZ w x)[i]! = x.getLsbD (w.toNat - 1 - i) := by
 unfold OZ
 rw [UT _ _ (by rw [DP]; exact h), DP, PU, decide_eq_true (by omega), Bool.true_and]
theorem Zm (r : List Bool) (hr : r.length ≤ 128) : ∀ (k f : Nat), k ≤ r.length → k < f → Cs r f (r.drop k).reverse ((k : Int) - 1) = some r.reverse
 | 0, f, _, hf => by
  obtain ⟨f, rfl⟩ : ∃ k, f = k + 1 := ⟨f - 1, by omega⟩
  rw [Cs, if_neg (by omega)]; rfl
 | k + 1, f, hk, hf => by
  obtain ⟨f, rfl⟩ : ∃ k, f = k + 1 := ⟨f - 1, by omega⟩
  have e : ((k + 1 : Nat) : Int) - 1 = (k : Int) := by omega
  rw [e, Cs, if_pos (by omega), AR _ (by omega), AR _ (by simp; omega), AR _ (by omega), Int.toNat_natCast, cw _ _ (by omega)]
  exact Zm r hr k f (by omega) (by omega)
theorem lA (N : Nat) (hN : 128 < N) (w : Int) (x : BitVec 128) (h0 : 0 ≤ w) (h1 : w ≤ 128) : Db N w x = some (OZ w x) := by
 unfold Db
 rw [hY N w x hN h0 h1, Option.bind_some, AR _ (by rw [DP]; omega)]
 have := Zm (GC w.toNat x) (by rw [DP]; omega) (GC w.toNat x).length N (Nat.le_refl _) (by rw [DP]; omega)
 rw [List.drop_length] at this
 exact this
def accN (l : List Bool) (i : Nat) : Nat → Nat
 | 0 => 0
 | m + 1 => 2 * accN l i m + (if l[i + m]! = true then 1 else 0)
theorem Yl (l : List Bool) (i : Nat) : ∀ m j, (accN l i m).testBit j = (decide (j < m) && l[i + m - 1 - j]!)
 | 0, j => by simp [accN]
 | m + 1, 0 => by
  have h0 : decide (0 < m + 1) = true := decide_eq_true (by omega)
  rw [h0, Bool.true_and, accN, Nat.testBit_zero, show i + (m + 1) - 1 - 0 = i + m from by omega]
  cases hb : l[i + m]! <;> simp
 | m + 1, j + 1 => by
  have h0 : (2 * accN l i m + (if l[i + m]! = true then 1 else 0)) / 2 = accN l i m := by
   cases l[i + m]!
   ·simp
   ·simp; omega
  rw [accN, Nat.testBit_succ, h0, Yl l i m j]
  rw [show i + (m + 1) - 1 - (j + 1) = i + m - 1 - j from by omega]
  congr 1
  exact decide_eq_decide.2 (by omega)
theorem Rf (l : List Bool) (i : Nat) : ∀ m, accN l i m < 2 ^ m
 | 0 => by simp [accN]
 | m + 1 => by
  have := Rf l i m
  rw [accN, Nat.pow_succ]
  split <;> omega
def Pm (l : List Bool) (i : Nat) : UInt8 := UInt8.ofNat (accN l i 8)
theorem aS (l : List Bool) (i : Nat) : byteI ((accN l i 8 : Nat) : Int) = Pm l i := by
 have := Rf l i 8
 unfold byteI Pm
 congr 1; omega
theorem aQ (l : List Bool) (i t : Nat) (ht : t < 8) : (Pm l i).toNat.testBit (7 - t) = l[i + t]! := by
 have := Rf l i 8
 unfold Pm
 rw [UInt8.toNat_ofNat', Nat.mod_eq_of_lt this, Yl, decide_eq_true (by omega), Bool.true_and]
 congr 1; omega
def Iq (l : List Bool) : List UInt8 := (List.range ((l.length + 7) / 8)).map fun i => Pm l (8 * i)
theorem Ho (l : List Bool) : (Iq l).length = (l.length + 7) / 8 := by simp [Iq]
theorem Oo (l : List Bool) (k : Nat) (hk : k < 8 * (Iq l).length) : Pn (Iq l) k = l[k]! := by
 rw [Ho] at hk
 have hi : k / 8 < (l.length + 7) / 8 := by omega
 have hg : (Iq l)[k / 8]! = Pm l (8 * (k / 8)) := by
  rw [List.getElem!_eq_getElem?_getD]
  simp [Iq, hi]
 unfold Pn
 rw [hg, aQ _ _ _ (by omega)]
 congr 1; omega
theorem lw (l : List Bool) (b : List UInt8) (i : Nat) (rec : List UInt8 → Int → Option (List UInt8)) (hi : i < 140737488355328) (hb : b.length < 140737488355328) : ∀ (m f t : Nat), t + m = 8 → m < f →
  Bv l b (i : Int) rec f ((accN l i t : Nat) : Int) ((i : Int) + (t : Int)) = rec (b ++ [Pm l i]) ((i : Int) + 8) := by
 intro m
 induction m with
 | zero =>
  intro f t ht hf
  obtain ⟨f, rfl⟩ : ∃ k, f = k + 1 := ⟨f - 1, by omega⟩
  obtain rfl : t = 8 := by omega
  rw [Bv, AR _ (by omega), if_neg (by omega), AR _ (by simp; omega), AR _ (by omega), aS]
 | succ m ih =>
  intro f t ht hf
  obtain ⟨f, rfl⟩ : ∃ k, f = k + 1 := ⟨f - 1, by omega⟩
  have hlt := Rf l i t
  have h8 : 2 ^ t ≤ 2 ^ 8 := Nat.pow_le_pow_right (by decide) (by omega)
  have hn : (((i : Int) + (t : Int)).toNat) = i + t := by omega
  rw [Bv, AR _ (by omega), if_pos (by omega), AR _ (by omega)]
  have ih' := ih f (t + 1) (by omega) (by omega)
  have e : (i : Int) + ((t + 1 : Nat) : Int) = (i : Int) + (t : Int) + 1 := by omega
  rw [e] at ih'
  by_cases h1 : i + t < l.length
  ·rw [if_pos (by omega), AR _ (by omega), hn]
   by_cases h2 : l[i + t]! = true
   ·rw [if_pos h2, AR _ (by omega), AR _ (by omega)]
    rw [show (accN l i (t + 1) : Nat) = 2 * accN l i t + 1 from by rw [accN, if_pos h2]] at ih'
    rw [← ih']; congr 1
   ·rw [if_neg h2, AR _ (by omega)]
    rw [show (accN l i (t + 1) : Nat) = 2 * accN l i t from by rw [accN, if_neg h2]; rfl] at ih'
    rw [← ih']; congr 1
  ·rw [if_neg (by omega), AR _ (by omega)]
   rw [show (accN l i (t + 1) : Nat) = 2 * accN l i t from by rw [accN, if_neg (by rw [get!_ge (by omega)]; decide)]; rfl] at ih'
   rw [← ih']; congr 1
theorem kD (N : Nat) (l : List Bool) (hN : 8 < N) (hl : l.length ≤ 140737488355000) : ∀ (k f i : Nat), i + k = (l.length + 7) / 8 → k < f →
  Bw N l f ((List.range i).map fun i => Pm l (8 * i)) ((8 * i : Nat) : Int) = some (Iq l) := by
 intro k
 induction k with
 | zero =>
  intro f i hi hf
  obtain ⟨f, rfl⟩ : ∃ k, f = k + 1 := ⟨f - 1, by omega⟩
  rw [Bw, if_neg (by omega), Iq, show i = (l.length + 7) / 8 from by omega]
 | succ k ih =>
  intro f i hi hf
  obtain ⟨f, rfl⟩ : ∃ k, f = k + 1 := ⟨f - 1, by omega⟩
  rw [Bw, if_pos (by omega)]
  have := lw l ((List.range i).map fun i => Pm l (8 * i)) (8 * i) (Bw N l f) (by omega) (by simp; omega) 8 N 0 (by omega) hN
  simp only [accN, Int.natCast_zero, Int.add_zero] at this
  rw [this]
  have h2 := ih f (i + 1) (by omega) (by omega)
  rw [← h2, List.range_succ, List.map_append]
  rfl
theorem Wv (N : Nat) (l : List Bool) (hN : 8 < N) (hN2 : (l.length + 7) / 8 < N) (hl : l.length ≤ 140737488355000) : BY N l = some (Iq l) :=
 kD N l hN hl ((l.length + 7) / 8) N 0 (by omega) hN2
end Go.Proofs.YthafnifhhblkbaaGreatDoor
