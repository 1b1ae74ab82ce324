import Derived.Test.YthafnifhhblkbaaGreatDoorIt
import Derived.Test.YthafnifhhblkbaaGreatDoorBj
import Derived.Test.YthafnifhhblkbaaGreatDoorBP
namespace Go.Proofs.YthafnifhhblkbaaGreatDoor
open Go Go.RowKit Go.Eng
def YT (n : Nat) : Prop := 128 ≤ n ∧ n < 192
instance (n : Nat) : Decidable (YT n) := inferInstanceAs (Decidable (_ ∧ _))
end Go.Proofs.YthafnifhhblkbaaGreatDoor
namespace Go.Proofs.YthafnifhhblkbaaGreatDoor
open Go Go.RowKit Go.Eng
section
variable (N : Nat) (s : List UInt8)
def c4 (s : List UInt8) : Int := 262144 * ((((GR s 0).toNat : Nat) : Int) - 240) + 4096 * ((((GR s 1).toNat : Nat) : Int) - 128) + 64 * ((((GR s 2).toNat : Nat) : Int) - 128) + (((GR s 3).toNat : Nat) : Int) - 128
def c3 (s : List UInt8) : Int := 4096 * ((((GR s 0).toNat : Nat) : Int) - 224) + 64 * ((((GR s 1).toNat : Nat) : Int) - 128) + (((GR s 2).toNat : Nat) : Int) - 128
def c2 (s : List UInt8) : Int := 64 * ((((GR s 0).toNat : Nat) : Int) - 192) + (((GR s 1).toNat : Nat) : Int) - 128
def v4 (s : List UInt8) (x : Bool) : Int × Int := if x = true ∧ 65536 ≤ c4 s ∧ c4 s ≤ 1114111 then (c4 s, 4) else (65533, 1)
def x4 (s : List UInt8) : Bool := decide (240 ≤ (((GR s 0).toNat : Nat) : Int) ∧ (((GR s 0).toNat : Nat) : Int) < 245 ∧ 4 ≤ s.length ∧ YT (GR s 1).toNat ∧ YT (GR s 2).toNat ∧ YT (GR s 3).toNat)
def v3 (s : List UInt8) (x : Bool) : Int × Int := if x = true ∧ 2048 ≤ c3 s ∧ (c3 s < 55296 ∨ 57343 < c3 s) then (c3 s, 3) else v4 s (x4 s)
def x3 (s : List UInt8) : Bool := decide (224 ≤ (((GR s 0).toNat : Nat) : Int) ∧ (((GR s 0).toNat : Nat) : Int) < 240 ∧ 3 ≤ s.length ∧ YT (GR s 1).toNat ∧ YT (GR s 2).toNat)
def v2 (s : List UInt8) (x : Bool) : Int × Int := if x = true then (c2 s, 2) else v3 s (x3 s)
def x2 (s : List UInt8) : Bool := decide (194 ≤ (((GR s 0).toNat : Nat) : Int) ∧ (((GR s 0).toNat : Nat) : Int) < 224 ∧ 2 ≤ s.length ∧ YT (GR s 1).toNat)
end
end Go.Proofs.YthafnifhhblkbaaGreatDoor
namespace Go.Proofs.YthafnifhhblkbaaGreatDoor
open Go Go.RowKit Go.Eng
theorem Zf (N : Nat) (l : List Bool) (hl : l.length ≤ 128) : ∀ (k f : Nat) (h : List Bool), k ≤ l.length → k < f → h.length + k ≤ 1000 → BM N l f h ((k : Int) - 1) = (BY N (h ++ (l.take k).reverse)).bind fun r => some r
 | 0, f, h, _, hf, _ => by
  obtain ⟨f, rfl⟩ : ∃ k, f = k + 1 := ⟨f - 1, by omega⟩
  rw [BM, if_neg (by omega), List.take_zero, List.reverse_nil, List.append_nil]
 | k + 1, f, h, hk, hf, hh => by
  obtain ⟨f, rfl⟩ : ∃ k, f = k + 1 := ⟨f - 1, by omega⟩
  have e : ((k + 1 : Nat) : Int) - 1 = (k : Int) := by omega
  have et : (l.take (k + 1)).reverse = [l[k]!] ++ (l.take k).reverse := by
   rw [List.take_add_one, List.getElem?_eq_getElem (by omega), get!_of_lt _ _ (by omega)]
   simp
  rw [e, BM, if_pos (by omega), AR _ (by omega), AR _ (by simp only [List.length_singleton]; omega), AR _ (by omega), Int.toNat_natCast, Zf N l hl k f _ (by omega) (by omega) (by rw [List.length_append, List.length_singleton]; omega), et, List.append_assoc]
theorem NE (m : Int) : (byteI m).toNat = (m % 256).toNat := by
 unfold byteI
 rw [UInt8.toNat_ofNat']
 omega
theorem KI (m q t : Nat) (ht : t < 8) : (m / 2 ^ q % 256).testBit t = m.testBit (q + t) := by
 rw [show (256 : Nat) = 2 ^ 8 from rfl, Nat.testBit_mod_two_pow, decide_eq_true ht, Bool.true_and, Nat.testBit_div_two_pow, Nat.add_comm]
theorem Nt (n : Int) (j : Nat) (hj : j < 64) : ((0#64) ++ (BitVec.ofInt 64 n)).getLsbD j = ((n % 18446744073709551616).toNat).testBit j := by
 rw [BitVec.getLsbD_append, if_pos hj, ← BitVec.testBit_toNat, BitVec.toNat_ofInt]
 rfl
theorem ia (n : Int) (t : Nat) (ht : t < 8) : (byteI n).toNat.testBit t = ((0#64) ++ (BitVec.ofInt 64 n)).getLsbD t := by
 rw [NE, Nt n t (by omega)]
 have h := KI ((n % 18446744073709551616).toNat) 0 t ht
 rw [Nat.zero_add] at h
 rw [← h]; congr 1; omega
theorem kb (n : Int) (t : Nat) (ht : t < 8) : (byteI (n / 256)).toNat.testBit t = ((0#64) ++ (BitVec.ofInt 64 n)).getLsbD (8 + t) := by
 rw [NE, Nt n _ (by omega), ← KI _ 8 t ht]; congr 1; omega
theorem mf (n : Int) (t : Nat) (ht : t < 8) : (byteI (n / 65536)).toNat.testBit t = ((0#64) ++ (BitVec.ofInt 64 n)).getLsbD (16 + t) := by
 rw [NE, Nt n _ (by omega), ← KI _ 16 t ht]; congr 1; omega
theorem me (n : Int) (t : Nat) (ht : t < 8) : (byteI (n / 16777216)).toNat.testBit t = ((0#64) ++ (BitVec.ofInt 64 n)).getLsbD (24 + t) := by
 rw [NE, Nt n _ (by omega), ← KI _ 24 t ht]; congr 1; omega
def TF (n : Int) : Nat → List UInt8
 | 1 => [byteI n]
 | 2 => [byteI (n / 256), byteI n]
 | 4 => [byteI (n / 16777216), byteI (n / 65536), byteI (n / 256), byteI n]
 | _ => []
theorem Ut (n : Int) (size : Nat) (hs : size = 1 ∨ size = 2 ∨ size = 4) : Iq (((GC 64 ((0#64) ++ (BitVec.ofInt 64 n))).take (8 * size)).reverse) = TF n size := by
 have hl : (((GC 64 ((0#64) ++ (BitVec.ofInt 64 n))).take (8 * size)).reverse).length = 8 * size := by
  rw [List.length_reverse, List.length_take, DP]; omega
 have hb : (Iq (((GC 64 ((0#64) ++ (BitVec.ofInt 64 n))).take (8 * size)).reverse)).length = size := by rw [Ho, hl]; omega
 have hn : (TF n size).length = size := by rcases hs with rfl | rfl | rfl <;> rfl
 refine PT (by rw [hb, hn]) (fun k hk => ?_)
 rw [hb] at hk
 rw [Oo _ _ (by rw [hb]; exact hk)]
 have e1 : (((GC 64 ((0#64) ++ (BitVec.ofInt 64 n))).take (8 * size)).reverse)[k]! = ((0#64) ++ (BitVec.ofInt 64 n)).getLsbD (8 * size - 1 - k) := by
  have hlt : (((GC 64 ((0#64) ++ (BitVec.ofInt 64 n))).take (8 * size))).length = 8 * size := by rw [List.length_take, DP]; omega
  rw [UT _ _ (by rw [hlt]; exact hk), hlt, get!_of_lt _ _ (by rw [hlt]; omega), List.getElem_take]
  have h2 := PU 64 ((0#64) ++ (BitVec.ofInt 64 n)) (8 * size - 1 - k)
  rw [get!_of_lt _ _ (by rw [DP]; omega)] at h2
  rw [h2, decide_eq_true (by omega), Bool.true_and]
 rw [e1]
 unfold Pn
 have ht : 7 - k % 8 < 8 := by omega
 rcases hs with rfl | rfl | rfl
 ·have hq : k / 8 = 0 := by omega
  rw [hq]
  show _ = (byteI n).toNat.testBit (7 - k % 8)
  rw [ia n _ ht]; congr 1; omega
 ·rcases (by omega : k / 8 = 0 ∨ k / 8 = 1) with hq | hq <;> rw [hq]
  ·show _ = (byteI (n / 256)).toNat.testBit (7 - k % 8)
   rw [kb n _ ht]; congr 1; omega
  ·show _ = (byteI n).toNat.testBit (7 - k % 8)
   rw [ia n _ ht]; congr 1; omega
 ·rcases (by omega : k / 8 = 0 ∨ k / 8 = 1 ∨ k / 8 = 2 ∨ k / 8 = 3) with hq | hq | hq | hq <;> rw [hq]
  ·show _ = (byteI (n / 16777216)).toNat.testBit (7 - k % 8)
   rw [me n _ ht]; congr 1; omega
  ·show _ = (byteI (n / 65536)).toNat.testBit (7 - k % 8)
   rw [mf n _ ht]; congr 1; omega
  ·show _ = (byteI (n / 256)).toNat.testBit (7 - k % 8)
   rw [kb n _ ht]; congr 1; omega
  ·show _ = (byteI n).toNat.testBit (7 - k % 8)
   rw [ia n _ ht]; congr 1; omega
theorem ZY (N : Nat) (hN : 128 < N) (n : Int) (size : Nat) (hs : size = 1 ∨ size = 2 ∨ size = 4) : Cj N n (size : Int) = some (TF n size) := by
 have hl : (GC 64 ((0#64) ++ (BitVec.ofInt 64 n))).length = 64 := DP _ _
 have hb := hY N 64 ((0#64) ++ (BitVec.ofInt 64 n)) hN (by decide) (by decide)
 have hb' : Ci N 64 ((0#64) ++ (BitVec.ofInt 64 n)) = some (GC 64 ((0#64) ++ (BitVec.ofInt 64 n))) := hb
 unfold Cj
 rw [hb', Option.bind_some, AR _ (by omega), AR _ (by omega)]
 have e : (8 * (size : Int)) - 1 = ((8 * size : Nat) : Int) - 1 := by omega
 have hr : (((GC 64 ((0#64) ++ (BitVec.ofInt 64 n))).take (8 * size)).reverse).length = 8 * size := by rw [List.length_reverse, List.length_take, DP]; omega
 rw [e, Zf N _ (by rw [hl]; decide) (8 * size) N [] (by rw [hl]; omega) (by omega) (by simp; omega), List.nil_append, Wv N _ (by omega) (by rw [hr]; omega) (by rw [hr]; omega), Option.bind_some, Ut n size hs]
def bc (w : Int) (x : BitVec 128) : List UInt8 := byteI w :: Iq (List.replicate ((8 - w.toNat % 8) % 8) false ++ OZ w x)
theorem ij (N : Nat) (hN : 128 < N) (w : Nat) (x : BitVec 128) (hw : 1 ≤ w ∧ w ≤ 128) : ∀ (k f i : Nat), i + k = (8 - w % 8) % 8 → k < f → Ch N (w : Int) x f (List.replicate i false) = some (bc (w : Int) x) := by
 intro k
 induction k with
 | zero =>
  intro f i hi hf
  obtain ⟨f, rfl⟩ : ∃ n, f = n + 1 := ⟨f - 1, by omega⟩
  have hh : (OZ (w : Int) x).length = w := by rw [Nz, Int.toNat_natCast]
  rw [Ch, List.length_replicate, AR _ (by omega), AR _ (by omega), if_neg (by omega), lA N hN _ _ (by omega) (by omega), Option.bind_some, AR _ (by rw [hh]; omega)]
  have hl : (List.replicate i false ++ OZ (w : Int) x).length = i + w := by rw [List.length_append, List.length_replicate, hh]
  rw [Wv N _ (by omega) (by rw [hl]; omega) (by rw [hl]; omega), Option.bind_some, AR _ (by rw [Ho, hl]; simp only [List.length_singleton]; omega)]
  unfold bc
  rw [Int.toNat_natCast, ← hi]; rfl
 | succ k ih =>
  intro f i hi hf
  obtain ⟨f, rfl⟩ : ∃ n, f = n + 1 := ⟨f - 1, by omega⟩
  rw [Ch, List.length_replicate, AR _ (by omega), AR _ (by omega), if_pos (by omega), AR _ (by simp only [List.length_singleton]; omega), show List.replicate i false ++ [false] = List.replicate (i + 1) false from by rw [List.replicate_succ'], ih f (i + 1) (by omega) (by omega)]
theorem ko (N : Nat) (hN : 128 < N) (w : Int) (x : BitVec 128) : CO N w x = some (if MU w x = true then bc w x else [0]) := by
 unfold CO
 rw [bz, Option.bind_some]
 by_cases h : MU w x = true
 ·obtain ⟨h1, h2, _⟩ := WF h
  obtain ⟨n, rfl⟩ : ∃ n : Nat, w = (n : Int) := ⟨w.toNat, by omega⟩
  rw [if_pos h, if_pos h]
  exact ij N hN n x (by omega) ((8 - n % 8) % 8) N 0 (by omega) (by omega)
 ·rw [if_neg h, if_neg h]
end Go.Proofs.YthafnifhhblkbaaGreatDoor
