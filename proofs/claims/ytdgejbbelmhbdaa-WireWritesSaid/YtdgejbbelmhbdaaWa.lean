/- The reference of layer 7: numbers, rows and names as bytes; a reader as a value. Conditions: none but those written. -/
import Derived.Test.YtdgejbbelmhbdaaBP
import Derived.Test.YtdgejbbelmhbdaaRb
import Derived.Test.YtdgejbbelmhbdaaRa
import Derived.Test.YtdgejbbelmhbdaaBf
namespace Go.Proofs.Ytdgejbbelmhbdaa
open Go Go.RowKit Go.Eng
abbrev RdS := List UInt8 × Int × Int × Int
theorem wtext_s (N : Nat) (s : List UInt8) (hs : s.length ≤ 100000) : shunterref07_Name_m N s = some (if s.length > 255 then [0] else UInt8.ofNat s.length :: s) := by
  unfold shunterref07_Name_m
  by_cases h : s.length > 255
  · rw [if_pos (by omega), if_pos h]
  · rw [if_neg (by omega), if_neg h, ck_pos _ (by simp only [List.length_singleton]; omega)]
    unfold byteI
    rw [show (s.length : Int) % 256 = ((s.length : Nat) : Int) from by omega, Int.toNat_natCast]; rfl
theorem wn_loop (N : Nat) (l : List Bool) (hl : l.length ≤ 128) : ∀ (k f : Nat) (h : List Bool), k ≤ l.length → k < f → h.length + k ≤ 1000 → shunterref07_Number_l3 N l f h ((k : Int) - 1) = (shunterref03_Bytes_m N (h ++ (l.take k).reverse)).bind fun r => some r
  | 0, f, h, _, hf, _ => by
    obtain ⟨f, rfl⟩ : ∃ k, f = k + 1 := ⟨f - 1, by omega⟩
    rw [shunterref07_Number_l3, if_neg (by omega), List.take_zero, List.reverse_nil, List.append_nil]
  | k + 1, f, h, hk, hf, hh => by
    obtain ⟨f, rfl⟩ : ∃ k, f = k + 1 := ⟨f - 1, by omega⟩
    have e : ((k + 1 : Nat) : Int) - 1 = (k : Int) := by omega
    have et : (l.take (k + 1)).reverse = [l[k]!] ++ (l.take k).reverse := by
      rw [List.take_add_one, List.getElem?_eq_getElem (by omega), get!_of_lt _ _ (by omega)]
      simp
    rw [e, shunterref07_Number_l3, if_pos (by omega), ck_pos _ (by omega), ck_pos _ (by simp only [List.length_singleton]; omega), ck_pos _ (by omega), Int.toNat_natCast, wn_loop N l hl k f _ (by omega) (by omega) (by rw [List.length_append, List.length_singleton]; omega), et, List.append_assoc]
theorem byteI_nat (m : Int) : (byteI m).toNat = (m % 256).toNat := by
  unfold byteI
  rw [UInt8.toNat_ofNat']
  omega
theorem testBit_div (m q t : Nat) (ht : t < 8) : (m / 2 ^ q % 256).testBit t = m.testBit (q + t) := by
  rw [show (256 : Nat) = 2 ^ 8 from rfl, Nat.testBit_mod_two_pow, decide_eq_true ht, Bool.true_and, Nat.testBit_div_two_pow, Nat.add_comm]
theorem ofInt_bit (n : Int) (j : Nat) (hj : j < 64) : ((0#64) ++ (BitVec.ofInt 64 n)).getLsbD j = ((n % 18446744073709551616).toNat).testBit j := by
  rw [BitVec.getLsbD_append, if_pos hj, ← BitVec.testBit_toNat, BitVec.toNat_ofInt]
  rfl
theorem bitI0 (n : Int) (t : Nat) (ht : t < 8) : (byteI n).toNat.testBit t = ((0#64) ++ (BitVec.ofInt 64 n)).getLsbD t := by
  rw [byteI_nat, ofInt_bit n t (by omega)]
  have h := testBit_div ((n % 18446744073709551616).toNat) 0 t ht
  rw [Nat.zero_add] at h
  rw [← h]; congr 1; omega
theorem bitI1 (n : Int) (t : Nat) (ht : t < 8) : (byteI (n / 256)).toNat.testBit t = ((0#64) ++ (BitVec.ofInt 64 n)).getLsbD (8 + t) := by
  rw [byteI_nat, ofInt_bit n _ (by omega), ← testBit_div _ 8 t ht]; congr 1; omega
theorem bitI2 (n : Int) (t : Nat) (ht : t < 8) : (byteI (n / 65536)).toNat.testBit t = ((0#64) ++ (BitVec.ofInt 64 n)).getLsbD (16 + t) := by
  rw [byteI_nat, ofInt_bit n _ (by omega), ← testBit_div _ 16 t ht]; congr 1; omega
theorem bitI3 (n : Int) (t : Nat) (ht : t < 8) : (byteI (n / 16777216)).toNat.testBit t = ((0#64) ++ (BitVec.ofInt 64 n)).getLsbD (24 + t) := by
  rw [byteI_nat, ofInt_bit n _ (by omega), ← testBit_div _ 24 t ht]; congr 1; omega
def numB (n : Int) : Nat → List UInt8
  | 1 => [byteI n]
  | 2 => [byteI (n / 256), byteI n]
  | 4 => [byteI (n / 16777216), byteI (n / 65536), byteI (n / 256), byteI n]
  | _ => []
theorem num_bytes (n : Int) (size : Nat) (hs : size = 1 ∨ size = 2 ∨ size = 4) : bytesL (((bitsL 64 ((0#64) ++ (BitVec.ofInt 64 n))).take (8 * size)).reverse) = numB n size := by
  have hl : (((bitsL 64 ((0#64) ++ (BitVec.ofInt 64 n))).take (8 * size)).reverse).length = 8 * size := by
    rw [List.length_reverse, List.length_take, bitsL_len]; omega
  have hb : (bytesL (((bitsL 64 ((0#64) ++ (BitVec.ofInt 64 n))).take (8 * size)).reverse)).length = size := by rw [bytesL_len, hl]; omega
  have hn : (numB n size).length = size := by rcases hs with rfl | rfl | rfl <;> rfl
  refine bytes_ext (by rw [hb, hn]) (fun k hk => ?_)
  rw [hb] at hk
  rw [bytesL_bit _ _ (by rw [hb]; exact hk)]
  have e1 : (((bitsL 64 ((0#64) ++ (BitVec.ofInt 64 n))).take (8 * size)).reverse)[k]! = ((0#64) ++ (BitVec.ofInt 64 n)).getLsbD (8 * size - 1 - k) := by
    have hlt : (((bitsL 64 ((0#64) ++ (BitVec.ofInt 64 n))).take (8 * size))).length = 8 * size := by rw [List.length_take, bitsL_len]; omega
    rw [rev_get _ _ (by rw [hlt]; exact hk), hlt, get!_of_lt _ _ (by rw [hlt]; omega), List.getElem_take]
    have h2 := bitsL_get 64 ((0#64) ++ (BitVec.ofInt 64 n)) (8 * size - 1 - k)
    rw [get!_of_lt _ _ (by rw [bitsL_len]; omega)] at h2
    rw [h2, decide_eq_true (by omega), Bool.true_and]
  rw [e1]
  unfold bitAt
  have ht : 7 - k % 8 < 8 := by omega
  rcases hs with rfl | rfl | rfl
  · have hq : k / 8 = 0 := by omega
    rw [hq]
    show _ = (byteI n).toNat.testBit (7 - k % 8)
    rw [bitI0 n _ ht]; congr 1; omega
  · rcases (by omega : k / 8 = 0 ∨ k / 8 = 1) with hq | hq <;> rw [hq]
    · show _ = (byteI (n / 256)).toNat.testBit (7 - k % 8)
      rw [bitI1 n _ ht]; congr 1; omega
    · show _ = (byteI n).toNat.testBit (7 - k % 8)
      rw [bitI0 n _ ht]; congr 1; omega
  · rcases (by omega : k / 8 = 0 ∨ k / 8 = 1 ∨ k / 8 = 2 ∨ k / 8 = 3) with hq | hq | hq | hq <;> rw [hq]
    · show _ = (byteI (n / 16777216)).toNat.testBit (7 - k % 8)
      rw [bitI3 n _ ht]; congr 1; omega
    · show _ = (byteI (n / 65536)).toNat.testBit (7 - k % 8)
      rw [bitI2 n _ ht]; congr 1; omega
    · show _ = (byteI (n / 256)).toNat.testBit (7 - k % 8)
      rw [bitI1 n _ ht]; congr 1; omega
    · show _ = (byteI n).toNat.testBit (7 - k % 8)
      rw [bitI0 n _ ht]; congr 1; omega
theorem wnumber_s (N : Nat) (hN : 128 < N) (n : Int) (size : Nat) (hs : size = 1 ∨ size = 2 ∨ size = 4) : shunterref07_Number_m N n (size : Int) = some (numB n size) := by
  have hl : (bitsL 64 ((0#64) ++ (BitVec.ofInt 64 n))).length = 64 := bitsL_len _ _
  have hb := bits_s N 64 ((0#64) ++ (BitVec.ofInt 64 n)) hN (by decide) (by decide)
  have hb' : shunterref02_Bits_m N 64 ((0#64) ++ (BitVec.ofInt 64 n)) = some (bitsL 64 ((0#64) ++ (BitVec.ofInt 64 n))) := hb
  unfold shunterref07_Number_m
  rw [hb', Option.bind_some, ck_pos _ (by omega), ck_pos _ (by omega)]
  have e : (8 * (size : Int)) - 1 = ((8 * size : Nat) : Int) - 1 := by omega
  have hr : (((bitsL 64 ((0#64) ++ (BitVec.ofInt 64 n))).take (8 * size)).reverse).length = 8 * size := by rw [List.length_reverse, List.length_take, bitsL_len]; omega
  rw [e, wn_loop N _ (by rw [hl]; decide) (8 * size) N [] (by rw [hl]; omega) (by omega) (by simp; omega), List.nil_append, rbytes_s N _ (by omega) (by rw [hr]; omega) (by rw [hr]; omega), Option.bind_some, num_bytes n size hs]
/-- a row's bytes -/
def vecB (w : Int) (x : BitVec 128) : List UInt8 := byteI w :: bytesL (List.replicate ((8 - w.toNat % 8) % 8) false ++ highB w x)
theorem wv_loop (N : Nat) (hN : 128 < N) (w : Nat) (x : BitVec 128) (hw : 1 ≤ w ∧ w ≤ 128) : ∀ (k f i : Nat), i + k = (8 - w % 8) % 8 → k < f → shunterref07_Vec_l2 N (w : Int) x f (List.replicate i false) = some (vecB (w : Int) x) := by
  intro k
  induction k with
  | zero =>
    intro f i hi hf
    obtain ⟨f, rfl⟩ : ∃ n, f = n + 1 := ⟨f - 1, by omega⟩
    have hh : (highB (w : Int) x).length = w := by rw [highB_len, Int.toNat_natCast]
    rw [shunterref07_Vec_l2, List.length_replicate, ck_pos _ (by omega), ck_pos _ (by omega), if_neg (by omega), rof_s N hN _ _ (by omega) (by omega), Option.bind_some, ck_pos _ (by rw [hh]; omega)]
    have hl : (List.replicate i false ++ highB (w : Int) x).length = i + w := by rw [List.length_append, List.length_replicate, hh]
    rw [rbytes_s N _ (by omega) (by rw [hl]; omega) (by rw [hl]; omega), Option.bind_some, ck_pos _ (by rw [bytesL_len, hl]; simp only [List.length_singleton]; omega)]
    unfold vecB
    rw [Int.toNat_natCast, ← hi]; rfl
  | succ k ih =>
    intro f i hi hf
    obtain ⟨f, rfl⟩ : ∃ n, f = n + 1 := ⟨f - 1, by omega⟩
    rw [shunterref07_Vec_l2, List.length_replicate, ck_pos _ (by omega), ck_pos _ (by omega), if_pos (by omega), ck_pos _ (by simp only [List.length_singleton]; omega), show List.replicate i false ++ [false] = List.replicate (i + 1) false from by rw [List.replicate_succ'], ih f (i + 1) (by omega) (by omega)]
theorem wvec_s (N : Nat) (hN : 128 < N) (w : Int) (x : BitVec 128) : shunterref07_Vec_m N w x = some (if mayB w x = true then vecB w x else [0]) := by
  unfold shunterref07_Vec_m
  rw [rmay_s, Option.bind_some]
  by_cases h : mayB w x = true
  · obtain ⟨h1, h2, _⟩ := may_w h
    obtain ⟨n, rfl⟩ : ∃ n : Nat, w = (n : Int) := ⟨w.toNat, by omega⟩
    rw [if_pos h, if_pos h]
    exact wv_loop N hN n x (by omega) ((8 - n % 8) % 8) N 0 (by omega) (by omega)
  · rw [if_neg h, if_neg h]
end Go.Proofs.Ytdgejbbelmhbdaa
