/- The reference of layer 7: numbers, rows and names as bytes; a reader as a value. Conditions: none but those written. -/
import Derived.Test.YtdgejbbelmhbdaaBP
import Derived.Test.YtdgejbbelmhbdaaRh
namespace Go.Proofs.Ytdgejbbelmhbdaa
open Go Go.RowKit Go.Eng
theorem snoc_ind {α : Type} {p : List α → Prop} (h0 : p []) (h1 : ∀ l x, p l → p (l ++ [x])) : ∀ l, p l := by
  have key : ∀ l : List α, p l.reverse := by
    intro l
    induction l with
    | nil => exact h0
    | cons x l ih => rw [List.reverse_cons]; exact h1 _ _ ih
  intro l
  have := key l.reverse
  rwa [List.reverse_reverse] at this
def numU : List UInt8 → Nat := fun l => l.foldl (fun a x => a * 256 + x.toNat) 0
theorem numU_snoc (l : List UInt8) (x : UInt8) : numU (l ++ [x]) = numU l * 256 + x.toNat := by simp [numU]
theorem numU_lt (l : List UInt8) : numU l < 256 ^ l.length := by
  induction l using snoc_ind with
  | h0 => simp [numU]
  | h1 l x ih =>
    rw [numU_snoc, List.length_append, List.length_singleton, Nat.pow_succ]
    have := x.toNat_lt
    omega
theorem numU_bit (l : List UInt8) : ∀ j, j < 8 * l.length → (numU l).testBit j = bitAt l (8 * l.length - 1 - j) := by
  induction l using snoc_ind with
  | h0 => intro j hj; simp at hj
  | h1 l x ih =>
    intro j hj
    rw [List.length_append, List.length_singleton] at hj ⊢
    have hx := x.toNat_lt
    rw [numU_snoc, show numU l * 256 + x.toNat = 2 ^ 8 * numU l + x.toNat from by omega, Nat.testBit_two_pow_mul_add _ hx]
    unfold bitAt
    by_cases h : j < 8
    · rw [if_pos h, show (8 * (l.length + 1) - 1 - j) / 8 = l.length from by omega, show 7 - (8 * (l.length + 1) - 1 - j) % 8 = j from by omega]
      rw [get!_of_lt _ _ (by simp), List.getElem_append_right (Nat.le_refl _)]
      simp
    · rw [if_neg h, ih (j - 8) (by omega)]
      unfold bitAt
      rw [show (8 * (l.length + 1) - 1 - j) / 8 = (8 * l.length - 1 - (j - 8)) / 8 from by omega, show (8 * (l.length + 1) - 1 - j) % 8 = (8 * l.length - 1 - (j - 8)) % 8 from by omega]
      rw [get!_of_lt l _ (by omega), get!_of_lt (l ++ [x]) _ (by rw [List.length_append]; omega), List.getElem_append_left (by omega)]
abbrev RdS := List UInt8 × Int × Int × Int
def failL (r : RdS) (e at' : Int) : RdS := if r.2.2.1 = 0 ∧ e ≠ 0 then (r.1, r.2.1, e, at') else r
/-- a number of some bytes -/
def takeL (r : RdS) (size : Nat) (most : Int) : RdS × Int :=
  if r.2.2.1 ≠ 0 then (r, 0)
  else if r.1.length < size then ((r.1, r.2.1, 3, r.2.1), 0)
  else if ((numU (r.1.take size) : Nat) : Int) > most then ((r.1, r.2.1, 7, r.2.1), 0)
  else ((r.1.drop size, r.2.1 + size, r.2.2.1, r.2.2.2), (numU (r.1.take size) : Int))
/-- a name -/
def nameL (r : RdS) : RdS × List UInt8 :=
  if r.2.2.1 ≠ 0 then (r, [])
  else if (takeL r 1 255).1.2.2.1 ≠ 0 then ((takeL r 1 255).1, [])
  else if (takeL r 1 255).1.1.length < (takeL r 1 255).2.toNat then (failL r 3 r.2.1, [])
  else if mayL (runesL ((takeL r 1 255).1.1.take (takeL r 1 255).2.toNat)) = true then
    (((takeL r 1 255).1.1.drop (takeL r 1 255).2.toNat, (takeL r 1 255).1.2.1 + (takeL r 1 255).2, (takeL r 1 255).1.2.2.1, (takeL r 1 255).1.2.2.2), (takeL r 1 255).1.1.take (takeL r 1 255).2.toNat)
  else (failL r 4 r.2.1, [])
theorem wtext_s (N : Nat) (s : List UInt8) (hs : s.length ≤ 100000) : shunterref07_Name_m N s = some (if s.length > 255 then [0] else UInt8.ofNat s.length :: s) := by
  unfold shunterref07_Name_m
  by_cases h : s.length > 255
  · rw [if_pos (by omega), if_pos h]
  · rw [if_neg (by omega), if_neg h, ck_pos _ (by simp only [List.length_singleton]; omega)]
    unfold byteI
    rw [show (s.length : Int) % 256 = ((s.length : Nat) : Int) from by omega, Int.toNat_natCast]; rfl
theorem any_num (l : List UInt8) (w : Nat) (h : w ≤ 8 * l.length) : ((bitsB l).take (8 * l.length - w)).any id = decide (2 ^ w ≤ numU l) := by
  rw [Bool.eq_iff_iff, List.any_eq_true, decide_eq_true_eq]
  constructor
  · rintro ⟨x, hx, h1⟩
    obtain ⟨i, hi, rfl⟩ := List.mem_iff_getElem.mp hx
    rw [List.length_take, bitsB_len] at hi
    rw [List.getElem_take] at h1
    have h2 : bitAt l i = true := by
      have h3 := bitsB_get l i (by omega)
      rw [get!_of_lt _ _ (by rw [bitsB_len]; omega)] at h3
      rw [← h3]; exact h1
    have h4 := numU_bit l (8 * l.length - 1 - i) (by omega)
    rw [show 8 * l.length - 1 - (8 * l.length - 1 - i) = i from by omega, h2] at h4
    have h5 := Nat.ge_two_pow_of_testBit h4
    exact Nat.le_trans (Nat.pow_le_pow_right (by decide) (by omega)) h5
  · intro hge
    obtain ⟨j, hj1, hj2⟩ := Nat.exists_ge_and_testBit_of_ge_two_pow hge
    have hlt : j < 8 * l.length := by
      rcases Nat.lt_or_ge j (8 * l.length) with h3 | h3
      · exact h3
      · have h4 := numU_lt l
        rw [show (256 : Nat) = 2 ^ 8 from rfl, ← Nat.pow_mul] at h4
        have h5 : numU l < 2 ^ j := Nat.lt_of_lt_of_le h4 (Nat.pow_le_pow_right (by decide) h3)
        rw [Nat.testBit_lt_two_pow h5] at hj2; cases hj2
    have h6 := numU_bit l j hlt
    rw [hj2] at h6
    have hb := bitsB_get l (8 * l.length - 1 - j) (by omega)
    rw [get!_of_lt _ _ (by rw [bitsB_len]; omega)] at hb
    refine ⟨_, List.mem_iff_getElem.mpr ⟨8 * l.length - 1 - j, by rw [List.length_take, bitsB_len]; omega, rfl⟩, ?_⟩
    rw [List.getElem_take, hb, ← h6]; rfl
theorem vec_drop (l : List UInt8) (w : Nat) (h : w ≤ 8 * l.length) (hw : w ≤ 128) (hn : numU l < 2 ^ w) : vecL ((bitsB l).drop (8 * l.length - w)) = BitVec.ofNat 128 (numU l) := by
  have hlen : ((bitsB l).drop (8 * l.length - w)).length = w := by rw [List.length_drop, bitsB_len]; omega
  apply BitVec.eq_of_getLsbD_eq
  intro j hj
  rw [vecL_bit _ (by rw [hlen]; exact hw), hlen, BitVec.getLsbD_ofNat, decide_eq_true hj, Bool.true_and]
  by_cases hjw : j < w
  · rw [decide_eq_true hjw, Bool.true_and, get!_of_lt _ _ (by rw [hlen]; omega), List.getElem_drop, numU_bit l j (by omega)]
    have hb := bitsB_get l (8 * l.length - 1 - j) (by omega)
    rw [get!_of_lt _ _ (by rw [bitsB_len]; omega)] at hb
    rw [← hb]
    congr 1; omega
  · rw [decide_eq_false hjw, Bool.false_and]
    symm
    exact Nat.testBit_lt_two_pow (Nat.lt_of_lt_of_le hn (Nat.pow_le_pow_right (by decide) (by omega)))
/-- a row -/
def rowL (r : RdS) : RdS × Int × BitVec 128 :=
  if r.2.2.1 ≠ 0 then (r, 0, 0#128)
  else if (takeL r 1 255).1.2.2.1 ≠ 0 then ((takeL r 1 255).1, 0, 0#128)
  else if (takeL r 1 255).2 < 1 ∨ (takeL r 1 255).2 > 128 then (failL r 9 r.2.1, 0, 0#128)
  else if (takeL r 1 255).1.1.length < ((takeL r 1 255).2.toNat + 7) / 8 then (failL r 3 r.2.1, 0, 0#128)
  else if 2 ^ (takeL r 1 255).2.toNat ≤ numU ((takeL r 1 255).1.1.take (((takeL r 1 255).2.toNat + 7) / 8)) then (failL r 4 r.2.1, 0, 0#128)
  else (((takeL r 1 255).1.1.drop (((takeL r 1 255).2.toNat + 7) / 8), (takeL r 1 255).1.2.1 + (((takeL r 1 255).2.toNat + 7) / 8 : Nat), (takeL r 1 255).1.2.2.1, (takeL r 1 255).1.2.2.2), (takeL r 1 255).2, BitVec.ofNat 128 (numU ((takeL r 1 255).1.1.take (((takeL r 1 255).2.toNat + 7) / 8))))
theorem zero128 : (0#64) ++ (0#64) = 0#128 := by decide
theorem wn_loop (N : Nat) (l : List Bool) (hl : l.length ≤ 128) : ∀ (k f : Nat) (h : List Bool), k ≤ l.length → k < f → h.length + k ≤ 1000 → shunterref07_Number_l3 N l f h ((k : Int) - 1) = (shunterref03_Bytes_m N (h ++ (l.take k).reverse)).bind fun r => some r
  | 0, f, h, _, hf, _ => by
    obtain ⟨f, rfl⟩ : ∃ k, f = k + 1 := ⟨f - 1, by omega⟩
    rw [shunterref07_Number_l3, if_neg (by omega), List.take_zero, List.reverse_nil, List.append_nil]
  | k + 1, f, h, hk, hf, hh => by
    obtain ⟨f, rfl⟩ : ∃ k, f = k + 1 := ⟨f - 1, by omega⟩
    have e : ((k + 1 : Nat) : Int) - 1 = (k : Int) := by omega
    have et : (l.take (k + 1)).reverse = [l[k]!] ++ (l.take k).reverse := by
      rw [List.take_add_one, List.getElem?_eq_getElem (by omega), get!_of_lt _ _ (by omega)]
      simp
    rw [e, shunterref07_Number_l3, if_pos (by omega), ck_pos _ (by omega), ck_pos _ (by simp only [List.length_singleton]; omega), ck_pos _ (by omega), Int.toNat_natCast, wn_loop N l hl k f _ (by omega) (by omega) (by rw [List.length_append, List.length_singleton]; omega), et, List.append_assoc]
theorem byteI_nat (m : Int) : (byteI m).toNat = (m % 256).toNat := by
  unfold byteI
  rw [UInt8.toNat_ofNat']
  omega
theorem testBit_div (m q t : Nat) (ht : t < 8) : (m / 2 ^ q % 256).testBit t = m.testBit (q + t) := by
  rw [show (256 : Nat) = 2 ^ 8 from rfl, Nat.testBit_mod_two_pow, decide_eq_true ht, Bool.true_and, Nat.testBit_div_two_pow, Nat.add_comm]
theorem ofInt_bit (n : Int) (j : Nat) (hj : j < 64) : ((0#64) ++ (BitVec.ofInt 64 n)).getLsbD j = ((n % 18446744073709551616).toNat).testBit j := by
  rw [BitVec.getLsbD_append, if_pos hj, ← BitVec.testBit_toNat, BitVec.toNat_ofInt]
  rfl
theorem bitI0 (n : Int) (t : Nat) (ht : t < 8) : (byteI n).toNat.testBit t = ((0#64) ++ (BitVec.ofInt 64 n)).getLsbD t := by
  rw [byteI_nat, ofInt_bit n t (by omega)]
  have h := testBit_div ((n % 18446744073709551616).toNat) 0 t ht
  rw [Nat.zero_add] at h
  rw [← h]; congr 1; omega
theorem bitI1 (n : Int) (t : Nat) (ht : t < 8) : (byteI (n / 256)).toNat.testBit t = ((0#64) ++ (BitVec.ofInt 64 n)).getLsbD (8 + t) := by
  rw [byteI_nat, ofInt_bit n _ (by omega), ← testBit_div _ 8 t ht]; congr 1; omega
theorem bitI2 (n : Int) (t : Nat) (ht : t < 8) : (byteI (n / 65536)).toNat.testBit t = ((0#64) ++ (BitVec.ofInt 64 n)).getLsbD (16 + t) := by
  rw [byteI_nat, ofInt_bit n _ (by omega), ← testBit_div _ 16 t ht]; congr 1; omega
theorem bitI3 (n : Int) (t : Nat) (ht : t < 8) : (byteI (n / 16777216)).toNat.testBit t = ((0#64) ++ (BitVec.ofInt 64 n)).getLsbD (24 + t) := by
  rw [byteI_nat, ofInt_bit n _ (by omega), ← testBit_div _ 24 t ht]; congr 1; omega
def numB (n : Int) : Nat → List UInt8
  | 1 => [byteI n]
  | 2 => [byteI (n / 256), byteI n]
  | 4 => [byteI (n / 16777216), byteI (n / 65536), byteI (n / 256), byteI n]
  | _ => []
theorem num_bytes (n : Int) (size : Nat) (hs : size = 1 ∨ size = 2 ∨ size = 4) : bytesL (((bitsL 64 ((0#64) ++ (BitVec.ofInt 64 n))).take (8 * size)).reverse) = numB n size := by
  have hl : (((bitsL 64 ((0#64) ++ (BitVec.ofInt 64 n))).take (8 * size)).reverse).length = 8 * size := by
    rw [List.length_reverse, List.length_take, bitsL_len]; omega
  have hb : (bytesL (((bitsL 64 ((0#64) ++ (BitVec.ofInt 64 n))).take (8 * size)).reverse)).length = size := by rw [bytesL_len, hl]; omega
  have hn : (numB n size).length = size := by rcases hs with rfl | rfl | rfl <;> rfl
  refine bytes_ext (by rw [hb, hn]) (fun k hk => ?_)
  rw [hb] at hk
  rw [bytesL_bit _ _ (by rw [hb]; exact hk)]
  have e1 : (((bitsL 64 ((0#64) ++ (BitVec.ofInt 64 n))).take (8 * size)).reverse)[k]! = ((0#64) ++ (BitVec.ofInt 64 n)).getLsbD (8 * size - 1 - k) := by
    have hlt : (((bitsL 64 ((0#64) ++ (BitVec.ofInt 64 n))).take (8 * size))).length = 8 * size := by rw [List.length_take, bitsL_len]; omega
    rw [rev_get _ _ (by rw [hlt]; exact hk), hlt, get!_of_lt _ _ (by rw [hlt]; omega), List.getElem_take]
    have h2 := bitsL_get 64 ((0#64) ++ (BitVec.ofInt 64 n)) (8 * size - 1 - k)
    rw [get!_of_lt _ _ (by rw [bitsL_len]; omega)] at h2
    rw [h2, decide_eq_true (by omega), Bool.true_and]
  rw [e1]
  unfold bitAt
  have ht : 7 - k % 8 < 8 := by omega
  rcases hs with rfl | rfl | rfl
  · have hq : k / 8 = 0 := by omega
    rw [hq]
    show _ = (byteI n).toNat.testBit (7 - k % 8)
    rw [bitI0 n _ ht]; congr 1; omega
  · rcases (by omega : k / 8 = 0 ∨ k / 8 = 1) with hq | hq <;> rw [hq]
    · show _ = (byteI (n / 256)).toNat.testBit (7 - k % 8)
      rw [bitI1 n _ ht]; congr 1; omega
    · show _ = (byteI n).toNat.testBit (7 - k % 8)
      rw [bitI0 n _ ht]; congr 1; omega
  · rcases (by omega : k / 8 = 0 ∨ k / 8 = 1 ∨ k / 8 = 2 ∨ k / 8 = 3) with hq | hq | hq | hq <;> rw [hq]
    · show _ = (byteI (n / 16777216)).toNat.testBit (7 - k % 8)
      rw [bitI3 n _ ht]; congr 1; omega
    · show _ = (byteI (n / 65536)).toNat.testBit (7 - k % 8)
      rw [bitI2 n _ ht]; congr 1; omega
    · show _ = (byteI (n / 256)).toNat.testBit (7 - k % 8)
      rw [bitI1 n _ ht]; congr 1; omega
    · show _ = (byteI n).toNat.testBit (7 - k % 8)
      rw [bitI0 n _ ht]; congr 1; omega
theorem wnumber_s (N : Nat) (hN : 128 < N) (n : Int) (size : Nat) (hs : size = 1 ∨ size = 2 ∨ size = 4) : shunterref07_Number_m N n (size : Int) = some (numB n size) := by
  have hl : (bitsL 64 ((0#64) ++ (BitVec.ofInt 64 n))).length = 64 := bitsL_len _ _
  have hb := bits_s N 64 ((0#64) ++ (BitVec.ofInt 64 n)) hN (by decide) (by decide)
  have hb' : shunterref02_Bits_m N 64 ((0#64) ++ (BitVec.ofInt 64 n)) = some (bitsL 64 ((0#64) ++ (BitVec.ofInt 64 n))) := hb
  unfold shunterref07_Number_m
  rw [hb', Option.bind_some, ck_pos _ (by omega), ck_pos _ (by omega)]
  have e : (8 * (size : Int)) - 1 = ((8 * size : Nat) : Int) - 1 := by omega
  have hr : (((bitsL 64 ((0#64) ++ (BitVec.ofInt 64 n))).take (8 * size)).reverse).length = 8 * size := by rw [List.length_reverse, List.length_take, bitsL_len]; omega
  rw [e, wn_loop N _ (by rw [hl]; decide) (8 * size) N [] (by rw [hl]; omega) (by omega) (by simp; omega), List.nil_append, rbytes_s N _ (by omega) (by rw [hr]; omega) (by rw [hr]; omega), Option.bind_some, num_bytes n size hs]
/-- a row's bytes -/
def vecB (w : Int) (x : BitVec 128) : List UInt8 := byteI w :: bytesL (List.replicate ((8 - w.toNat % 8) % 8) false ++ highB w x)
theorem wv_loop (N : Nat) (hN : 128 < N) (w : Nat) (x : BitVec 128) (hw : 1 ≤ w ∧ w ≤ 128) : ∀ (k f i : Nat), i + k = (8 - w % 8) % 8 → k < f → shunterref07_Vec_l2 N (w : Int) x f (List.replicate i false) = some (vecB (w : Int) x) := by
  intro k
  induction k with
  | zero =>
    intro f i hi hf
    obtain ⟨f, rfl⟩ : ∃ n, f = n + 1 := ⟨f - 1, by omega⟩
    have hh : (highB (w : Int) x).length = w := by rw [highB_len, Int.toNat_natCast]
    rw [shunterref07_Vec_l2, List.length_replicate, ck_pos _ (by omega), ck_pos _ (by omega), if_neg (by omega), rof_s N hN _ _ (by omega) (by omega), Option.bind_some, ck_pos _ (by rw [hh]; omega)]
    have hl : (List.replicate i false ++ highB (w : Int) x).length = i + w := by rw [List.length_append, List.length_replicate, hh]
    rw [rbytes_s N _ (by omega) (by rw [hl]; omega) (by rw [hl]; omega), Option.bind_some, ck_pos _ (by rw [bytesL_len, hl]; simp only [List.length_singleton]; omega)]
    unfold vecB
    rw [Int.toNat_natCast, ← hi]; rfl
  | succ k ih =>
    intro f i hi hf
    obtain ⟨f, rfl⟩ : ∃ n, f = n + 1 := ⟨f - 1, by omega⟩
    rw [shunterref07_Vec_l2, List.length_replicate, ck_pos _ (by omega), ck_pos _ (by omega), if_pos (by omega), ck_pos _ (by simp only [List.length_singleton]; omega), show List.replicate i false ++ [false] = List.replicate (i + 1) false from by rw [List.replicate_succ'], ih f (i + 1) (by omega) (by omega)]
theorem wvec_s (N : Nat) (hN : 128 < N) (w : Int) (x : BitVec 128) : shunterref07_Vec_m N w x = some (if mayB w x = true then vecB w x else [0]) := by
  unfold shunterref07_Vec_m
  rw [rmay_s, Option.bind_some]
  by_cases h : mayB w x = true
  · obtain ⟨h1, h2, _⟩ := may_w h
    obtain ⟨n, rfl⟩ : ∃ n : Nat, w = (n : Int) := ⟨w.toNat, by omega⟩
    rw [if_pos h, if_pos h]
    exact wv_loop N hN n x (by omega) ((8 - n % 8) % 8) N 0 (by omega) (by omega)
  · rw [if_neg h, if_neg h]
end Go.Proofs.Ytdgejbbelmhbdaa
