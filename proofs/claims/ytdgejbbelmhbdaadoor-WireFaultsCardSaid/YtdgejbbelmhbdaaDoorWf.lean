/- Layer 7: the law of faults. Conditions: none. Program: Tryd. -/
import Derived.Test.YtdgejbbelmhbdaaDoorTeP
import Derived.Test.YtdgejbbelmhbdaaDoorLWireFaults
namespace Go.Proofs.YtdgejbbelmhbdaaDoor
open Go Go.RowKit Go.Eng
theorem dch10 : ∀ d : Nat, d < 10 → dch d = UInt8.ofNat (48 + d) := by decide
theorem dec_text : ∀ (k n : Nat), 1 ≤ k → n < 10 ^ k → textL 10 k n = Lib.decDigits n
  | 0, _, h, _ => absurd h (by decide)
  | k + 1, n, _, h => by
    rw [textL, Lib.decDigits]
    by_cases h10 : n < 10
    · rw [dif_pos h10, if_pos (Nat.div_eq_of_lt h10), Nat.mod_eq_of_lt h10, dch10 n h10]
    · have hk : 1 ≤ k := by
        refine Nat.one_le_iff_ne_zero.2 fun e => ?_
        subst e; exact h10 (by simpa using h)
      have hd : n / 10 < 10 ^ k := Nat.div_lt_of_lt_mul (by rw [Nat.pow_succ] at h; omega)
      rw [dif_neg h10, if_neg (by omega), dec_text k (n / 10) hk hd, dch10 _ (Nat.mod_lt _ (by decide))]
theorem itoa_s {n : Int} (h0 : 0 ≤ n) (h1 : n ≤ 9223372036854775807) : Lib.itoa n = textL 10 128 n.toNat := by
  unfold Lib.itoa
  rw [if_neg (by omega), dec_text 128 n.toNat (by decide) (Nat.lt_of_lt_of_le (show n.toNat < 9223372036854775808 by omega) (by decide))]
theorem i0 : Lib.itoa 0 = [48] := (itoa_s (by decide) (by decide)).trans (by decide +kernel)
theorem i1 : Lib.itoa 1 = [49] := (itoa_s (by decide) (by decide)).trans (by decide +kernel)
theorem i3 : Lib.itoa 3 = [51] := (itoa_s (by decide) (by decide)).trans (by decide +kernel)
theorem i5 : Lib.itoa 5 = [53] := (itoa_s (by decide) (by decide)).trans (by decide +kernel)
theorem d0 : shunterlaw07_digits_m 4000 0 = some [48] := by decide +kernel
theorem d1 : shunterlaw07_digits_m 4000 1 = some [49] := by decide +kernel
theorem d3 : shunterlaw07_digits_m 4000 3 = some [51] := by decide +kernel
theorem d5 : shunterlaw07_digits_m 4000 5 = some [53] := by decide +kernel
theorem e30 : wire_Fault_Error_v2_m 4000 3 0 = some [102, 97, 117, 108, 116, 32, 51, 32, 97, 116, 32, 98, 121, 116, 101, 32, 48] := by
  unfold wire_Fault_Error_v2_m
  rw [i3, i0]; rfl
theorem e51 : wire_Fault_Error_v2_m 4000 5 1 = some [102, 97, 117, 108, 116, 32, 53, 32, 97, 116, 32, 98, 121, 116, 101, 32, 49] := by
  unfold wire_Fault_Error_v2_m
  rw [i5, i1]; rfl
theorem lives_s : shunterlaw07_lives_m 4000 = some true := by decide +kernel
theorem word1 : ∀ n : Nat, n < 256 → wire_wordOf_m 4000 [UInt8.ofNat n] = some (BitVec.ofNat 128 n) := by decide +kernel
theorem byte_s (c : UInt8) (t : List UInt8) (ht : t.length ≤ 1000) : wire_Reader_Byte_v2_m 4000 (c :: t) 0 0 255 = some ((c.toNat : Int), c :: t, 1, 0) := by
  have hc := c.toNat_lt
  have hw : wire_wordOf_m 4000 [c] = some (BitVec.ofNat 128 c.toNat) := by
    have := word1 c.toNat hc
    rwa [UInt8.ofNat_toNat] at this
  have hl : (lo (BitVec.ofNat 128 c.toNat)).toNat = c.toNat := by
    unfold lo
    simp only [BitVec.extractLsb'_toNat, BitVec.toNat_ofNat, Nat.shiftRight_zero]
    omega
  have hlen : (((c :: t).length : Nat) : Int) = (t.length : Int) + 1 := by rw [List.length_cons]; omega
  have h1 : wire_Reader_number_1_v1_m 4000 (c :: t) 1 255 7 = some ((c.toNat : Int), 1, 0) := by
    unfold wire_Reader_number_1_v1_m
    rw [hlen, if_neg (by omega), ck_pos _ (by omega), show ((c :: t).take ((1 : Int)).toNat).drop 0 = [c] from rfl, hw, Option.bind_some, hl, ck_pos _ (by omega), if_neg (by omega)]
  unfold wire_Reader_Byte_v2_m wire_Reader_number_v3_m wire_take_int__v3_m wire_Reader_Bad_v2_m
  rw [Option.bind_some, if_neg (by decide), ck_pos _ (by rw [hlen]; omega), List.take_length, show (c :: t).drop ((0 : Int)).toNat = c :: t from rfl, h1, Option.bind_some, if_neg (show ¬ (0 : Int) ≠ 0 by decide), ck_pos _ (show (-9223372036854775808 : Int) ≤ 0 + 1 ∧ (0 : Int) + 1 ≤ 9223372036854775807 by decide), Option.bind_some, ck_pos _ rfl, Option.bind_some, ck_pos _ rfl]
  rfl
theorem read_s (b : List UInt8) (hb : b.length ≤ 1000) : wire_Read_m 4000 b = some (b, 0, 0) := by
  unfold wire_Read_m slices_Clone___byte_byte__m
  rw [ck_pos _ (by simp only [List.length_nil]; omega), List.nil_append]; rfl
theorem k5_30 (b : List UInt8) (n r43 : Int) (r46 : List UInt8 × Int × Int) : shunterlaw07_WireFaults_k5 4000 b n r43 r46 3 0 = shunterlaw07_WireFaults_k6 4000 b n r43 r46 3 0 := by
  unfold shunterlaw07_WireFaults_k5
  rw [show wire_Fault_Error_v1_m 4000 = some [] from rfl, Option.bind_some, if_neg (fun h => h rfl), e30, Option.bind_some, d3, Option.bind_some, ck_pos _ (by decide), ck_pos _ (by decide), d0, Option.bind_some, ck_pos _ (by decide), if_neg (fun h => h rfl)]
theorem k5_51 (b : List UInt8) (n r43 : Int) (r46 : List UInt8 × Int × Int) : shunterlaw07_WireFaults_k5 4000 b n r43 r46 5 1 = shunterlaw07_WireFaults_k6 4000 b n r43 r46 5 1 := by
  unfold shunterlaw07_WireFaults_k5
  rw [show wire_Fault_Error_v1_m 4000 = some [] from rfl, Option.bind_some, if_neg (fun h => h rfl), e51, Option.bind_some, d5, Option.bind_some, ck_pos _ (by decide), ck_pos _ (by decide), d1, Option.bind_some, ck_pos _ (by decide), if_neg (fun h => h rfl)]
theorem nB : wire_Reader_Byte_v2_m 4000 [] 0 0 255 = some (0, [], 0, 3) := by decide +kernel
theorem nF : wire_Reader_Fail_v2_m 4000 [] 0 3 5 = some ([], 0, 3) := by decide +kernel
theorem nO (e a : Int) : wire_Only_v1_m 4000 e a = some () := by unfold wire_Only_v1_m wire_mustFault_v1_m; exact Eq.refl _
theorem on44 {β : Type} (a : β) (f : Int → Int → β) (x y : Int) : Sum30.on (.t44 x y) a f = f x y := rfl
theorem k6_30 (n r43 : Int) (r46 : List UInt8 × Int × Int) (N : Nat) (hl : shunterlaw07_lives_m N = some true) (hO : wire_Only_v1_m N 3 0 = some ()) : shunterlaw07_WireFaults_k6 N [] n r43 r46 3 0 = some true := by
  unfold shunterlaw07_WireFaults_k6
  rw [hO, Option.bind_some, if_pos (show ((([] : List UInt8).length : Nat) : Int) = 0 by decide), if_pos rfl, if_pos rfl, if_pos rfl, hl, Option.bind_some]
theorem k6_51 (N : Nat) (c : UInt8) (t : List UInt8) (n : Int) (hl : shunterlaw07_lives_m N = some true) (hO : wire_Only_v1_m N 5 1 = some ()) (hB : wire_Reader_Byte_v2_m N (c :: t) 1 5 n = some (0, c :: t, 1, 5)) (hA : wire_Reader_At_v2_m N (c :: t) 1 5 = some 1) : shunterlaw07_WireFaults_k6 N (c :: t) n 1 (c :: t, 1, 5) 5 1 = some true := by
  unfold shunterlaw07_WireFaults_k6
  rw [hO, Option.bind_some, if_neg (by rw [List.length_cons]; omega), if_pos rfl, if_pos rfl, if_pos rfl, if_pos rfl, hB, Option.bind_some, ck_pos _ rfl, if_pos rfl, hA, Option.bind_some, if_pos rfl, hl, Option.bind_some]
theorem k4_nil (N : Nat) (n : Int) (hR : wire_Read_m N [] = some ([], 0, 0)) (h1 : wire_Reader_Byte_v2_m N [] 0 0 255 = some (0, [], 0, 3)) (h2 : wire_Reader_At_v2_m N [] 0 3 = some 0) (h3 : wire_Reader_Fail_v2_m N [] 0 3 5 = some ([], 0, 3)) (h4 : wire_Reader_End_v2_m N [] 0 3 = some (.t44 3 0))
    (h5 : shunterlaw07_WireFaults_k5 N [] n 0 ([], 0, 3) 3 0 = some true) : shunterlaw07_WireFaults_k4 N [] n = some true := by
  unfold shunterlaw07_WireFaults_k4
  rw [hR, Option.bind_some, h1, Option.bind_some, ck_pos _ rfl, h2, Option.bind_some, h3, Option.bind_some, ck_pos _ rfl, h4, Option.bind_some]
  rw [on44]
  exact h5
theorem k4_cons (N : Nat) (c : UInt8) (t : List UInt8) (v n : Int) (hR : wire_Read_m N (c :: t) = some (c :: t, 0, 0)) (h1 : wire_Reader_Byte_v2_m N (c :: t) 0 0 255 = some (v, c :: t, 1, 0)) (h2 : wire_Reader_At_v2_m N (c :: t) 1 0 = some 1) (h3 : wire_Reader_Fail_v2_m N (c :: t) 1 0 5 = some (c :: t, 1, 5)) (h4 : wire_Reader_End_v2_m N (c :: t) 1 5 = some (.t44 5 1))
    (h5 : shunterlaw07_WireFaults_k5 N (c :: t) n 1 (c :: t, 1, 5) 5 1 = some true) : shunterlaw07_WireFaults_k4 N (c :: t) n = some true := by
  unfold shunterlaw07_WireFaults_k4
  rw [hR, Option.bind_some, h1, Option.bind_some, ck_pos _ rfl, h2, Option.bind_some, h3, Option.bind_some, ck_pos _ rfl, h4, Option.bind_some]
  rw [on44]
  exact h5
theorem at_s (N : Nat) (r : List UInt8) (a e : Int) : wire_Reader_At_v2_m N r a e = some a := by unfold wire_Reader_At_v2_m; exact Eq.refl _
theorem fail_s (N : Nat) (r : List UInt8) (a : Int) : wire_Reader_Fail_v2_m N r a 0 5 = some (r, a, 5) := by unfold wire_Reader_Fail_v2_m wire_spot_fail_v2_m; rw [if_pos rfl, Option.bind_some, ck_pos _ rfl]
theorem end_s (N : Nat) (r : List UInt8) (a e : Int) (he : e ≠ 0) : wire_Reader_End_v2_m N r a e = some (.t44 e a) := by unfold wire_Reader_End_v2_m; rw [if_pos he]
theorem bad_s (N : Nat) (r : List UInt8) (n : Int) : wire_Reader_Byte_v2_m N r 1 5 n = some (0, r, 1, 5) := by
  unfold wire_Reader_Byte_v2_m wire_Reader_number_v3_m wire_take_int__v3_m wire_Reader_Bad_v2_m
  rw [Option.bind_some, if_pos (by decide), Option.bind_some, ck_pos _ rfl, Option.bind_some, ck_pos _ rfl]
theorem k4_s (b : List UInt8) (hb : b.length ≤ 500) (n : Int) : shunterlaw07_WireFaults_k4 4000 b n = some true := by
  cases b with
  | nil => exact k4_nil 4000 n (read_s [] (by decide)) nB (at_s _ _ _ _) nF (end_s _ _ _ _ (by decide)) ((k5_30 _ _ _ _).trans (k6_30 _ _ _ _ lives_s (nO 3 0)))
  | cons c t =>
    rw [List.length_cons] at hb
    exact k4_cons 4000 c t _ n (read_s _ (by rw [List.length_cons]; omega)) (byte_s c t (by omega)) (at_s _ _ _ _) (fail_s _ _ _) (end_s _ _ _ _ (by decide)) ((k5_51 _ _ _ _).trans (k6_51 _ c t n lives_s (nO 5 1) (bad_s _ _ _) (at_s _ _ _ _)))
theorem faults_s (b : List UInt8) (n : Int) : shunterlaw07_WireFaults_m 4000 b n = some true := by
  unfold shunterlaw07_WireFaults_m
  by_cases hb : ((b.length : Int) : Int) > 500
  · rw [if_pos hb, lives_s]; rfl
  · have hk := k4_s b (by omega) n
    rw [if_neg hb, show wire_Reader_Fail_v1_m 4000 4 = some () from rfl, Option.bind_some, show wire_Reader_Bad_v1_m 4000 = some true from rfl, Option.bind_some, if_pos rfl, show wire_Reader_End_v1_m 4000 = some (.t44 1 0) from rfl, Option.bind_some, on44, show wire_Why_v2_m 4000 1 0 = some (1, 0) from rfl, Option.bind_some, show wire_Reader_Byte_v1_m 4000 9 = some 0 from rfl, Option.bind_some, if_neg (show ¬ (0 : Int) ≠ 0 by decide), show wire_Reader_Two_v1_m 4000 9 = some 0 from rfl, Option.bind_some, if_neg (show ¬ (0 : Int) ≠ 0 by decide), show wire_Reader_Four_v1_m 4000 9 = some 0 from rfl, Option.bind_some, if_neg (show ¬ (0 : Int) ≠ 0 by decide), show wire_Reader_Vec_v1_m 4000 = some (0, (0#64) ++ (0#64)) from rfl, Option.bind_some, if_pos (by decide), show wire_Reader_Name_v1_m 4000 = some [] from rfl, Option.bind_some, if_neg (fun h => h rfl), show wire_Reader_Vecs_v1_m 4000 9 = some [] from rfl, Option.bind_some, show wire_Reader_Numbers_v1_m 4000 9 9 = some [] from rfl, Option.bind_some, ck_pos _ (by decide), show wire_Reader_At_v1_m 4000 = some 0 from rfl, Option.bind_some, ck_pos _ (by decide), show wire_Reader_Left_v1_m 4000 = some 0 from rfl, Option.bind_some, ck_pos _ (by decide), if_neg (by decide), if_neg (by decide), if_neg (by decide)]
    exact hk
end Go.Proofs.YtdgejbbelmhbdaaDoor
