/- models of functions and their walks -/
import Derived.Test.YtomcfndpnnjihaaDoorVc
namespace Go.Proofs.YtomcfndpnnjihaaDoor
open Go Go.RowKit Go.Eng
def shunterlaw02_VecTwos_m (N : Nat) (a_0 : Int) (a_1 : BitVec 128) (b_0 : Int) (b_1 : BitVec 128) : Option (Bool) := (vec_Add_m N (a_0) (a_1) (b_0) (b_1)).bind fun r9 => (vec_Sub_m N (a_0) (a_1) (b_0) (b_1)).bind fun r12 => (vec_AddSat_m N (a_0) (a_1) (b_0) (b_1)).bind fun r15 => (vec_SubSat_m N (a_0) (a_1) (b_0) (b_1)).bind fun r18 => (vec_And_m N (a_0) (a_1) (b_0) (b_1)).bind fun r21 => (vec_Or_m N (a_0) (a_1) (b_0) (b_1)).bind fun r24 => (vec_Xor_m N (a_0) (a_1) (b_0) (b_1)).bind fun r27 => (vec_Eq_m N (a_0) (a_1) (b_0) (b_1)).bind fun r30 => (vec_Less_m N (a_0) (a_1) (b_0) (b_1)).bind fun r33 => ck (0 ≤ (0 : Int) ∧ (0 : Int) < (([([97, 100, 100] : List UInt8), ([115, 117, 98] : List UInt8), ([97, 100, 100, 115, 97, 116] : List UInt8), ([115, 117, 98, 115, 97, 116] : List UInt8), ([97, 110, 100] : List UInt8), ([111, 114] : List UInt8), ([120, 111, 114] : List UInt8), ([101, 113] : List UInt8), ([108, 101, 115, 115] : List UInt8)]).length : Int)) ((shunterref02_Two_m N (([([97, 100, 100] : List UInt8), ([115, 117, 98] : List UInt8), ([97, 100, 100, 115, 97, 116] : List UInt8), ([115, 117, 98, 115, 97, 116] : List UInt8), ([97, 110, 100] : List UInt8), ([111, 114] : List UInt8), ([120, 111, 114] : List UInt8), ([101, 113] : List UInt8), ([108, 101, 115, 115] : List UInt8)])[((0 : Int)).toNat]!) (a_0) (a_1) (b_0) (b_1)).bind fun r47 => if (((r9.1) == (r47.1)) && ((r9.2.1) == (r47.2.1))) = true then if (r9.2.2 : Int) ≠ r47.2.2 then some (false) else ck (0 ≤ (1 : Int) ∧ (1 : Int) < (([([97, 100, 100] : List UInt8), ([115, 117, 98] : List UInt8), ([97, 100, 100, 115, 97, 116] : List UInt8), ([115, 117, 98, 115, 97, 116] : List UInt8), ([97, 110, 100] : List UInt8), ([111, 114] : List UInt8), ([120, 111, 114] : List UInt8), ([101, 113] : List UInt8), ([108, 101, 115, 115] : List UInt8)]).length : Int)) ((shunterref02_Two_m N (([([97, 100, 100] : List UInt8), ([115, 117, 98] : List UInt8), ([97, 100, 100, 115, 97, 116] : List UInt8), ([115, 117, 98, 115, 97, 116] : List UInt8), ([97, 110, 100] : List UInt8), ([111, 114] : List UInt8), ([120, 111, 114] : List UInt8), ([101, 113] : List UInt8), ([108, 101, 115, 115] : List UInt8)])[((1 : Int)).toNat]!) (a_0) (a_1) (b_0) (b_1)).bind fun r60 => if (((r12.1) == (r60.1)) && ((r12.2.1) == (r60.2.1))) = true then if (r12.2.2 : Int) ≠ r60.2.2 then some (false) else ck (0 ≤ (2 : Int) ∧ (2 : Int) < (([([97, 100, 100] : List UInt8), ([115, 117, 98] : List UInt8), ([97, 100, 100, 115, 97, 116] : List UInt8), ([115, 117, 98, 115, 97, 116] : List UInt8), ([97, 110, 100] : List UInt8), ([111, 114] : List UInt8), ([120, 111, 114] : List UInt8), ([101, 113] : List UInt8), ([108, 101, 115, 115] : List UInt8)]).length : Int)) ((shunterref02_Two_m N (([([97, 100, 100] : List UInt8), ([115, 117, 98] : List UInt8), ([97, 100, 100, 115, 97, 116] : List UInt8), ([115, 117, 98, 115, 97, 116] : List UInt8), ([97, 110, 100] : List UInt8), ([111, 114] : List UInt8), ([120, 111, 114] : List UInt8), ([101, 113] : List UInt8), ([108, 101, 115, 115] : List UInt8)])[((2 : Int)).toNat]!) (a_0) (a_1) (b_0) (b_1)).bind fun r73 => if (((r15.1) == (r73.1)) && ((r15.2.1) == (r73.2.1))) = true then if (r15.2.2 : Int) ≠ r73.2.2 then some (false) else ck (0 ≤ (3 : Int) ∧ (3 : Int) < (([([97, 100, 100] : List UInt8), ([115, 117, 98] : List UInt8), ([97, 100, 100, 115, 97, 116] : List UInt8), ([115, 117, 98, 115, 97, 116] : List UInt8), ([97, 110, 100] : List UInt8), ([111, 114] : List UInt8), ([120, 111, 114] : List UInt8), ([101, 113] : List UInt8), ([108, 101, 115, 115] : List UInt8)]).length : Int)) ((shunterref02_Two_m N (([([97, 100, 100] : List UInt8), ([115, 117, 98] : List UInt8), ([97, 100, 100, 115, 97, 116] : List UInt8), ([115, 117, 98, 115, 97, 116] : List UInt8), ([97, 110, 100] : List UInt8), ([111, 114] : List UInt8), ([120, 111, 114] : List UInt8), ([101, 113] : List UInt8), ([108, 101, 115, 115] : List UInt8)])[((3 : Int)).toNat]!) (a_0) (a_1) (b_0) (b_1)).bind fun r86 => if (((r18.1) == (r86.1)) && ((r18.2.1) == (r86.2.1))) = true then if (r18.2.2 : Int) ≠ r86.2.2 then some (false) else ck (0 ≤ (4 : Int) ∧ (4 : Int) < (([([97, 100, 100] : List UInt8), ([115, 117, 98] : List UInt8), ([97, 100, 100, 115, 97, 116] : List UInt8), ([115, 117, 98, 115, 97, 116] : List UInt8), ([97, 110, 100] : List UInt8), ([111, 114] : List UInt8), ([120, 111, 114] : List UInt8), ([101, 113] : List UInt8), ([108, 101, 115, 115] : List UInt8)]).length : Int)) ((shunterref02_Two_m N (([([97, 100, 100] : List UInt8), ([115, 117, 98] : List UInt8), ([97, 100, 100, 115, 97, 116] : List UInt8), ([115, 117, 98, 115, 97, 116] : List UInt8), ([97, 110, 100] : List UInt8), ([111, 114] : List UInt8), ([120, 111, 114] : List UInt8), ([101, 113] : List UInt8), ([108, 101, 115, 115] : List UInt8)])[((4 : Int)).toNat]!) (a_0) (a_1) (b_0) (b_1)).bind fun r99 => if (((r21.1) == (r99.1)) && ((r21.2.1) == (r99.2.1))) = true then if (r21.2.2 : Int) ≠ r99.2.2 then some (false) else ck (0 ≤ (5 : Int) ∧ (5 : Int) < (([([97, 100, 100] : List UInt8), ([115, 117, 98] : List UInt8), ([97, 100, 100, 115, 97, 116] : List UInt8), ([115, 117, 98, 115, 97, 116] : List UInt8), ([97, 110, 100] : List UInt8), ([111, 114] : List UInt8), ([120, 111, 114] : List UInt8), ([101, 113] : List UInt8), ([108, 101, 115, 115] : List UInt8)]).length : Int)) ((shunterref02_Two_m N (([([97, 100, 100] : List UInt8), ([115, 117, 98] : List UInt8), ([97, 100, 100, 115, 97, 116] : List UInt8), ([115, 117, 98, 115, 97, 116] : List UInt8), ([97, 110, 100] : List UInt8), ([111, 114] : List UInt8), ([120, 111, 114] : List UInt8), ([101, 113] : List UInt8), ([108, 101, 115, 115] : List UInt8)])[((5 : Int)).toNat]!) (a_0) (a_1) (b_0) (b_1)).bind fun r112 => if (((r24.1) == (r112.1)) && ((r24.2.1) == (r112.2.1))) = true then if (r24.2.2 : Int) ≠ r112.2.2 then some (false) else ck (0 ≤ (6 : Int) ∧ (6 : Int) < (([([97, 100, 100] : List UInt8), ([115, 117, 98] : List UInt8), ([97, 100, 100, 115, 97, 116] : List UInt8), ([115, 117, 98, 115, 97, 116] : List UInt8), ([97, 110, 100] : List UInt8), ([111, 114] : List UInt8), ([120, 111, 114] : List UInt8), ([101, 113] : List UInt8), ([108, 101, 115, 115] : List UInt8)]).length : Int)) ((shunterref02_Two_m N (([([97, 100, 100] : List UInt8), ([115, 117, 98] : List UInt8), ([97, 100, 100, 115, 97, 116] : List UInt8), ([115, 117, 98, 115, 97, 116] : List UInt8), ([97, 110, 100] : List UInt8), ([111, 114] : List UInt8), ([120, 111, 114] : List UInt8), ([101, 113] : List UInt8), ([108, 101, 115, 115] : List UInt8)])[((6 : Int)).toNat]!) (a_0) (a_1) (b_0) (b_1)).bind fun r125 => if (((r27.1) == (r125.1)) && ((r27.2.1) == (r125.2.1))) = true then if (r27.2.2 : Int) ≠ r125.2.2 then some (false) else ck (0 ≤ (7 : Int) ∧ (7 : Int) < (([([97, 100, 100] : List UInt8), ([115, 117, 98] : List UInt8), ([97, 100, 100, 115, 97, 116] : List UInt8), ([115, 117, 98, 115, 97, 116] : List UInt8), ([97, 110, 100] : List UInt8), ([111, 114] : List UInt8), ([120, 111, 114] : List UInt8), ([101, 113] : List UInt8), ([108, 101, 115, 115] : List UInt8)]).length : Int)) ((shunterref02_Two_m N (([([97, 100, 100] : List UInt8), ([115, 117, 98] : List UInt8), ([97, 100, 100, 115, 97, 116] : List UInt8), ([115, 117, 98, 115, 97, 116] : List UInt8), ([97, 110, 100] : List UInt8), ([111, 114] : List UInt8), ([120, 111, 114] : List UInt8), ([101, 113] : List UInt8), ([108, 101, 115, 115] : List UInt8)])[((7 : Int)).toNat]!) (a_0) (a_1) (b_0) (b_1)).bind fun r138 => if (((r30.1) == (r138.1)) && ((r30.2.1) == (r138.2.1))) = true then if (r30.2.2 : Int) ≠ r138.2.2 then some (false) else ck (0 ≤ (8 : Int) ∧ (8 : Int) < (([([97, 100, 100] : List UInt8), ([115, 117, 98] : List UInt8), ([97, 100, 100, 115, 97, 116] : List UInt8), ([115, 117, 98, 115, 97, 116] : List UInt8), ([97, 110, 100] : List UInt8), ([111, 114] : List UInt8), ([120, 111, 114] : List UInt8), ([101, 113] : List UInt8), ([108, 101, 115, 115] : List UInt8)]).length : Int)) ((shunterref02_Two_m N (([([97, 100, 100] : List UInt8), ([115, 117, 98] : List UInt8), ([97, 100, 100, 115, 97, 116] : List UInt8), ([115, 117, 98, 115, 97, 116] : List UInt8), ([97, 110, 100] : List UInt8), ([111, 114] : List UInt8), ([120, 111, 114] : List UInt8), ([101, 113] : List UInt8), ([108, 101, 115, 115] : List UInt8)])[((8 : Int)).toNat]!) (a_0) (a_1) (b_0) (b_1)).bind fun r151 => if (((r33.1) == (r151.1)) && ((r33.2.1) == (r151.2.1))) = true then if (r33.2.2 : Int) ≠ r151.2.2 then some (false) else (shunterlaw02_lives_m N ).bind fun r162 => some (r162) else some (false)) else some (false)) else some (false)) else some (false)) else some (false)) else some (false)) else some (false)) else some (false)) else some (false))
set_option maxRecDepth 100000 in
set_option maxHeartbeats 40000000 in
theorem shunterlaw02_VecTwos_g (N : Nat) (a_0 : Int) (a_1 : BitVec 128) (b_0 : Int) (b_1 : BitVec 128) (r : Bool) (hM : shunterlaw02_VecTwos_m N a_0 a_1 b_0 b_1 = some r) : Gives Tryd.prog 4 #[Value.agg #[Value.int .i64 (a_0), U (hi (a_1)), U (lo (a_1))], Value.agg #[Value.int .i64 (b_0), U (hi (b_1)), U (lo (b_1))]] (Value.bool (r)) := by
  unfold shunterlaw02_VecTwos_m at hM
  refine gives_of_A follows Tryd.func4 rfl 111 rfl (upd (upd (fun _ => undef) 1 (Value.agg #[Value.int .i64 (b_0), U (hi (b_1)), U (lo (b_1))])) 0 (Value.agg #[Value.int .i64 (a_0), U (hi (a_1)), U (lo (a_1))])) (by funext k; match k with | 0 => rfl | 1 => rfl | k + 2 => rfl) (fun base0_ => ?_)
  refine A_seq fun K1 hK1 => ?_
  refine A_reg ?_
  refine r_a (24, #[Value.int .i64 (a_0), U (hi (a_1)), U (lo (a_1))]) rfl rfl rfl (fun b2 => ?_) (.inr rfl)
  refine r_a (24, #[Value.int .i64 (b_0), U (hi (b_1)), U (lo (b_1))]) rfl rfl rfl (fun b3 => ?_) (.inr rfl)
  refine r_v (Value.bool (false)) rfl rfl rfl rfl ?_
  refine lx_nil ?_
  refine hK1 _ _ ?_; try clear hK1 K1
  refine A_seq fun K4 hK4 => ?_
  refine A_reg ?_
  refine r_a (39, #[Value.int .i64 (0), U (0#64), U (0#64), Value.int .i64 (0), U (0#64), U (0#64), Value.int .i64 (0), U (0#64), U (0#64), Value.int .i64 (0), U (0#64), U (0#64), Value.int .i64 (0), U (0#64), U (0#64), Value.int .i64 (0), U (0#64), U (0#64), Value.int .i64 (0), U (0#64), U (0#64), Value.int .i64 (0), U (0#64), U (0#64), Value.int .i64 (0), U (0#64), U (0#64)]) rfl rfl rfl (fun b5 => ?_) (.inr rfl)
  refine lx_nil ?_
  refine hK4 _ _ ?_; try clear hK4 K4
  refine A_seq fun K6 hK6 => ?_
  refine A_reg ?_
  refine r_a (40, #[Value.int .i64 (0), Value.int .i64 (0), Value.int .i64 (0), Value.int .i64 (0), Value.int .i64 (0), Value.int .i64 (0), Value.int .i64 (0), Value.int .i64 (0), Value.int .i64 (0)]) rfl rfl rfl (fun b7 => ?_) (.inr rfl)
  refine lx_nil ?_
  refine hK6 _ _ ?_; try clear hK6 K6
  refine A_seq fun K8 hK8 => ?_
  refine A_reg ?_
  refine r_l (Value.agg #[Value.int .i64 (a_0), U (hi (a_1)), U (lo (a_1))]) 3 _ _ _ _ rfl rfl rfl rfl rfl ?_
  refine r_l (Value.agg #[Value.int .i64 (b_0), U (hi (b_1)), U (lo (b_1))]) 2 _ _ _ _ rfl rfl rfl rfl rfl ?_
  replace hM := bind_sm hM; obtain ⟨r9, hr10, hM⟩ := hM
  refine r_c (Value.tuple #[Value.agg #[Value.int .i64 (r9.1), U (hi (r9.2.1)), U (lo (r9.2.1))], Value.int .i64 (r9.2.2)]) rfl _ _ (ev_callF rfl call_19 rfl) (vec_Add_g N (a_0) (a_1) (b_0) (b_1) _ hr10) ?_
  refine r_v (Value.tuple #[Value.agg #[Value.int .i64 (r9.1), U (hi (r9.2.1)), U (lo (r9.2.1))], Value.int .i64 (r9.2.2)]) rfl rfl rfl rfl ?_
  refine r_v (Value.agg #[Value.int .i64 (r9.1), U (hi (r9.2.1)), U (lo (r9.2.1))]) rfl rfl rfl rfl ?_
  refine r_v (Value.int .i64 (r9.2.2)) rfl rfl rfl rfl ?_
  refine r_v (Value.pointer (some ⟨b5, 0, none⟩)) rfl rfl rfl rfl ?_
  refine r_s [(b7, 40, #[Value.int .i64 (0), Value.int .i64 (0), Value.int .i64 (0), Value.int .i64 (0), Value.int .i64 (0), Value.int .i64 (0), Value.int .i64 (0), Value.int .i64 (0), Value.int .i64 (0)]), (b5, 39, #[Value.int .i64 (r9.1), U (hi (r9.2.1)), U (lo (r9.2.1)), Value.int .i64 (0), U (0#64), U (0#64), Value.int .i64 (0), U (0#64), U (0#64), Value.int .i64 (0), U (0#64), U (0#64), Value.int .i64 (0), U (0#64), U (0#64), Value.int .i64 (0), U (0#64), U (0#64), Value.int .i64 (0), U (0#64), U (0#64), Value.int .i64 (0), U (0#64), U (0#64), Value.int .i64 (0), U (0#64), U (0#64)]), (b3, 24, #[Value.int .i64 (b_0), U (hi (b_1)), U (lo (b_1))]), (b2, 24, #[Value.int .i64 (a_0), U (hi (a_1)), U (lo (a_1))])] 1 _ _ _ (#[Value.int .i64 (0), U (0#64), U (0#64), Value.int .i64 (0), U (0#64), U (0#64), Value.int .i64 (0), U (0#64), U (0#64), Value.int .i64 (0), U (0#64), U (0#64), Value.int .i64 (0), U (0#64), U (0#64), Value.int .i64 (0), U (0#64), U (0#64), Value.int .i64 (0), U (0#64), U (0#64), Value.int .i64 (0), U (0#64), U (0#64), Value.int .i64 (0), U (0#64), U (0#64)]) (#[Value.int .i64 (r9.1), U (hi (r9.2.1)), U (lo (r9.2.1))]) (#[Value.int .i64 (r9.1), U (hi (r9.2.1)), U (lo (r9.2.1)), Value.int .i64 (0), U (0#64), U (0#64), Value.int .i64 (0), U (0#64), U (0#64), Value.int .i64 (0), U (0#64), U (0#64), Value.int .i64 (0), U (0#64), U (0#64), Value.int .i64 (0), U (0#64), U (0#64), Value.int .i64 (0), U (0#64), U (0#64), Value.int .i64 (0), U (0#64), U (0#64), Value.int .i64 (0), U (0#64), U (0#64)]) rfl rfl rfl rfl (.of rfl rfl) rfl rfl ?_
  refine r_v (Value.pointer (some ⟨b7, 0, none⟩)) rfl rfl rfl rfl ?_
  refine r_s [(b7, 40, #[Value.int .i64 (r9.2.2), Value.int .i64 (0), Value.int .i64 (0), Value.int .i64 (0), Value.int .i64 (0), Value.int .i64 (0), Value.int .i64 (0), Value.int .i64 (0), Value.int .i64 (0)]), (b5, 39, #[Value.int .i64 (r9.1), U (hi (r9.2.1)), U (lo (r9.2.1)), Value.int .i64 (0), U (0#64), U (0#64), Value.int .i64 (0), U (0#64), U (0#64), Value.int .i64 (0), U (0#64), U (0#64), Value.int .i64 (0), U (0#64), U (0#64), Value.int .i64 (0), U (0#64), U (0#64), Value.int .i64 (0), U (0#64), U (0#64), Value.int .i64 (0), U (0#64), U (0#64), Value.int .i64 (0), U (0#64), U (0#64)]), (b3, 24, #[Value.int .i64 (b_0), U (hi (b_1)), U (lo (b_1))]), (b2, 24, #[Value.int .i64 (a_0), U (hi (a_1)), U (lo (a_1))])] 0 _ _ _ (#[Value.int .i64 (0), Value.int .i64 (0), Value.int .i64 (0), Value.int .i64 (0), Value.int .i64 (0), Value.int .i64 (0), Value.int .i64 (0), Value.int .i64 (0), Value.int .i64 (0)]) (#[Value.int .i64 (r9.2.2)]) (#[Value.int .i64 (r9.2.2), Value.int .i64 (0), Value.int .i64 (0), Value.int .i64 (0), Value.int .i64 (0), Value.int .i64 (0), Value.int .i64 (0), Value.int .i64 (0), Value.int .i64 (0)]) rfl rfl rfl rfl (.of rfl rfl) rfl rfl ?_
  refine lx_nil ?_
  refine hK8 _ _ ?_; try clear hK8 K8
  refine A_seq fun K11 hK11 => ?_
  refine A_reg ?_
  refine r_l (Value.agg #[Value.int .i64 (a_0), U (hi (a_1)), U (lo (a_1))]) 3 _ _ _ _ rfl rfl rfl rfl rfl ?_
  refine r_l (Value.agg #[Value.int .i64 (b_0), U (hi (b_1)), U (lo (b_1))]) 2 _ _ _ _ rfl rfl rfl rfl rfl ?_
  replace hM := bind_sm hM; obtain ⟨r12, hr13, hM⟩ := hM
  refine r_c (Value.tuple #[Value.agg #[Value.int .i64 (r12.1), U (hi (r12.2.1)), U (lo (r12.2.1))], Value.int .i64 (r12.2.2)]) rfl _ _ (ev_callF rfl call_20 rfl) (vec_Sub_g N (a_0) (a_1) (b_0) (b_1) _ hr13) ?_
  refine r_v (Value.tuple #[Value.agg #[Value.int .i64 (r12.1), U (hi (r12.2.1)), U (lo (r12.2.1))], Value.int .i64 (r12.2.2)]) rfl rfl rfl rfl ?_
  refine r_v (Value.agg #[Value.int .i64 (r12.1), U (hi (r12.2.1)), U (lo (r12.2.1))]) rfl rfl rfl rfl ?_
  refine r_v (Value.int .i64 (r12.2.2)) rfl rfl rfl rfl ?_
  refine r_v (Value.pointer (some ⟨b5, 3, none⟩)) rfl rfl rfl rfl ?_
  refine r_s [(b7, 40, #[Value.int .i64 (r9.2.2), Value.int .i64 (0), Value.int .i64 (0), Value.int .i64 (0), Value.int .i64 (0), Value.int .i64 (0), Value.int .i64 (0), Value.int .i64 (0), Value.int .i64 (0)]), (b5, 39, #[Value.int .i64 (r9.1), U (hi (r9.2.1)), U (lo (r9.2.1)), Value.int .i64 (r12.1), U (hi (r12.2.1)), U (lo (r12.2.1)), Value.int .i64 (0), U (0#64), U (0#64), Value.int .i64 (0), U (0#64), U (0#64), Value.int .i64 (0), U (0#64), U (0#64), Value.int .i64 (0), U (0#64), U (0#64), Value.int .i64 (0), U (0#64), U (0#64), Value.int .i64 (0), U (0#64), U (0#64), Value.int .i64 (0), U (0#64), U (0#64)]), (b3, 24, #[Value.int .i64 (b_0), U (hi (b_1)), U (lo (b_1))]), (b2, 24, #[Value.int .i64 (a_0), U (hi (a_1)), U (lo (a_1))])] 1 _ _ _ (#[Value.int .i64 (r9.1), U (hi (r9.2.1)), U (lo (r9.2.1)), Value.int .i64 (0), U (0#64), U (0#64), Value.int .i64 (0), U (0#64), U (0#64), Value.int .i64 (0), U (0#64), U (0#64), Value.int .i64 (0), U (0#64), U (0#64), Value.int .i64 (0), U (0#64), U (0#64), Value.int .i64 (0), U (0#64), U (0#64), Value.int .i64 (0), U (0#64), U (0#64), Value.int .i64 (0), U (0#64), U (0#64)]) (#[Value.int .i64 (r12.1), U (hi (r12.2.1)), U (lo (r12.2.1))]) (#[Value.int .i64 (r9.1), U (hi (r9.2.1)), U (lo (r9.2.1)), Value.int .i64 (r12.1), U (hi (r12.2.1)), U (lo (r12.2.1)), Value.int .i64 (0), U (0#64), U (0#64), Value.int .i64 (0), U (0#64), U (0#64), Value.int .i64 (0), U (0#64), U (0#64), Value.int .i64 (0), U (0#64), U (0#64), Value.int .i64 (0), U (0#64), U (0#64), Value.int .i64 (0), U (0#64), U (0#64), Value.int .i64 (0), U (0#64), U (0#64)]) rfl rfl rfl rfl (.of rfl rfl) rfl rfl ?_
  refine r_v (Value.pointer (some ⟨b7, 1, none⟩)) rfl rfl rfl rfl ?_
  refine r_s [(b7, 40, #[Value.int .i64 (r9.2.2), Value.int .i64 (r12.2.2), Value.int .i64 (0), Value.int .i64 (0), Value.int .i64 (0), Value.int .i64 (0), Value.int .i64 (0), Value.int .i64 (0), Value.int .i64 (0)]), (b5, 39, #[Value.int .i64 (r9.1), U (hi (r9.2.1)), U (lo (r9.2.1)), Value.int .i64 (r12.1), U (hi (r12.2.1)), U (lo (r12.2.1)), Value.int .i64 (0), U (0#64), U (0#64), Value.int .i64 (0), U (0#64), U (0#64), Value.int .i64 (0), U (0#64), U (0#64), Value.int .i64 (0), U (0#64), U (0#64), Value.int .i64 (0), U (0#64), U (0#64), Value.int .i64 (0), U (0#64), U (0#64), Value.int .i64 (0), U (0#64), U (0#64)]), (b3, 24, #[Value.int .i64 (b_0), U (hi (b_1)), U (lo (b_1))]), (b2, 24, #[Value.int .i64 (a_0), U (hi (a_1)), U (lo (a_1))])] 0 _ _ _ (#[Value.int .i64 (r9.2.2), Value.int .i64 (0), Value.int .i64 (0), Value.int .i64 (0), Value.int .i64 (0), Value.int .i64 (0), Value.int .i64 (0), Value.int .i64 (0), Value.int .i64 (0)]) (#[Value.int .i64 (r12.2.2)]) (#[Value.int .i64 (r9.2.2), Value.int .i64 (r12.2.2), Value.int .i64 (0), Value.int .i64 (0), Value.int .i64 (0), Value.int .i64 (0), Value.int .i64 (0), Value.int .i64 (0), Value.int .i64 (0)]) rfl rfl rfl rfl (.of rfl rfl) rfl rfl ?_
  refine lx_nil ?_
  refine hK11 _ _ ?_; try clear hK11 K11
  refine A_seq fun K14 hK14 => ?_
  refine A_reg ?_
  refine r_l (Value.agg #[Value.int .i64 (a_0), U (hi (a_1)), U (lo (a_1))]) 3 _ _ _ _ rfl rfl rfl rfl rfl ?_
  refine r_l (Value.agg #[Value.int .i64 (b_0), U (hi (b_1)), U (lo (b_1))]) 2 _ _ _ _ rfl rfl rfl rfl rfl ?_
  replace hM := bind_sm hM; obtain ⟨r15, hr16, hM⟩ := hM
  refine r_c (Value.tuple #[Value.agg #[Value.int .i64 (r15.1), U (hi (r15.2.1)), U (lo (r15.2.1))], Value.int .i64 (r15.2.2)]) rfl _ _ (ev_callF rfl call_21 rfl) (vec_AddSat_g N (a_0) (a_1) (b_0) (b_1) _ hr16) ?_
  refine r_v (Value.tuple #[Value.agg #[Value.int .i64 (r15.1), U (hi (r15.2.1)), U (lo (r15.2.1))], Value.int .i64 (r15.2.2)]) rfl rfl rfl rfl ?_
  refine r_v (Value.agg #[Value.int .i64 (r15.1), U (hi (r15.2.1)), U (lo (r15.2.1))]) rfl rfl rfl rfl ?_
  refine r_v (Value.int .i64 (r15.2.2)) rfl rfl rfl rfl ?_
  refine r_v (Value.pointer (some ⟨b5, 6, none⟩)) rfl rfl rfl rfl ?_
  refine r_s [(b7, 40, #[Value.int .i64 (r9.2.2), Value.int .i64 (r12.2.2), Value.int .i64 (0), Value.int .i64 (0), Value.int .i64 (0), Value.int .i64 (0), Value.int .i64 (0), Value.int .i64 (0), Value.int .i64 (0)]), (b5, 39, #[Value.int .i64 (r9.1), U (hi (r9.2.1)), U (lo (r9.2.1)), Value.int .i64 (r12.1), U (hi (r12.2.1)), U (lo (r12.2.1)), Value.int .i64 (r15.1), U (hi (r15.2.1)), U (lo (r15.2.1)), Value.int .i64 (0), U (0#64), U (0#64), Value.int .i64 (0), U (0#64), U (0#64), Value.int .i64 (0), U (0#64), U (0#64), Value.int .i64 (0), U (0#64), U (0#64), Value.int .i64 (0), U (0#64), U (0#64), Value.int .i64 (0), U (0#64), U (0#64)]), (b3, 24, #[Value.int .i64 (b_0), U (hi (b_1)), U (lo (b_1))]), (b2, 24, #[Value.int .i64 (a_0), U (hi (a_1)), U (lo (a_1))])] 1 _ _ _ (#[Value.int .i64 (r9.1), U (hi (r9.2.1)), U (lo (r9.2.1)), Value.int .i64 (r12.1), U (hi (r12.2.1)), U (lo (r12.2.1)), Value.int .i64 (0), U (0#64), U (0#64), Value.int .i64 (0), U (0#64), U (0#64), Value.int .i64 (0), U (0#64), U (0#64), Value.int .i64 (0), U (0#64), U (0#64), Value.int .i64 (0), U (0#64), U (0#64), Value.int .i64 (0), U (0#64), U (0#64), Value.int .i64 (0), U (0#64), U (0#64)]) (#[Value.int .i64 (r15.1), U (hi (r15.2.1)), U (lo (r15.2.1))]) (#[Value.int .i64 (r9.1), U (hi (r9.2.1)), U (lo (r9.2.1)), Value.int .i64 (r12.1), U (hi (r12.2.1)), U (lo (r12.2.1)), Value.int .i64 (r15.1), U (hi (r15.2.1)), U (lo (r15.2.1)), Value.int .i64 (0), U (0#64), U (0#64), Value.int .i64 (0), U (0#64), U (0#64), Value.int .i64 (0), U (0#64), U (0#64), Value.int .i64 (0), U (0#64), U (0#64), Value.int .i64 (0), U (0#64), U (0#64), Value.int .i64 (0), U (0#64), U (0#64)]) rfl rfl rfl rfl (.of rfl rfl) rfl rfl ?_
  refine r_v (Value.pointer (some ⟨b7, 2, none⟩)) rfl rfl rfl rfl ?_
  refine r_s [(b7, 40, #[Value.int .i64 (r9.2.2), Value.int .i64 (r12.2.2), Value.int .i64 (r15.2.2), Value.int .i64 (0), Value.int .i64 (0), Value.int .i64 (0), Value.int .i64 (0), Value.int .i64 (0), Value.int .i64 (0)]), (b5, 39, #[Value.int .i64 (r9.1), U (hi (r9.2.1)), U (lo (r9.2.1)), Value.int .i64 (r12.1), U (hi (r12.2.1)), U (lo (r12.2.1)), Value.int .i64 (r15.1), U (hi (r15.2.1)), U (lo (r15.2.1)), Value.int .i64 (0), U (0#64), U (0#64), Value.int .i64 (0), U (0#64), U (0#64), Value.int .i64 (0), U (0#64), U (0#64), Value.int .i64 (0), U (0#64), U (0#64), Value.int .i64 (0), U (0#64), U (0#64), Value.int .i64 (0), U (0#64), U (0#64)]), (b3, 24, #[Value.int .i64 (b_0), U (hi (b_1)), U (lo (b_1))]), (b2, 24, #[Value.int .i64 (a_0), U (hi (a_1)), U (lo (a_1))])] 0 _ _ _ (#[Value.int .i64 (r9.2.2), Value.int .i64 (r12.2.2), Value.int .i64 (0), Value.int .i64 (0), Value.int .i64 (0), Value.int .i64 (0), Value.int .i64 (0), Value.int .i64 (0), Value.int .i64 (0)]) (#[Value.int .i64 (r15.2.2)]) (#[Value.int .i64 (r9.2.2), Value.int .i64 (r12.2.2), Value.int .i64 (r15.2.2), Value.int .i64 (0), Value.int .i64 (0), Value.int .i64 (0), Value.int .i64 (0), Value.int .i64 (0), Value.int .i64 (0)]) rfl rfl rfl rfl (.of rfl rfl) rfl rfl ?_
  refine lx_nil ?_
  refine hK14 _ _ ?_; try clear hK14 K14
  refine A_gen [(2, Value.pointer (some ⟨b2, 0, none⟩)), (3, Value.pointer (some ⟨b3, 0, none⟩)), (5, Value.pointer (some ⟨b5, 0, none⟩)), (6, Value.pointer (some ⟨b7, 0, none⟩))] rfl (fun T => ?_)
  refine A_seq fun K17 hK17 => ?_
  refine A_reg ?_
  refine r_l (Value.agg #[Value.int .i64 (a_0), U (hi (a_1)), U (lo (a_1))]) 3 _ _ _ _ rfl rfl rfl rfl rfl ?_
  refine r_l (Value.agg #[Value.int .i64 (b_0), U (hi (b_1)), U (lo (b_1))]) 2 _ _ _ _ rfl rfl rfl rfl rfl ?_
  replace hM := bind_sm hM; obtain ⟨r18, hr19, hM⟩ := hM
  refine r_c (Value.tuple #[Value.agg #[Value.int .i64 (r18.1), U (hi (r18.2.1)), U (lo (r18.2.1))], Value.int .i64 (r18.2.2)]) rfl _ _ (ev_callF rfl call_22 rfl) (vec_SubSat_g N (a_0) (a_1) (b_0) (b_1) _ hr19) ?_
  refine r_v (Value.tuple #[Value.agg #[Value.int .i64 (r18.1), U (hi (r18.2.1)), U (lo (r18.2.1))], Value.int .i64 (r18.2.2)]) rfl rfl rfl rfl ?_
  refine r_v (Value.agg #[Value.int .i64 (r18.1), U (hi (r18.2.1)), U (lo (r18.2.1))]) rfl rfl rfl rfl ?_
  refine r_v (Value.int .i64 (r18.2.2)) rfl rfl rfl rfl ?_
  refine r_v (Value.pointer (some ⟨b5, 9, none⟩)) rfl rfl rfl rfl ?_
  refine r_s [(b7, 40, #[Value.int .i64 (r9.2.2), Value.int .i64 (r12.2.2), Value.int .i64 (r15.2.2), Value.int .i64 (0), Value.int .i64 (0), Value.int .i64 (0), Value.int .i64 (0), Value.int .i64 (0), Value.int .i64 (0)]), (b5, 39, #[Value.int .i64 (r9.1), U (hi (r9.2.1)), U (lo (r9.2.1)), Value.int .i64 (r12.1), U (hi (r12.2.1)), U (lo (r12.2.1)), Value.int .i64 (r15.1), U (hi (r15.2.1)), U (lo (r15.2.1)), Value.int .i64 (r18.1), U (hi (r18.2.1)), U (lo (r18.2.1)), Value.int .i64 (0), U (0#64), U (0#64), Value.int .i64 (0), U (0#64), U (0#64), Value.int .i64 (0), U (0#64), U (0#64), Value.int .i64 (0), U (0#64), U (0#64), Value.int .i64 (0), U (0#64), U (0#64)]), (b3, 24, #[Value.int .i64 (b_0), U (hi (b_1)), U (lo (b_1))]), (b2, 24, #[Value.int .i64 (a_0), U (hi (a_1)), U (lo (a_1))])] 1 _ _ _ (#[Value.int .i64 (r9.1), U (hi (r9.2.1)), U (lo (r9.2.1)), Value.int .i64 (r12.1), U (hi (r12.2.1)), U (lo (r12.2.1)), Value.int .i64 (r15.1), U (hi (r15.2.1)), U (lo (r15.2.1)), Value.int .i64 (0), U (0#64), U (0#64), Value.int .i64 (0), U (0#64), U (0#64), Value.int .i64 (0), U (0#64), U (0#64), Value.int .i64 (0), U (0#64), U (0#64), Value.int .i64 (0), U (0#64), U (0#64), Value.int .i64 (0), U (0#64), U (0#64)]) (#[Value.int .i64 (r18.1), U (hi (r18.2.1)), U (lo (r18.2.1))]) (#[Value.int .i64 (r9.1), U (hi (r9.2.1)), U (lo (r9.2.1)), Value.int .i64 (r12.1), U (hi (r12.2.1)), U (lo (r12.2.1)), Value.int .i64 (r15.1), U (hi (r15.2.1)), U (lo (r15.2.1)), Value.int .i64 (r18.1), U (hi (r18.2.1)), U (lo (r18.2.1)), Value.int .i64 (0), U (0#64), U (0#64), Value.int .i64 (0), U (0#64), U (0#64), Value.int .i64 (0), U (0#64), U (0#64), Value.int .i64 (0), U (0#64), U (0#64), Value.int .i64 (0), U (0#64), U (0#64)]) rfl rfl rfl rfl (.of rfl rfl) rfl rfl ?_
  refine r_v (Value.pointer (some ⟨b7, 3, none⟩)) rfl rfl rfl rfl ?_
  refine r_s [(b7, 40, #[Value.int .i64 (r9.2.2), Value.int .i64 (r12.2.2), Value.int .i64 (r15.2.2), Value.int .i64 (r18.2.2), Value.int .i64 (0), Value.int .i64 (0), Value.int .i64 (0), Value.int .i64 (0), Value.int .i64 (0)]), (b5, 39, #[Value.int .i64 (r9.1), U (hi (r9.2.1)), U (lo (r9.2.1)), Value.int .i64 (r12.1), U (hi (r12.2.1)), U (lo (r12.2.1)), Value.int .i64 (r15.1), U (hi (r15.2.1)), U (lo (r15.2.1)), Value.int .i64 (r18.1), U (hi (r18.2.1)), U (lo (r18.2.1)), Value.int .i64 (0), U (0#64), U (0#64), Value.int .i64 (0), U (0#64), U (0#64), Value.int .i64 (0), U (0#64), U (0#64), Value.int .i64 (0), U (0#64), U (0#64), Value.int .i64 (0), U (0#64), U (0#64)]), (b3, 24, #[Value.int .i64 (b_0), U (hi (b_1)), U (lo (b_1))]), (b2, 24, #[Value.int .i64 (a_0), U (hi (a_1)), U (lo (a_1))])] 0 _ _ _ (#[Value.int .i64 (r9.2.2), Value.int .i64 (r12.2.2), Value.int .i64 (r15.2.2), Value.int .i64 (0), Value.int .i64 (0), Value.int .i64 (0), Value.int .i64 (0), Value.int .i64 (0), Value.int .i64 (0)]) (#[Value.int .i64 (r18.2.2)]) (#[Value.int .i64 (r9.2.2), Value.int .i64 (r12.2.2), Value.int .i64 (r15.2.2), Value.int .i64 (r18.2.2), Value.int .i64 (0), Value.int .i64 (0), Value.int .i64 (0), Value.int .i64 (0), Value.int .i64 (0)]) rfl rfl rfl rfl (.of rfl rfl) rfl rfl ?_
  refine lx_nil ?_
  refine hK17 _ _ ?_; try clear hK17 K17
  refine A_seq fun K20 hK20 => ?_
  refine A_reg ?_
  refine r_l (Value.agg #[Value.int .i64 (a_0), U (hi (a_1)), U (lo (a_1))]) 3 _ _ _ _ rfl rfl rfl rfl rfl ?_
  refine r_l (Value.agg #[Value.int .i64 (b_0), U (hi (b_1)), U (lo (b_1))]) 2 _ _ _ _ rfl rfl rfl rfl rfl ?_
  replace hM := bind_sm hM; obtain ⟨r21, hr22, hM⟩ := hM
  refine r_c (Value.tuple #[Value.agg #[Value.int .i64 (r21.1), U (hi (r21.2.1)), U (lo (r21.2.1))], Value.int .i64 (r21.2.2)]) rfl _ _ (ev_callF rfl call_23 rfl) (vec_And_g N (a_0) (a_1) (b_0) (b_1) _ hr22) ?_
  refine r_v (Value.tuple #[Value.agg #[Value.int .i64 (r21.1), U (hi (r21.2.1)), U (lo (r21.2.1))], Value.int .i64 (r21.2.2)]) rfl rfl rfl rfl ?_
  refine r_v (Value.agg #[Value.int .i64 (r21.1), U (hi (r21.2.1)), U (lo (r21.2.1))]) rfl rfl rfl rfl ?_
  refine r_v (Value.int .i64 (r21.2.2)) rfl rfl rfl rfl ?_
  refine r_v (Value.pointer (some ⟨b5, 12, none⟩)) rfl rfl rfl rfl ?_
  refine r_s [(b7, 40, #[Value.int .i64 (r9.2.2), Value.int .i64 (r12.2.2), Value.int .i64 (r15.2.2), Value.int .i64 (r18.2.2), Value.int .i64 (0), Value.int .i64 (0), Value.int .i64 (0), Value.int .i64 (0), Value.int .i64 (0)]), (b5, 39, #[Value.int .i64 (r9.1), U (hi (r9.2.1)), U (lo (r9.2.1)), Value.int .i64 (r12.1), U (hi (r12.2.1)), U (lo (r12.2.1)), Value.int .i64 (r15.1), U (hi (r15.2.1)), U (lo (r15.2.1)), Value.int .i64 (r18.1), U (hi (r18.2.1)), U (lo (r18.2.1)), Value.int .i64 (r21.1), U (hi (r21.2.1)), U (lo (r21.2.1)), Value.int .i64 (0), U (0#64), U (0#64), Value.int .i64 (0), U (0#64), U (0#64), Value.int .i64 (0), U (0#64), U (0#64), Value.int .i64 (0), U (0#64), U (0#64)]), (b3, 24, #[Value.int .i64 (b_0), U (hi (b_1)), U (lo (b_1))]), (b2, 24, #[Value.int .i64 (a_0), U (hi (a_1)), U (lo (a_1))])] 1 _ _ _ (#[Value.int .i64 (r9.1), U (hi (r9.2.1)), U (lo (r9.2.1)), Value.int .i64 (r12.1), U (hi (r12.2.1)), U (lo (r12.2.1)), Value.int .i64 (r15.1), U (hi (r15.2.1)), U (lo (r15.2.1)), Value.int .i64 (r18.1), U (hi (r18.2.1)), U (lo (r18.2.1)), Value.int .i64 (0), U (0#64), U (0#64), Value.int .i64 (0), U (0#64), U (0#64), Value.int .i64 (0), U (0#64), U (0#64), Value.int .i64 (0), U (0#64), U (0#64), Value.int .i64 (0), U (0#64), U (0#64)]) (#[Value.int .i64 (r21.1), U (hi (r21.2.1)), U (lo (r21.2.1))]) (#[Value.int .i64 (r9.1), U (hi (r9.2.1)), U (lo (r9.2.1)), Value.int .i64 (r12.1), U (hi (r12.2.1)), U (lo (r12.2.1)), Value.int .i64 (r15.1), U (hi (r15.2.1)), U (lo (r15.2.1)), Value.int .i64 (r18.1), U (hi (r18.2.1)), U (lo (r18.2.1)), Value.int .i64 (r21.1), U (hi (r21.2.1)), U (lo (r21.2.1)), Value.int .i64 (0), U (0#64), U (0#64), Value.int .i64 (0), U (0#64), U (0#64), Value.int .i64 (0), U (0#64), U (0#64), Value.int .i64 (0), U (0#64), U (0#64)]) rfl rfl rfl rfl (.of rfl rfl) rfl rfl ?_
  refine r_v (Value.pointer (some ⟨b7, 4, none⟩)) rfl rfl rfl rfl ?_
  refine r_s [(b7, 40, #[Value.int .i64 (r9.2.2), Value.int .i64 (r12.2.2), Value.int .i64 (r15.2.2), Value.int .i64 (r18.2.2), Value.int .i64 (r21.2.2), Value.int .i64 (0), Value.int .i64 (0), Value.int .i64 (0), Value.int .i64 (0)]), (b5, 39, #[Value.int .i64 (r9.1), U (hi (r9.2.1)), U (lo (r9.2.1)), Value.int .i64 (r12.1), U (hi (r12.2.1)), U (lo (r12.2.1)), Value.int .i64 (r15.1), U (hi (r15.2.1)), U (lo (r15.2.1)), Value.int .i64 (r18.1), U (hi (r18.2.1)), U (lo (r18.2.1)), Value.int .i64 (r21.1), U (hi (r21.2.1)), U (lo (r21.2.1)), Value.int .i64 (0), U (0#64), U (0#64), Value.int .i64 (0), U (0#64), U (0#64), Value.int .i64 (0), U (0#64), U (0#64), Value.int .i64 (0), U (0#64), U (0#64)]), (b3, 24, #[Value.int .i64 (b_0), U (hi (b_1)), U (lo (b_1))]), (b2, 24, #[Value.int .i64 (a_0), U (hi (a_1)), U (lo (a_1))])] 0 _ _ _ (#[Value.int .i64 (r9.2.2), Value.int .i64 (r12.2.2), Value.int .i64 (r15.2.2), Value.int .i64 (r18.2.2), Value.int .i64 (0), Value.int .i64 (0), Value.int .i64 (0), Value.int .i64 (0), Value.int .i64 (0)]) (#[Value.int .i64 (r21.2.2)]) (#[Value.int .i64 (r9.2.2), Value.int .i64 (r12.2.2), Value.int .i64 (r15.2.2), Value.int .i64 (r18.2.2), Value.int .i64 (r21.2.2), Value.int .i64 (0), Value.int .i64 (0), Value.int .i64 (0), Value.int .i64 (0)]) rfl rfl rfl rfl (.of rfl rfl) rfl rfl ?_
  refine lx_nil ?_
  refine hK20 _ _ ?_; try clear hK20 K20
  refine A_seq fun K23 hK23 => ?_
  refine A_reg ?_
  refine r_l (Value.agg #[Value.int .i64 (a_0), U (hi (a_1)), U (lo (a_1))]) 3 _ _ _ _ rfl rfl rfl rfl rfl ?_
  refine r_l (Value.agg #[Value.int .i64 (b_0), U (hi (b_1)), U (lo (b_1))]) 2 _ _ _ _ rfl rfl rfl rfl rfl ?_
  replace hM := bind_sm hM; obtain ⟨r24, hr25, hM⟩ := hM
  refine r_c (Value.tuple #[Value.agg #[Value.int .i64 (r24.1), U (hi (r24.2.1)), U (lo (r24.2.1))], Value.int .i64 (r24.2.2)]) rfl _ _ (ev_callF rfl call_24 rfl) (vec_Or_g N (a_0) (a_1) (b_0) (b_1) _ hr25) ?_
  refine r_v (Value.tuple #[Value.agg #[Value.int .i64 (r24.1), U (hi (r24.2.1)), U (lo (r24.2.1))], Value.int .i64 (r24.2.2)]) rfl rfl rfl rfl ?_
  refine r_v (Value.agg #[Value.int .i64 (r24.1), U (hi (r24.2.1)), U (lo (r24.2.1))]) rfl rfl rfl rfl ?_
  refine r_v (Value.int .i64 (r24.2.2)) rfl rfl rfl rfl ?_
  refine r_v (Value.pointer (some ⟨b5, 15, none⟩)) rfl rfl rfl rfl ?_
  refine r_s [(b7, 40, #[Value.int .i64 (r9.2.2), Value.int .i64 (r12.2.2), Value.int .i64 (r15.2.2), Value.int .i64 (r18.2.2), Value.int .i64 (r21.2.2), Value.int .i64 (0), Value.int .i64 (0), Value.int .i64 (0), Value.int .i64 (0)]), (b5, 39, #[Value.int .i64 (r9.1), U (hi (r9.2.1)), U (lo (r9.2.1)), Value.int .i64 (r12.1), U (hi (r12.2.1)), U (lo (r12.2.1)), Value.int .i64 (r15.1), U (hi (r15.2.1)), U (lo (r15.2.1)), Value.int .i64 (r18.1), U (hi (r18.2.1)), U (lo (r18.2.1)), Value.int .i64 (r21.1), U (hi (r21.2.1)), U (lo (r21.2.1)), Value.int .i64 (r24.1), U (hi (r24.2.1)), U (lo (r24.2.1)), Value.int .i64 (0), U (0#64), U (0#64), Value.int .i64 (0), U (0#64), U (0#64), Value.int .i64 (0), U (0#64), U (0#64)]), (b3, 24, #[Value.int .i64 (b_0), U (hi (b_1)), U (lo (b_1))]), (b2, 24, #[Value.int .i64 (a_0), U (hi (a_1)), U (lo (a_1))])] 1 _ _ _ (#[Value.int .i64 (r9.1), U (hi (r9.2.1)), U (lo (r9.2.1)), Value.int .i64 (r12.1), U (hi (r12.2.1)), U (lo (r12.2.1)), Value.int .i64 (r15.1), U (hi (r15.2.1)), U (lo (r15.2.1)), Value.int .i64 (r18.1), U (hi (r18.2.1)), U (lo (r18.2.1)), Value.int .i64 (r21.1), U (hi (r21.2.1)), U (lo (r21.2.1)), Value.int .i64 (0), U (0#64), U (0#64), Value.int .i64 (0), U (0#64), U (0#64), Value.int .i64 (0), U (0#64), U (0#64), Value.int .i64 (0), U (0#64), U (0#64)]) (#[Value.int .i64 (r24.1), U (hi (r24.2.1)), U (lo (r24.2.1))]) (#[Value.int .i64 (r9.1), U (hi (r9.2.1)), U (lo (r9.2.1)), Value.int .i64 (r12.1), U (hi (r12.2.1)), U (lo (r12.2.1)), Value.int .i64 (r15.1), U (hi (r15.2.1)), U (lo (r15.2.1)), Value.int .i64 (r18.1), U (hi (r18.2.1)), U (lo (r18.2.1)), Value.int .i64 (r21.1), U (hi (r21.2.1)), U (lo (r21.2.1)), Value.int .i64 (r24.1), U (hi (r24.2.1)), U (lo (r24.2.1)), Value.int .i64 (0), U (0#64), U (0#64), Value.int .i64 (0), U (0#64), U (0#64), Value.int .i64 (0), U (0#64), U (0#64)]) rfl rfl rfl rfl (.of rfl rfl) rfl rfl ?_
  refine r_v (Value.pointer (some ⟨b7, 5, none⟩)) rfl rfl rfl rfl ?_
  refine r_s [(b7, 40, #[Value.int .i64 (r9.2.2), Value.int .i64 (r12.2.2), Value.int .i64 (r15.2.2), Value.int .i64 (r18.2.2), Value.int .i64 (r21.2.2), Value.int .i64 (r24.2.2), Value.int .i64 (0), Value.int .i64 (0), Value.int .i64 (0)]), (b5, 39, #[Value.int .i64 (r9.1), U (hi (r9.2.1)), U (lo (r9.2.1)), Value.int .i64 (r12.1), U (hi (r12.2.1)), U (lo (r12.2.1)), Value.int .i64 (r15.1), U (hi (r15.2.1)), U (lo (r15.2.1)), Value.int .i64 (r18.1), U (hi (r18.2.1)), U (lo (r18.2.1)), Value.int .i64 (r21.1), U (hi (r21.2.1)), U (lo (r21.2.1)), Value.int .i64 (r24.1), U (hi (r24.2.1)), U (lo (r24.2.1)), Value.int .i64 (0), U (0#64), U (0#64), Value.int .i64 (0), U (0#64), U (0#64), Value.int .i64 (0), U (0#64), U (0#64)]), (b3, 24, #[Value.int .i64 (b_0), U (hi (b_1)), U (lo (b_1))]), (b2, 24, #[Value.int .i64 (a_0), U (hi (a_1)), U (lo (a_1))])] 0 _ _ _ (#[Value.int .i64 (r9.2.2), Value.int .i64 (r12.2.2), Value.int .i64 (r15.2.2), Value.int .i64 (r18.2.2), Value.int .i64 (r21.2.2), Value.int .i64 (0), Value.int .i64 (0), Value.int .i64 (0), Value.int .i64 (0)]) (#[Value.int .i64 (r24.2.2)]) (#[Value.int .i64 (r9.2.2), Value.int .i64 (r12.2.2), Value.int .i64 (r15.2.2), Value.int .i64 (r18.2.2), Value.int .i64 (r21.2.2), Value.int .i64 (r24.2.2), Value.int .i64 (0), Value.int .i64 (0), Value.int .i64 (0)]) rfl rfl rfl rfl (.of rfl rfl) rfl rfl ?_
  refine lx_nil ?_
  refine hK23 _ _ ?_; try clear hK23 K23
  refine A_seq fun K26 hK26 => ?_
  refine A_reg ?_
  refine r_l (Value.agg #[Value.int .i64 (a_0), U (hi (a_1)), U (lo (a_1))]) 3 _ _ _ _ rfl rfl rfl rfl rfl ?_
  refine r_l (Value.agg #[Value.int .i64 (b_0), U (hi (b_1)), U (lo (b_1))]) 2 _ _ _ _ rfl rfl rfl rfl rfl ?_
  replace hM := bind_sm hM; obtain ⟨r27, hr28, hM⟩ := hM
  refine r_c (Value.tuple #[Value.agg #[Value.int .i64 (r27.1), U (hi (r27.2.1)), U (lo (r27.2.1))], Value.int .i64 (r27.2.2)]) rfl _ _ (ev_callF rfl call_25 rfl) (vec_Xor_g N (a_0) (a_1) (b_0) (b_1) _ hr28) ?_
  refine r_v (Value.tuple #[Value.agg #[Value.int .i64 (r27.1), U (hi (r27.2.1)), U (lo (r27.2.1))], Value.int .i64 (r27.2.2)]) rfl rfl rfl rfl ?_
  refine r_v (Value.agg #[Value.int .i64 (r27.1), U (hi (r27.2.1)), U (lo (r27.2.1))]) rfl rfl rfl rfl ?_
  refine r_v (Value.int .i64 (r27.2.2)) rfl rfl rfl rfl ?_
  refine r_v (Value.pointer (some ⟨b5, 18, none⟩)) rfl rfl rfl rfl ?_
  refine r_s [(b7, 40, #[Value.int .i64 (r9.2.2), Value.int .i64 (r12.2.2), Value.int .i64 (r15.2.2), Value.int .i64 (r18.2.2), Value.int .i64 (r21.2.2), Value.int .i64 (r24.2.2), Value.int .i64 (0), Value.int .i64 (0), Value.int .i64 (0)]), (b5, 39, #[Value.int .i64 (r9.1), U (hi (r9.2.1)), U (lo (r9.2.1)), Value.int .i64 (r12.1), U (hi (r12.2.1)), U (lo (r12.2.1)), Value.int .i64 (r15.1), U (hi (r15.2.1)), U (lo (r15.2.1)), Value.int .i64 (r18.1), U (hi (r18.2.1)), U (lo (r18.2.1)), Value.int .i64 (r21.1), U (hi (r21.2.1)), U (lo (r21.2.1)), Value.int .i64 (r24.1), U (hi (r24.2.1)), U (lo (r24.2.1)), Value.int .i64 (r27.1), U (hi (r27.2.1)), U (lo (r27.2.1)), Value.int .i64 (0), U (0#64), U (0#64), Value.int .i64 (0), U (0#64), U (0#64)]), (b3, 24, #[Value.int .i64 (b_0), U (hi (b_1)), U (lo (b_1))]), (b2, 24, #[Value.int .i64 (a_0), U (hi (a_1)), U (lo (a_1))])] 1 _ _ _ (#[Value.int .i64 (r9.1), U (hi (r9.2.1)), U (lo (r9.2.1)), Value.int .i64 (r12.1), U (hi (r12.2.1)), U (lo (r12.2.1)), Value.int .i64 (r15.1), U (hi (r15.2.1)), U (lo (r15.2.1)), Value.int .i64 (r18.1), U (hi (r18.2.1)), U (lo (r18.2.1)), Value.int .i64 (r21.1), U (hi (r21.2.1)), U (lo (r21.2.1)), Value.int .i64 (r24.1), U (hi (r24.2.1)), U (lo (r24.2.1)), Value.int .i64 (0), U (0#64), U (0#64), Value.int .i64 (0), U (0#64), U (0#64), Value.int .i64 (0), U (0#64), U (0#64)]) (#[Value.int .i64 (r27.1), U (hi (r27.2.1)), U (lo (r27.2.1))]) (#[Value.int .i64 (r9.1), U (hi (r9.2.1)), U (lo (r9.2.1)), Value.int .i64 (r12.1), U (hi (r12.2.1)), U (lo (r12.2.1)), Value.int .i64 (r15.1), U (hi (r15.2.1)), U (lo (r15.2.1)), Value.int .i64 (r18.1), U (hi (r18.2.1)), U (lo (r18.2.1)), Value.int .i64 (r21.1), U (hi (r21.2.1)), U (lo (r21.2.1)), Value.int .i64 (r24.1), U (hi (r24.2.1)), U (lo (r24.2.1)), Value.int .i64 (r27.1), U (hi (r27.2.1)), U (lo (r27.2.1)), Value.int .i64 (0), U (0#64), U (0#64), Value.int .i64 (0), U (0#64), U (0#64)]) rfl rfl rfl rfl (.of rfl rfl) rfl rfl ?_
  refine r_v (Value.pointer (some ⟨b7, 6, none⟩)) rfl rfl rfl rfl ?_
  refine r_s [(b7, 40, #[Value.int .i64 (r9.2.2), Value.int .i64 (r12.2.2), Value.int .i64 (r15.2.2), Value.int .i64 (r18.2.2), Value.int .i64 (r21.2.2), Value.int .i64 (r24.2.2), Value.int .i64 (r27.2.2), Value.int .i64 (0), Value.int .i64 (0)]), (b5, 39, #[Value.int .i64 (r9.1), U (hi (r9.2.1)), U (lo (r9.2.1)), Value.int .i64 (r12.1), U (hi (r12.2.1)), U (lo (r12.2.1)), Value.int .i64 (r15.1), U (hi (r15.2.1)), U (lo (r15.2.1)), Value.int .i64 (r18.1), U (hi (r18.2.1)), U (lo (r18.2.1)), Value.int .i64 (r21.1), U (hi (r21.2.1)), U (lo (r21.2.1)), Value.int .i64 (r24.1), U (hi (r24.2.1)), U (lo (r24.2.1)), Value.int .i64 (r27.1), U (hi (r27.2.1)), U (lo (r27.2.1)), Value.int .i64 (0), U (0#64), U (0#64), Value.int .i64 (0), U (0#64), U (0#64)]), (b3, 24, #[Value.int .i64 (b_0), U (hi (b_1)), U (lo (b_1))]), (b2, 24, #[Value.int .i64 (a_0), U (hi (a_1)), U (lo (a_1))])] 0 _ _ _ (#[Value.int .i64 (r9.2.2), Value.int .i64 (r12.2.2), Value.int .i64 (r15.2.2), Value.int .i64 (r18.2.2), Value.int .i64 (r21.2.2), Value.int .i64 (r24.2.2), Value.int .i64 (0), Value.int .i64 (0), Value.int .i64 (0)]) (#[Value.int .i64 (r27.2.2)]) (#[Value.int .i64 (r9.2.2), Value.int .i64 (r12.2.2), Value.int .i64 (r15.2.2), Value.int .i64 (r18.2.2), Value.int .i64 (r21.2.2), Value.int .i64 (r24.2.2), Value.int .i64 (r27.2.2), Value.int .i64 (0), Value.int .i64 (0)]) rfl rfl rfl rfl (.of rfl rfl) rfl rfl ?_
  refine lx_nil ?_
  refine hK26 _ _ ?_; try clear hK26 K26
  refine A_gen [(2, Value.pointer (some ⟨b2, 0, none⟩)), (3, Value.pointer (some ⟨b3, 0, none⟩)), (5, Value.pointer (some ⟨b5, 0, none⟩)), (6, Value.pointer (some ⟨b7, 0, none⟩))] rfl (fun T => ?_)
  refine A_seq fun K29 hK29 => ?_
  refine A_reg ?_
  refine r_l (Value.agg #[Value.int .i64 (a_0), U (hi (a_1)), U (lo (a_1))]) 3 _ _ _ _ rfl rfl rfl rfl rfl ?_
  refine r_l (Value.agg #[Value.int .i64 (b_0), U (hi (b_1)), U (lo (b_1))]) 2 _ _ _ _ rfl rfl rfl rfl rfl ?_
  replace hM := bind_sm hM; obtain ⟨r30, hr31, hM⟩ := hM
  refine r_c (Value.tuple #[Value.agg #[Value.int .i64 (r30.1), U (hi (r30.2.1)), U (lo (r30.2.1))], Value.int .i64 (r30.2.2)]) rfl _ _ (ev_callF rfl call_26 rfl) (vec_Eq_g N (a_0) (a_1) (b_0) (b_1) _ hr31) ?_
  refine r_v (Value.tuple #[Value.agg #[Value.int .i64 (r30.1), U (hi (r30.2.1)), U (lo (r30.2.1))], Value.int .i64 (r30.2.2)]) rfl rfl rfl rfl ?_
  refine r_v (Value.agg #[Value.int .i64 (r30.1), U (hi (r30.2.1)), U (lo (r30.2.1))]) rfl rfl rfl rfl ?_
  refine r_v (Value.int .i64 (r30.2.2)) rfl rfl rfl rfl ?_
  refine r_v (Value.pointer (some ⟨b5, 21, none⟩)) rfl rfl rfl rfl ?_
  refine r_s [(b7, 40, #[Value.int .i64 (r9.2.2), Value.int .i64 (r12.2.2), Value.int .i64 (r15.2.2), Value.int .i64 (r18.2.2), Value.int .i64 (r21.2.2), Value.int .i64 (r24.2.2), Value.int .i64 (r27.2.2), Value.int .i64 (0), Value.int .i64 (0)]), (b5, 39, #[Value.int .i64 (r9.1), U (hi (r9.2.1)), U (lo (r9.2.1)), Value.int .i64 (r12.1), U (hi (r12.2.1)), U (lo (r12.2.1)), Value.int .i64 (r15.1), U (hi (r15.2.1)), U (lo (r15.2.1)), Value.int .i64 (r18.1), U (hi (r18.2.1)), U (lo (r18.2.1)), Value.int .i64 (r21.1), U (hi (r21.2.1)), U (lo (r21.2.1)), Value.int .i64 (r24.1), U (hi (r24.2.1)), U (lo (r24.2.1)), Value.int .i64 (r27.1), U (hi (r27.2.1)), U (lo (r27.2.1)), Value.int .i64 (r30.1), U (hi (r30.2.1)), U (lo (r30.2.1)), Value.int .i64 (0), U (0#64), U (0#64)]), (b3, 24, #[Value.int .i64 (b_0), U (hi (b_1)), U (lo (b_1))]), (b2, 24, #[Value.int .i64 (a_0), U (hi (a_1)), U (lo (a_1))])] 1 _ _ _ (#[Value.int .i64 (r9.1), U (hi (r9.2.1)), U (lo (r9.2.1)), Value.int .i64 (r12.1), U (hi (r12.2.1)), U (lo (r12.2.1)), Value.int .i64 (r15.1), U (hi (r15.2.1)), U (lo (r15.2.1)), Value.int .i64 (r18.1), U (hi (r18.2.1)), U (lo (r18.2.1)), Value.int .i64 (r21.1), U (hi (r21.2.1)), U (lo (r21.2.1)), Value.int .i64 (r24.1), U (hi (r24.2.1)), U (lo (r24.2.1)), Value.int .i64 (r27.1), U (hi (r27.2.1)), U (lo (r27.2.1)), Value.int .i64 (0), U (0#64), U (0#64), Value.int .i64 (0), U (0#64), U (0#64)]) (#[Value.int .i64 (r30.1), U (hi (r30.2.1)), U (lo (r30.2.1))]) (#[Value.int .i64 (r9.1), U (hi (r9.2.1)), U (lo (r9.2.1)), Value.int .i64 (r12.1), U (hi (r12.2.1)), U (lo (r12.2.1)), Value.int .i64 (r15.1), U (hi (r15.2.1)), U (lo (r15.2.1)), Value.int .i64 (r18.1), U (hi (r18.2.1)), U (lo (r18.2.1)), Value.int .i64 (r21.1), U (hi (r21.2.1)), U (lo (r21.2.1)), Value.int .i64 (r24.1), U (hi (r24.2.1)), U (lo (r24.2.1)), Value.int .i64 (r27.1), U (hi (r27.2.1)), U (lo (r27.2.1)), Value.int .i64 (r30.1), U (hi (r30.2.1)), U (lo (r30.2.1)), Value.int .i64 (0), U (0#64), U (0#64)]) rfl rfl rfl rfl (.of rfl rfl) rfl rfl ?_
  refine r_v (Value.pointer (some ⟨b7, 7, none⟩)) rfl rfl rfl rfl ?_
  refine r_s [(b7, 40, #[Value.int .i64 (r9.2.2), Value.int .i64 (r12.2.2), Value.int .i64 (r15.2.2), Value.int .i64 (r18.2.2), Value.int .i64 (r21.2.2), Value.int .i64 (r24.2.2), Value.int .i64 (r27.2.2), Value.int .i64 (r30.2.2), Value.int .i64 (0)]), (b5, 39, #[Value.int .i64 (r9.1), U (hi (r9.2.1)), U (lo (r9.2.1)), Value.int .i64 (r12.1), U (hi (r12.2.1)), U (lo (r12.2.1)), Value.int .i64 (r15.1), U (hi (r15.2.1)), U (lo (r15.2.1)), Value.int .i64 (r18.1), U (hi (r18.2.1)), U (lo (r18.2.1)), Value.int .i64 (r21.1), U (hi (r21.2.1)), U (lo (r21.2.1)), Value.int .i64 (r24.1), U (hi (r24.2.1)), U (lo (r24.2.1)), Value.int .i64 (r27.1), U (hi (r27.2.1)), U (lo (r27.2.1)), Value.int .i64 (r30.1), U (hi (r30.2.1)), U (lo (r30.2.1)), Value.int .i64 (0), U (0#64), U (0#64)]), (b3, 24, #[Value.int .i64 (b_0), U (hi (b_1)), U (lo (b_1))]), (b2, 24, #[Value.int .i64 (a_0), U (hi (a_1)), U (lo (a_1))])] 0 _ _ _ (#[Value.int .i64 (r9.2.2), Value.int .i64 (r12.2.2), Value.int .i64 (r15.2.2), Value.int .i64 (r18.2.2), Value.int .i64 (r21.2.2), Value.int .i64 (r24.2.2), Value.int .i64 (r27.2.2), Value.int .i64 (0), Value.int .i64 (0)]) (#[Value.int .i64 (r30.2.2)]) (#[Value.int .i64 (r9.2.2), Value.int .i64 (r12.2.2), Value.int .i64 (r15.2.2), Value.int .i64 (r18.2.2), Value.int .i64 (r21.2.2), Value.int .i64 (r24.2.2), Value.int .i64 (r27.2.2), Value.int .i64 (r30.2.2), Value.int .i64 (0)]) rfl rfl rfl rfl (.of rfl rfl) rfl rfl ?_
  refine lx_nil ?_
  refine hK29 _ _ ?_; try clear hK29 K29
  refine A_seq fun K32 hK32 => ?_
  refine A_reg ?_
  refine r_l (Value.agg #[Value.int .i64 (a_0), U (hi (a_1)), U (lo (a_1))]) 3 _ _ _ _ rfl rfl rfl rfl rfl ?_
  refine r_l (Value.agg #[Value.int .i64 (b_0), U (hi (b_1)), U (lo (b_1))]) 2 _ _ _ _ rfl rfl rfl rfl rfl ?_
  replace hM := bind_sm hM; obtain ⟨r33, hr34, hM⟩ := hM
  refine r_c (Value.tuple #[Value.agg #[Value.int .i64 (r33.1), U (hi (r33.2.1)), U (lo (r33.2.1))], Value.int .i64 (r33.2.2)]) rfl _ _ (ev_callF rfl call_27 rfl) (vec_Less_g N (a_0) (a_1) (b_0) (b_1) _ hr34) ?_
  refine r_v (Value.tuple #[Value.agg #[Value.int .i64 (r33.1), U (hi (r33.2.1)), U (lo (r33.2.1))], Value.int .i64 (r33.2.2)]) rfl rfl rfl rfl ?_
  refine r_v (Value.agg #[Value.int .i64 (r33.1), U (hi (r33.2.1)), U (lo (r33.2.1))]) rfl rfl rfl rfl ?_
  refine r_v (Value.int .i64 (r33.2.2)) rfl rfl rfl rfl ?_
  refine r_v (Value.pointer (some ⟨b5, 24, none⟩)) rfl rfl rfl rfl ?_
  refine r_s [(b7, 40, #[Value.int .i64 (r9.2.2), Value.int .i64 (r12.2.2), Value.int .i64 (r15.2.2), Value.int .i64 (r18.2.2), Value.int .i64 (r21.2.2), Value.int .i64 (r24.2.2), Value.int .i64 (r27.2.2), Value.int .i64 (r30.2.2), Value.int .i64 (0)]), (b5, 39, #[Value.int .i64 (r9.1), U (hi (r9.2.1)), U (lo (r9.2.1)), Value.int .i64 (r12.1), U (hi (r12.2.1)), U (lo (r12.2.1)), Value.int .i64 (r15.1), U (hi (r15.2.1)), U (lo (r15.2.1)), Value.int .i64 (r18.1), U (hi (r18.2.1)), U (lo (r18.2.1)), Value.int .i64 (r21.1), U (hi (r21.2.1)), U (lo (r21.2.1)), Value.int .i64 (r24.1), U (hi (r24.2.1)), U (lo (r24.2.1)), Value.int .i64 (r27.1), U (hi (r27.2.1)), U (lo (r27.2.1)), Value.int .i64 (r30.1), U (hi (r30.2.1)), U (lo (r30.2.1)), Value.int .i64 (r33.1), U (hi (r33.2.1)), U (lo (r33.2.1))]), (b3, 24, #[Value.int .i64 (b_0), U (hi (b_1)), U (lo (b_1))]), (b2, 24, #[Value.int .i64 (a_0), U (hi (a_1)), U (lo (a_1))])] 1 _ _ _ (#[Value.int .i64 (r9.1), U (hi (r9.2.1)), U (lo (r9.2.1)), Value.int .i64 (r12.1), U (hi (r12.2.1)), U (lo (r12.2.1)), Value.int .i64 (r15.1), U (hi (r15.2.1)), U (lo (r15.2.1)), Value.int .i64 (r18.1), U (hi (r18.2.1)), U (lo (r18.2.1)), Value.int .i64 (r21.1), U (hi (r21.2.1)), U (lo (r21.2.1)), Value.int .i64 (r24.1), U (hi (r24.2.1)), U (lo (r24.2.1)), Value.int .i64 (r27.1), U (hi (r27.2.1)), U (lo (r27.2.1)), Value.int .i64 (r30.1), U (hi (r30.2.1)), U (lo (r30.2.1)), Value.int .i64 (0), U (0#64), U (0#64)]) (#[Value.int .i64 (r33.1), U (hi (r33.2.1)), U (lo (r33.2.1))]) (#[Value.int .i64 (r9.1), U (hi (r9.2.1)), U (lo (r9.2.1)), Value.int .i64 (r12.1), U (hi (r12.2.1)), U (lo (r12.2.1)), Value.int .i64 (r15.1), U (hi (r15.2.1)), U (lo (r15.2.1)), Value.int .i64 (r18.1), U (hi (r18.2.1)), U (lo (r18.2.1)), Value.int .i64 (r21.1), U (hi (r21.2.1)), U (lo (r21.2.1)), Value.int .i64 (r24.1), U (hi (r24.2.1)), U (lo (r24.2.1)), Value.int .i64 (r27.1), U (hi (r27.2.1)), U (lo (r27.2.1)), Value.int .i64 (r30.1), U (hi (r30.2.1)), U (lo (r30.2.1)), Value.int .i64 (r33.1), U (hi (r33.2.1)), U (lo (r33.2.1))]) rfl rfl rfl rfl (.of rfl rfl) rfl rfl ?_
  refine r_v (Value.pointer (some ⟨b7, 8, none⟩)) rfl rfl rfl rfl ?_
  refine r_s [(b7, 40, #[Value.int .i64 (r9.2.2), Value.int .i64 (r12.2.2), Value.int .i64 (r15.2.2), Value.int .i64 (r18.2.2), Value.int .i64 (r21.2.2), Value.int .i64 (r24.2.2), Value.int .i64 (r27.2.2), Value.int .i64 (r30.2.2), Value.int .i64 (r33.2.2)]), (b5, 39, #[Value.int .i64 (r9.1), U (hi (r9.2.1)), U (lo (r9.2.1)), Value.int .i64 (r12.1), U (hi (r12.2.1)), U (lo (r12.2.1)), Value.int .i64 (r15.1), U (hi (r15.2.1)), U (lo (r15.2.1)), Value.int .i64 (r18.1), U (hi (r18.2.1)), U (lo (r18.2.1)), Value.int .i64 (r21.1), U (hi (r21.2.1)), U (lo (r21.2.1)), Value.int .i64 (r24.1), U (hi (r24.2.1)), U (lo (r24.2.1)), Value.int .i64 (r27.1), U (hi (r27.2.1)), U (lo (r27.2.1)), Value.int .i64 (r30.1), U (hi (r30.2.1)), U (lo (r30.2.1)), Value.int .i64 (r33.1), U (hi (r33.2.1)), U (lo (r33.2.1))]), (b3, 24, #[Value.int .i64 (b_0), U (hi (b_1)), U (lo (b_1))]), (b2, 24, #[Value.int .i64 (a_0), U (hi (a_1)), U (lo (a_1))])] 0 _ _ _ (#[Value.int .i64 (r9.2.2), Value.int .i64 (r12.2.2), Value.int .i64 (r15.2.2), Value.int .i64 (r18.2.2), Value.int .i64 (r21.2.2), Value.int .i64 (r24.2.2), Value.int .i64 (r27.2.2), Value.int .i64 (r30.2.2), Value.int .i64 (0)]) (#[Value.int .i64 (r33.2.2)]) (#[Value.int .i64 (r9.2.2), Value.int .i64 (r12.2.2), Value.int .i64 (r15.2.2), Value.int .i64 (r18.2.2), Value.int .i64 (r21.2.2), Value.int .i64 (r24.2.2), Value.int .i64 (r27.2.2), Value.int .i64 (r30.2.2), Value.int .i64 (r33.2.2)]) rfl rfl rfl rfl (.of rfl rfl) rfl rfl ?_
  refine lx_nil ?_
  refine hK32 _ _ ?_; try clear hK32 K32
  refine A_seq fun K35 hK35 => ?_
  refine A_regC [(some 83, false)] (conG Tryd.prog []) ?_
  refine r_bs (cs0 := []) (Ls := [[(b7, 40, #[Value.int .i64 (r9.2.2), Value.int .i64 (r12.2.2), Value.int .i64 (r15.2.2), Value.int .i64 (r18.2.2), Value.int .i64 (r21.2.2), Value.int .i64 (r24.2.2), Value.int .i64 (r27.2.2), Value.int .i64 (r30.2.2), Value.int .i64 (r33.2.2)])], [(b5, 39, #[Value.int .i64 (r9.1), U (hi (r9.2.1)), U (lo (r9.2.1)), Value.int .i64 (r12.1), U (hi (r12.2.1)), U (lo (r12.2.1)), Value.int .i64 (r15.1), U (hi (r15.2.1)), U (lo (r15.2.1)), Value.int .i64 (r18.1), U (hi (r18.2.1)), U (lo (r18.2.1)), Value.int .i64 (r21.1), U (hi (r21.2.1)), U (lo (r21.2.1)), Value.int .i64 (r24.1), U (hi (r24.2.1)), U (lo (r24.2.1)), Value.int .i64 (r27.1), U (hi (r27.2.1)), U (lo (r27.2.1)), Value.int .i64 (r30.1), U (hi (r30.2.1)), U (lo (r30.2.1)), Value.int .i64 (r33.1), U (hi (r33.2.1)), U (lo (r33.2.1))])], [(b3, 24, #[Value.int .i64 (b_0), U (hi (b_1)), U (lo (b_1))])], [(b2, 24, #[Value.int .i64 (a_0), U (hi (a_1)), U (lo (a_1))])]]) 9 encS [([97, 100, 100] : List UInt8), ([115, 117, 98] : List UInt8), ([97, 100, 100, 115, 97, 116] : List UInt8), ([115, 117, 98, 115, 97, 116] : List UInt8), ([97, 110, 100] : List UInt8), ([111, 114] : List UInt8), ([120, 111, 114] : List UInt8), ([101, 113] : List UInt8), ([108, 101, 115, 115] : List UInt8)] [Value.string (⟨#[97, 100, 100]⟩), Value.string (⟨#[115, 117, 98]⟩), Value.string (⟨#[97, 100, 100, 115, 97, 116]⟩), Value.string (⟨#[115, 117, 98, 115, 97, 116]⟩), Value.string (⟨#[97, 110, 100]⟩), Value.string (⟨#[111, 114]⟩), Value.string (⟨#[120, 111, 114]⟩), Value.string (⟨#[101, 113]⟩), Value.string (⟨#[108, 101, 115, 115]⟩)] [Value.string (⟨#[]⟩), Value.string (⟨#[]⟩), Value.string (⟨#[]⟩), Value.string (⟨#[]⟩), Value.string (⟨#[]⟩), Value.string (⟨#[]⟩), Value.string (⟨#[]⟩), Value.string (⟨#[]⟩), Value.string (⟨#[]⟩)] rfl rfl rfl rfl rfl rfl rfl rfl (by kernel_rfl) (by kernel_rfl) rfl rfl rfl (fun s36 S37 H38 => ?_)
  refine r_v (s36) rfl rfl rfl rfl ?_
  refine lx_nil ?_
  refine hK35 _ _ ?_; try clear hK35 K35
  refine A_seq fun K39 hK39 => ?_
  refine A_seq fun K40 hK40 => ?_
  refine A_reg ?_
  refine r_v (Value.int .i64 (0)) rfl rfl rfl rfl ?_
  refine lx_nil ?_
  refine hK40 _ _ ?_; try clear hK40 K40
  refine A_block ?_
  refine A_unroll fun K41 hK41 => ?_
  refine A_seq fun K42 hK42 => ?_
  refine A_seq fun K43 hK43 => ?_
  refine A_reg ?_
  refine r_v (Value.int .i64 (0)) rfl rfl rfl rfl ?_
  refine r_v (Value.bool (true)) rfl rfl rfl rfl ?_
  refine lx_nil ?_
  refine hK43 _ _ ?_; try clear hK43 K43
  refine A_cond true rfl (fun _ => ?_) (fun h_ => nomatch h_)
  refine A_skip ?_
  refine hK42 _ _ ?_; try clear hK42 K42
  refine A_seq fun K44 hK44 => ?_
  refine A_block ?_
  refine A_seq fun K45 hK45 => ?_
  refine A_draw [] (by decide +kernel) (fun hn => sep_nil) ?_
  refine r_v (s36) rfl rfl rfl rfl ?_
  refine r_v (Value.int .i64 (0)) rfl rfl rfl rfl ?_
  replace hM := ck_some hM; obtain ⟨ck46, hM⟩ := hM
  refine r_v (elA s36 (((0 : Int)).toNat * 1)) rfl rfl rfl (ev_v (ev_idxSl rfl rfl rfl (Sl.shp H38) ck46)) ?_
  refine r_le (Value.string (⟨(([([97, 100, 100] : List UInt8), ([115, 117, 98] : List UInt8), ([97, 100, 100, 115, 97, 116] : List UInt8), ([115, 117, 98, 115, 97, 116] : List UInt8), ([97, 110, 100] : List UInt8), ([111, 114] : List UInt8), ([120, 111, 114] : List UInt8), ([101, 113] : List UInt8), ([108, 101, 115, 115] : List UInt8)])[((0 : Int)).toNat]!).toArray⟩)) (En := encS) (([([97, 100, 100] : List UInt8), ([115, 117, 98] : List UInt8), ([97, 100, 100, 115, 97, 116] : List UInt8), ([115, 117, 98, 115, 97, 116] : List UInt8), ([97, 110, 100] : List UInt8), ([111, 114] : List UInt8), ([120, 111, 114] : List UInt8), ([101, 113] : List UInt8), ([108, 101, 115, 115] : List UInt8)])[((0 : Int)).toNat]!) (((0 : Int)).toNat) 0 rfl rfl (rd_own H38 (mem_chunk (Ls := [[(b7, 40, #[Value.int .i64 (r9.2.2), Value.int .i64 (r12.2.2), Value.int .i64 (r15.2.2), Value.int .i64 (r18.2.2), Value.int .i64 (r21.2.2), Value.int .i64 (r24.2.2), Value.int .i64 (r27.2.2), Value.int .i64 (r30.2.2), Value.int .i64 (r33.2.2)])], [(b5, 39, #[Value.int .i64 (r9.1), U (hi (r9.2.1)), U (lo (r9.2.1)), Value.int .i64 (r12.1), U (hi (r12.2.1)), U (lo (r12.2.1)), Value.int .i64 (r15.1), U (hi (r15.2.1)), U (lo (r15.2.1)), Value.int .i64 (r18.1), U (hi (r18.2.1)), U (lo (r18.2.1)), Value.int .i64 (r21.1), U (hi (r21.2.1)), U (lo (r21.2.1)), Value.int .i64 (r24.1), U (hi (r24.2.1)), U (lo (r24.2.1)), Value.int .i64 (r27.1), U (hi (r27.2.1)), U (lo (r27.2.1)), Value.int .i64 (r30.1), U (hi (r30.2.1)), U (lo (r30.2.1)), Value.int .i64 (r33.1), U (hi (r33.2.1)), U (lo (r33.2.1))])], [(b3, 24, #[Value.int .i64 (b_0), U (hi (b_1)), U (lo (b_1))])], [(b2, 24, #[Value.int .i64 (a_0), U (hi (a_1)), U (lo (a_1))])], S37]) (k := 4) rfl rfl)) (get_of ck46) rfl ?_
  refine r_l (Value.agg #[Value.int .i64 (a_0), U (hi (a_1)), U (lo (a_1))]) 3 _ _ _ _ rfl rfl rfl rfl rfl ?_
  refine r_l (Value.agg #[Value.int .i64 (b_0), U (hi (b_1)), U (lo (b_1))]) 2 _ _ _ _ rfl rfl rfl rfl rfl ?_
  replace hM := bind_sm hM; obtain ⟨r47, hr48, hM⟩ := hM
  refine r_c (Value.tuple #[Value.agg #[Value.int .i64 (r47.1), U (hi (r47.2.1)), U (lo (r47.2.1))], Value.int .i64 (r47.2.2)]) rfl _ _ (ev_callF rfl call_28 rfl) (shunterref02_Two_g N (([([97, 100, 100] : List UInt8), ([115, 117, 98] : List UInt8), ([97, 100, 100, 115, 97, 116] : List UInt8), ([115, 117, 98, 115, 97, 116] : List UInt8), ([97, 110, 100] : List UInt8), ([111, 114] : List UInt8), ([120, 111, 114] : List UInt8), ([101, 113] : List UInt8), ([108, 101, 115, 115] : List UInt8)])[((0 : Int)).toNat]!) (a_0) (a_1) (b_0) (b_1) _ hr48) ?_
  refine r_v (Value.tuple #[Value.agg #[Value.int .i64 (r47.1), U (hi (r47.2.1)), U (lo (r47.2.1))], Value.int .i64 (r47.2.2)]) rfl rfl rfl rfl ?_
  refine r_v (Value.agg #[Value.int .i64 (r47.1), U (hi (r47.2.1)), U (lo (r47.2.1))]) rfl rfl rfl rfl ?_
  refine r_v (Value.int .i64 (r47.2.2)) rfl rfl rfl rfl ?_
  refine r_a (24, #[Value.int .i64 (0), U (0#64), U (0#64)]) rfl rfl rfl (fun b49 => ?_) (.inl rfl)
  refine r_sn (List.flatten [[(b49, 24, #[Value.int .i64 (r47.1), U (hi (r47.2.1)), U (lo (r47.2.1))])], [(b7, 40, #[Value.int .i64 (r9.2.2), Value.int .i64 (r12.2.2), Value.int .i64 (r15.2.2), Value.int .i64 (r18.2.2), Value.int .i64 (r21.2.2), Value.int .i64 (r24.2.2), Value.int .i64 (r27.2.2), Value.int .i64 (r30.2.2), Value.int .i64 (r33.2.2)])], [(b5, 39, #[Value.int .i64 (r9.1), U (hi (r9.2.1)), U (lo (r9.2.1)), Value.int .i64 (r12.1), U (hi (r12.2.1)), U (lo (r12.2.1)), Value.int .i64 (r15.1), U (hi (r15.2.1)), U (lo (r15.2.1)), Value.int .i64 (r18.1), U (hi (r18.2.1)), U (lo (r18.2.1)), Value.int .i64 (r21.1), U (hi (r21.2.1)), U (lo (r21.2.1)), Value.int .i64 (r24.1), U (hi (r24.2.1)), U (lo (r24.2.1)), Value.int .i64 (r27.1), U (hi (r27.2.1)), U (lo (r27.2.1)), Value.int .i64 (r30.1), U (hi (r30.2.1)), U (lo (r30.2.1)), Value.int .i64 (r33.1), U (hi (r33.2.1)), U (lo (r33.2.1))])], [(b3, 24, #[Value.int .i64 (b_0), U (hi (b_1)), U (lo (b_1))])], [(b2, 24, #[Value.int .i64 (a_0), U (hi (a_1)), U (lo (a_1))])], S37]) 0 _ _ _ (#[Value.int .i64 (0), U (0#64), U (0#64)]) (#[Value.int .i64 (r47.1), U (hi (r47.2.1)), U (lo (r47.2.1))]) (#[Value.int .i64 (r47.1), U (hi (r47.2.1)), U (lo (r47.2.1))]) rfl rfl rfl rfl rfl (.of rfl rfl) rfl rfl ?_
  refine r_v (Value.int .i64 (r47.2.2)) rfl rfl rfl rfl ?_
  refine lx_nil ?_
  refine hK45 _ _ ?_; try clear hK45 K45
  refine A_gen [(2, Value.pointer (some ⟨b2, 0, none⟩)), (3, Value.pointer (some ⟨b3, 0, none⟩)), (5, Value.pointer (some ⟨b5, 0, none⟩)), (6, Value.pointer (some ⟨b7, 0, none⟩)), (7, s36), (8, Value.int .i64 (0)), (9, Value.pointer (some ⟨b49, 0, none⟩)), (10, Value.int .i64 (r47.2.2))] rfl (fun T => ?_)
  refine A_seq fun K50 hK50 => ?_
  refine A_draw [] (by decide +kernel) (fun hn => sep_nil) ?_
  refine r_v (Value.int .i64 (0)) rfl rfl rfl rfl ?_
  refine r_v (Value.pointer (some ⟨b5, 0, none⟩)) rfl rfl rfl rfl ?_
  refine r_l (Value.agg #[Value.int .i64 (r9.1), U (hi (r9.2.1)), U (lo (r9.2.1))]) 2 _ _ _ _ rfl rfl rfl rfl rfl ?_
  refine r_l (Value.agg #[Value.int .i64 (r47.1), U (hi (r47.2.1)), U (lo (r47.2.1))]) 0 _ _ _ _ rfl rfl rfl rfl rfl ?_
  refine r_v (Value.bool (!(((r9.1) == (r47.1)) && ((r9.2.1) == (r47.2.1))))) rfl rfl rfl (ev_binNe rfl rfl eg_24 (eqst_24 (r9.1) (r47.1) (r9.2.1) (r47.2.1))) ?_
  refine r_v (Value.bool (!(((r9.1) == (r47.1)) && ((r9.2.1) == (r47.2.1))))) rfl rfl rfl rfl ?_
  rcases hg51 : (!(((r9.1) == (r47.1)) && ((r9.2.1) == (r47.2.1)))) with _ | _
  · replace hM := ifp (not_f hg51) hM
    refine r_y rfl ?_
    refine r_v (Value.int .i64 (0)) rfl rfl rfl rfl ?_
    refine r_y rfl ?_
    refine r_v (Value.pointer (some ⟨b7, 0, none⟩)) rfl rfl rfl rfl ?_
    refine r_y rfl ?_
    refine r_l (Value.int .i64 (r9.2.2)) 1 _ _ _ _ rfl rfl rfl rfl rfl ?_
    refine r_y rfl ?_
    refine r_v (Value.int .i64 (r47.2.2)) rfl rfl rfl rfl ?_
    refine r_y rfl ?_
    refine r_v (Value.bool (((r9.2.2 : Int) != r47.2.2))) rfl rfl rfl rfl ?_
    refine r_v (Value.bool (((r9.2.2 : Int) != r47.2.2))) rfl rfl rfl rfl ?_
    refine lx_nil ?_
    refine hK50 _ _ ?_; try clear hK50 K50
    refine A_cond (((r9.2.2 : Int) != r47.2.2)) rfl (fun hc52 => ?_) (fun hc52 => ?_)
    · replace hM := ifp (bne_iff_ne.1 hc52) hM
      refine A_seq fun K53 hK53 => ?_
      refine A_reg ?_
      refine r_v (Value.bool (false)) rfl rfl rfl rfl ?_
      refine lx_nil ?_
      refine hK53 _ _ ?_; try clear hK53 K53
      obtain rfl := Option.some.inj hM
      refine A_ret (fun hn => ends_eq (v0 := Value.bool (false)) rfl (res1 rfl))
    · replace hM := ifn (bne_f hc52) hM
      refine A_skip ?_
      refine hK44 _ _ ?_; try clear hK44 K44
      refine A_reg ?_
      refine r_v (Value.int .i64 (0)) rfl rfl rfl rfl ?_
      refine r_v (Value.int .i64 (1)) rfl rfl (wi64 rfl (by decide) (by decide)) rfl ?_
      refine r_v (Value.int .i64 (1)) rfl rfl rfl rfl ?_
      refine lx_nil ?_
      refine hK41 _ _ ?_; try clear hK41 K41
      refine AL_unroll fun K54 hK54 => ?_
      refine A_seq fun K55 hK55 => ?_
      refine A_seq fun K56 hK56 => ?_
      refine A_reg ?_
      refine r_v (Value.int .i64 (1)) rfl rfl rfl rfl ?_
      refine r_v (Value.bool (true)) rfl rfl rfl rfl ?_
      refine lx_nil ?_
      refine hK56 _ _ ?_; try clear hK56 K56
      refine A_cond true rfl (fun _ => ?_) (fun h_ => nomatch h_)
      refine A_skip ?_
      refine hK55 _ _ ?_; try clear hK55 K55
      refine A_seq fun K57 hK57 => ?_
      refine A_block ?_
      refine A_seq fun K58 hK58 => ?_
      refine A_draw [] (by decide +kernel) (fun hn => sep_nil) ?_
      refine r_v (s36) rfl rfl rfl rfl ?_
      refine r_v (Value.int .i64 (1)) rfl rfl rfl rfl ?_
      replace hM := ck_some hM; obtain ⟨ck59, hM⟩ := hM
      refine r_v (elA s36 (((1 : Int)).toNat * 1)) rfl rfl rfl (ev_v (ev_idxSl rfl rfl rfl (Sl.shp H38) ck59)) ?_
      refine r_le (Value.string (⟨(([([97, 100, 100] : List UInt8), ([115, 117, 98] : List UInt8), ([97, 100, 100, 115, 97, 116] : List UInt8), ([115, 117, 98, 115, 97, 116] : List UInt8), ([97, 110, 100] : List UInt8), ([111, 114] : List UInt8), ([120, 111, 114] : List UInt8), ([101, 113] : List UInt8), ([108, 101, 115, 115] : List UInt8)])[((1 : Int)).toNat]!).toArray⟩)) (En := encS) (([([97, 100, 100] : List UInt8), ([115, 117, 98] : List UInt8), ([97, 100, 100, 115, 97, 116] : List UInt8), ([115, 117, 98, 115, 97, 116] : List UInt8), ([97, 110, 100] : List UInt8), ([111, 114] : List UInt8), ([120, 111, 114] : List UInt8), ([101, 113] : List UInt8), ([108, 101, 115, 115] : List UInt8)])[((1 : Int)).toNat]!) (((1 : Int)).toNat) 0 rfl rfl (rd_own H38 (mem_chunk (Ls := [[(b49, 24, #[Value.int .i64 (r47.1), U (hi (r47.2.1)), U (lo (r47.2.1))])], [(b7, 40, #[Value.int .i64 (r9.2.2), Value.int .i64 (r12.2.2), Value.int .i64 (r15.2.2), Value.int .i64 (r18.2.2), Value.int .i64 (r21.2.2), Value.int .i64 (r24.2.2), Value.int .i64 (r27.2.2), Value.int .i64 (r30.2.2), Value.int .i64 (r33.2.2)])], [(b5, 39, #[Value.int .i64 (r9.1), U (hi (r9.2.1)), U (lo (r9.2.1)), Value.int .i64 (r12.1), U (hi (r12.2.1)), U (lo (r12.2.1)), Value.int .i64 (r15.1), U (hi (r15.2.1)), U (lo (r15.2.1)), Value.int .i64 (r18.1), U (hi (r18.2.1)), U (lo (r18.2.1)), Value.int .i64 (r21.1), U (hi (r21.2.1)), U (lo (r21.2.1)), Value.int .i64 (r24.1), U (hi (r24.2.1)), U (lo (r24.2.1)), Value.int .i64 (r27.1), U (hi (r27.2.1)), U (lo (r27.2.1)), Value.int .i64 (r30.1), U (hi (r30.2.1)), U (lo (r30.2.1)), Value.int .i64 (r33.1), U (hi (r33.2.1)), U (lo (r33.2.1))])], [(b3, 24, #[Value.int .i64 (b_0), U (hi (b_1)), U (lo (b_1))])], [(b2, 24, #[Value.int .i64 (a_0), U (hi (a_1)), U (lo (a_1))])], S37]) (k := 5) rfl rfl)) (get_of ck59) rfl ?_
      refine r_l (Value.agg #[Value.int .i64 (a_0), U (hi (a_1)), U (lo (a_1))]) 4 _ _ _ _ rfl rfl rfl rfl rfl ?_
      refine r_l (Value.agg #[Value.int .i64 (b_0), U (hi (b_1)), U (lo (b_1))]) 3 _ _ _ _ rfl rfl rfl rfl rfl ?_
      replace hM := bind_sm hM; obtain ⟨r60, hr61, hM⟩ := hM
      refine r_c (Value.tuple #[Value.agg #[Value.int .i64 (r60.1), U (hi (r60.2.1)), U (lo (r60.2.1))], Value.int .i64 (r60.2.2)]) rfl _ _ (ev_callF rfl call_28 rfl) (shunterref02_Two_g N (([([97, 100, 100] : List UInt8), ([115, 117, 98] : List UInt8), ([97, 100, 100, 115, 97, 116] : List UInt8), ([115, 117, 98, 115, 97, 116] : List UInt8), ([97, 110, 100] : List UInt8), ([111, 114] : List UInt8), ([120, 111, 114] : List UInt8), ([101, 113] : List UInt8), ([108, 101, 115, 115] : List UInt8)])[((1 : Int)).toNat]!) (a_0) (a_1) (b_0) (b_1) _ hr61) ?_
      refine r_v (Value.tuple #[Value.agg #[Value.int .i64 (r60.1), U (hi (r60.2.1)), U (lo (r60.2.1))], Value.int .i64 (r60.2.2)]) rfl rfl rfl rfl ?_
      refine r_v (Value.agg #[Value.int .i64 (r60.1), U (hi (r60.2.1)), U (lo (r60.2.1))]) rfl rfl rfl rfl ?_
      refine r_v (Value.int .i64 (r60.2.2)) rfl rfl rfl rfl ?_
      refine r_a (24, #[Value.int .i64 (0), U (0#64), U (0#64)]) rfl rfl rfl (fun b62 => ?_) (.inl rfl)
      refine r_sn (List.flatten [[(b62, 24, #[Value.int .i64 (r60.1), U (hi (r60.2.1)), U (lo (r60.2.1))])], [(b49, 24, #[Value.int .i64 (r47.1), U (hi (r47.2.1)), U (lo (r47.2.1))])], [(b7, 40, #[Value.int .i64 (r9.2.2), Value.int .i64 (r12.2.2), Value.int .i64 (r15.2.2), Value.int .i64 (r18.2.2), Value.int .i64 (r21.2.2), Value.int .i64 (r24.2.2), Value.int .i64 (r27.2.2), Value.int .i64 (r30.2.2), Value.int .i64 (r33.2.2)])], [(b5, 39, #[Value.int .i64 (r9.1), U (hi (r9.2.1)), U (lo (r9.2.1)), Value.int .i64 (r12.1), U (hi (r12.2.1)), U (lo (r12.2.1)), Value.int .i64 (r15.1), U (hi (r15.2.1)), U (lo (r15.2.1)), Value.int .i64 (r18.1), U (hi (r18.2.1)), U (lo (r18.2.1)), Value.int .i64 (r21.1), U (hi (r21.2.1)), U (lo (r21.2.1)), Value.int .i64 (r24.1), U (hi (r24.2.1)), U (lo (r24.2.1)), Value.int .i64 (r27.1), U (hi (r27.2.1)), U (lo (r27.2.1)), Value.int .i64 (r30.1), U (hi (r30.2.1)), U (lo (r30.2.1)), Value.int .i64 (r33.1), U (hi (r33.2.1)), U (lo (r33.2.1))])], [(b3, 24, #[Value.int .i64 (b_0), U (hi (b_1)), U (lo (b_1))])], [(b2, 24, #[Value.int .i64 (a_0), U (hi (a_1)), U (lo (a_1))])], S37]) 0 _ _ _ (#[Value.int .i64 (0), U (0#64), U (0#64)]) (#[Value.int .i64 (r60.1), U (hi (r60.2.1)), U (lo (r60.2.1))]) (#[Value.int .i64 (r60.1), U (hi (r60.2.1)), U (lo (r60.2.1))]) rfl rfl rfl rfl rfl (.of rfl rfl) rfl rfl ?_
      refine r_v (Value.int .i64 (r60.2.2)) rfl rfl rfl rfl ?_
      refine lx_nil ?_
      refine hK58 _ _ ?_; try clear hK58 K58
      refine A_gen [(2, Value.pointer (some ⟨b2, 0, none⟩)), (3, Value.pointer (some ⟨b3, 0, none⟩)), (5, Value.pointer (some ⟨b5, 0, none⟩)), (6, Value.pointer (some ⟨b7, 0, none⟩)), (7, s36), (8, Value.int .i64 (1)), (9, Value.pointer (some ⟨b62, 0, none⟩)), (10, Value.int .i64 (r60.2.2))] rfl (fun T => ?_)
      refine A_seq fun K63 hK63 => ?_
      refine A_draw [] (by decide +kernel) (fun hn => sep_nil) ?_
      refine r_v (Value.int .i64 (1)) rfl rfl rfl rfl ?_
      refine r_v (Value.pointer (some ⟨b5, 3, none⟩)) rfl rfl rfl rfl ?_
      refine r_l (Value.agg #[Value.int .i64 (r12.1), U (hi (r12.2.1)), U (lo (r12.2.1))]) 3 _ _ _ _ rfl rfl rfl rfl rfl ?_
      refine r_l (Value.agg #[Value.int .i64 (r60.1), U (hi (r60.2.1)), U (lo (r60.2.1))]) 0 _ _ _ _ rfl rfl rfl rfl rfl ?_
      refine r_v (Value.bool (!(((r12.1) == (r60.1)) && ((r12.2.1) == (r60.2.1))))) rfl rfl rfl (ev_binNe rfl rfl eg_24 (eqst_24 (r12.1) (r60.1) (r12.2.1) (r60.2.1))) ?_
      refine r_v (Value.bool (!(((r12.1) == (r60.1)) && ((r12.2.1) == (r60.2.1))))) rfl rfl rfl rfl ?_
      rcases hg64 : (!(((r12.1) == (r60.1)) && ((r12.2.1) == (r60.2.1)))) with _ | _
      · replace hM := ifp (not_f hg64) hM
        refine r_y rfl ?_
        refine r_v (Value.int .i64 (1)) rfl rfl rfl rfl ?_
        refine r_y rfl ?_
        refine r_v (Value.pointer (some ⟨b7, 1, none⟩)) rfl rfl rfl rfl ?_
        refine r_y rfl ?_
        refine r_l (Value.int .i64 (r12.2.2)) 2 _ _ _ _ rfl rfl rfl rfl rfl ?_
        refine r_y rfl ?_
        refine r_v (Value.int .i64 (r60.2.2)) rfl rfl rfl rfl ?_
        refine r_y rfl ?_
        refine r_v (Value.bool (((r12.2.2 : Int) != r60.2.2))) rfl rfl rfl rfl ?_
        refine r_v (Value.bool (((r12.2.2 : Int) != r60.2.2))) rfl rfl rfl rfl ?_
        refine lx_nil ?_
        refine hK63 _ _ ?_; try clear hK63 K63
        refine A_cond (((r12.2.2 : Int) != r60.2.2)) rfl (fun hc65 => ?_) (fun hc65 => ?_)
        · replace hM := ifp (bne_iff_ne.1 hc65) hM
          refine A_seq fun K66 hK66 => ?_
          refine A_reg ?_
          refine r_v (Value.bool (false)) rfl rfl rfl rfl ?_
          refine lx_nil ?_
          refine hK66 _ _ ?_; try clear hK66 K66
          obtain rfl := Option.some.inj hM
          refine A_ret (fun hn => ends_eq (v0 := Value.bool (false)) rfl (res1 rfl))
        · replace hM := ifn (bne_f hc65) hM
          refine A_skip ?_
          refine hK57 _ _ ?_; try clear hK57 K57
          refine A_reg ?_
          refine r_v (Value.int .i64 (1)) rfl rfl rfl rfl ?_
          refine r_v (Value.int .i64 (2)) rfl rfl (wi64 rfl (by decide) (by decide)) rfl ?_
          refine r_v (Value.int .i64 (2)) rfl rfl rfl rfl ?_
          refine lx_nil ?_
          refine hK54 _ _ ?_; try clear hK54 K54
          refine AL_unroll fun K67 hK67 => ?_
          refine A_seq fun K68 hK68 => ?_
          refine A_seq fun K69 hK69 => ?_
          refine A_reg ?_
          refine r_v (Value.int .i64 (2)) rfl rfl rfl rfl ?_
          refine r_v (Value.bool (true)) rfl rfl rfl rfl ?_
          refine lx_nil ?_
          refine hK69 _ _ ?_; try clear hK69 K69
          refine A_cond true rfl (fun _ => ?_) (fun h_ => nomatch h_)
          refine A_skip ?_
          refine hK68 _ _ ?_; try clear hK68 K68
          refine A_seq fun K70 hK70 => ?_
          refine A_block ?_
          refine A_seq fun K71 hK71 => ?_
          refine A_draw [] (by decide +kernel) (fun hn => sep_nil) ?_
          refine r_v (s36) rfl rfl rfl rfl ?_
          refine r_v (Value.int .i64 (2)) rfl rfl rfl rfl ?_
          replace hM := ck_some hM; obtain ⟨ck72, hM⟩ := hM
          refine r_v (elA s36 (((2 : Int)).toNat * 1)) rfl rfl rfl (ev_v (ev_idxSl rfl rfl rfl (Sl.shp H38) ck72)) ?_
          refine r_le (Value.string (⟨(([([97, 100, 100] : List UInt8), ([115, 117, 98] : List UInt8), ([97, 100, 100, 115, 97, 116] : List UInt8), ([115, 117, 98, 115, 97, 116] : List UInt8), ([97, 110, 100] : List UInt8), ([111, 114] : List UInt8), ([120, 111, 114] : List UInt8), ([101, 113] : List UInt8), ([108, 101, 115, 115] : List UInt8)])[((2 : Int)).toNat]!).toArray⟩)) (En := encS) (([([97, 100, 100] : List UInt8), ([115, 117, 98] : List UInt8), ([97, 100, 100, 115, 97, 116] : List UInt8), ([115, 117, 98, 115, 97, 116] : List UInt8), ([97, 110, 100] : List UInt8), ([111, 114] : List UInt8), ([120, 111, 114] : List UInt8), ([101, 113] : List UInt8), ([108, 101, 115, 115] : List UInt8)])[((2 : Int)).toNat]!) (((2 : Int)).toNat) 0 rfl rfl (rd_own H38 (mem_chunk (Ls := [[(b62, 24, #[Value.int .i64 (r60.1), U (hi (r60.2.1)), U (lo (r60.2.1))])], [(b49, 24, #[Value.int .i64 (r47.1), U (hi (r47.2.1)), U (lo (r47.2.1))])], [(b7, 40, #[Value.int .i64 (r9.2.2), Value.int .i64 (r12.2.2), Value.int .i64 (r15.2.2), Value.int .i64 (r18.2.2), Value.int .i64 (r21.2.2), Value.int .i64 (r24.2.2), Value.int .i64 (r27.2.2), Value.int .i64 (r30.2.2), Value.int .i64 (r33.2.2)])], [(b5, 39, #[Value.int .i64 (r9.1), U (hi (r9.2.1)), U (lo (r9.2.1)), Value.int .i64 (r12.1), U (hi (r12.2.1)), U (lo (r12.2.1)), Value.int .i64 (r15.1), U (hi (r15.2.1)), U (lo (r15.2.1)), Value.int .i64 (r18.1), U (hi (r18.2.1)), U (lo (r18.2.1)), Value.int .i64 (r21.1), U (hi (r21.2.1)), U (lo (r21.2.1)), Value.int .i64 (r24.1), U (hi (r24.2.1)), U (lo (r24.2.1)), Value.int .i64 (r27.1), U (hi (r27.2.1)), U (lo (r27.2.1)), Value.int .i64 (r30.1), U (hi (r30.2.1)), U (lo (r30.2.1)), Value.int .i64 (r33.1), U (hi (r33.2.1)), U (lo (r33.2.1))])], [(b3, 24, #[Value.int .i64 (b_0), U (hi (b_1)), U (lo (b_1))])], [(b2, 24, #[Value.int .i64 (a_0), U (hi (a_1)), U (lo (a_1))])], S37]) (k := 6) rfl rfl)) (get_of ck72) rfl ?_
          refine r_l (Value.agg #[Value.int .i64 (a_0), U (hi (a_1)), U (lo (a_1))]) 5 _ _ _ _ rfl rfl rfl rfl rfl ?_
          refine r_l (Value.agg #[Value.int .i64 (b_0), U (hi (b_1)), U (lo (b_1))]) 4 _ _ _ _ rfl rfl rfl rfl rfl ?_
          replace hM := bind_sm hM; obtain ⟨r73, hr74, hM⟩ := hM
          refine r_c (Value.tuple #[Value.agg #[Value.int .i64 (r73.1), U (hi (r73.2.1)), U (lo (r73.2.1))], Value.int .i64 (r73.2.2)]) rfl _ _ (ev_callF rfl call_28 rfl) (shunterref02_Two_g N (([([97, 100, 100] : List UInt8), ([115, 117, 98] : List UInt8), ([97, 100, 100, 115, 97, 116] : List UInt8), ([115, 117, 98, 115, 97, 116] : List UInt8), ([97, 110, 100] : List UInt8), ([111, 114] : List UInt8), ([120, 111, 114] : List UInt8), ([101, 113] : List UInt8), ([108, 101, 115, 115] : List UInt8)])[((2 : Int)).toNat]!) (a_0) (a_1) (b_0) (b_1) _ hr74) ?_
          refine r_v (Value.tuple #[Value.agg #[Value.int .i64 (r73.1), U (hi (r73.2.1)), U (lo (r73.2.1))], Value.int .i64 (r73.2.2)]) rfl rfl rfl rfl ?_
          refine r_v (Value.agg #[Value.int .i64 (r73.1), U (hi (r73.2.1)), U (lo (r73.2.1))]) rfl rfl rfl rfl ?_
          refine r_v (Value.int .i64 (r73.2.2)) rfl rfl rfl rfl ?_
          refine r_a (24, #[Value.int .i64 (0), U (0#64), U (0#64)]) rfl rfl rfl (fun b75 => ?_) (.inl rfl)
          refine r_sn (List.flatten [[(b75, 24, #[Value.int .i64 (r73.1), U (hi (r73.2.1)), U (lo (r73.2.1))])], [(b62, 24, #[Value.int .i64 (r60.1), U (hi (r60.2.1)), U (lo (r60.2.1))])], [(b49, 24, #[Value.int .i64 (r47.1), U (hi (r47.2.1)), U (lo (r47.2.1))])], [(b7, 40, #[Value.int .i64 (r9.2.2), Value.int .i64 (r12.2.2), Value.int .i64 (r15.2.2), Value.int .i64 (r18.2.2), Value.int .i64 (r21.2.2), Value.int .i64 (r24.2.2), Value.int .i64 (r27.2.2), Value.int .i64 (r30.2.2), Value.int .i64 (r33.2.2)])], [(b5, 39, #[Value.int .i64 (r9.1), U (hi (r9.2.1)), U (lo (r9.2.1)), Value.int .i64 (r12.1), U (hi (r12.2.1)), U (lo (r12.2.1)), Value.int .i64 (r15.1), U (hi (r15.2.1)), U (lo (r15.2.1)), Value.int .i64 (r18.1), U (hi (r18.2.1)), U (lo (r18.2.1)), Value.int .i64 (r21.1), U (hi (r21.2.1)), U (lo (r21.2.1)), Value.int .i64 (r24.1), U (hi (r24.2.1)), U (lo (r24.2.1)), Value.int .i64 (r27.1), U (hi (r27.2.1)), U (lo (r27.2.1)), Value.int .i64 (r30.1), U (hi (r30.2.1)), U (lo (r30.2.1)), Value.int .i64 (r33.1), U (hi (r33.2.1)), U (lo (r33.2.1))])], [(b3, 24, #[Value.int .i64 (b_0), U (hi (b_1)), U (lo (b_1))])], [(b2, 24, #[Value.int .i64 (a_0), U (hi (a_1)), U (lo (a_1))])], S37]) 0 _ _ _ (#[Value.int .i64 (0), U (0#64), U (0#64)]) (#[Value.int .i64 (r73.1), U (hi (r73.2.1)), U (lo (r73.2.1))]) (#[Value.int .i64 (r73.1), U (hi (r73.2.1)), U (lo (r73.2.1))]) rfl rfl rfl rfl rfl (.of rfl rfl) rfl rfl ?_
          refine r_v (Value.int .i64 (r73.2.2)) rfl rfl rfl rfl ?_
          refine lx_nil ?_
          refine hK71 _ _ ?_; try clear hK71 K71
          refine A_gen [(2, Value.pointer (some ⟨b2, 0, none⟩)), (3, Value.pointer (some ⟨b3, 0, none⟩)), (5, Value.pointer (some ⟨b5, 0, none⟩)), (6, Value.pointer (some ⟨b7, 0, none⟩)), (7, s36), (8, Value.int .i64 (2)), (9, Value.pointer (some ⟨b75, 0, none⟩)), (10, Value.int .i64 (r73.2.2))] rfl (fun T => ?_)
          refine A_seq fun K76 hK76 => ?_
          refine A_draw [] (by decide +kernel) (fun hn => sep_nil) ?_
          refine r_v (Value.int .i64 (2)) rfl rfl rfl rfl ?_
          refine r_v (Value.pointer (some ⟨b5, 6, none⟩)) rfl rfl rfl rfl ?_
          refine r_l (Value.agg #[Value.int .i64 (r15.1), U (hi (r15.2.1)), U (lo (r15.2.1))]) 4 _ _ _ _ rfl rfl rfl rfl rfl ?_
          refine r_l (Value.agg #[Value.int .i64 (r73.1), U (hi (r73.2.1)), U (lo (r73.2.1))]) 0 _ _ _ _ rfl rfl rfl rfl rfl ?_
          refine r_v (Value.bool (!(((r15.1) == (r73.1)) && ((r15.2.1) == (r73.2.1))))) rfl rfl rfl (ev_binNe rfl rfl eg_24 (eqst_24 (r15.1) (r73.1) (r15.2.1) (r73.2.1))) ?_
          refine r_v (Value.bool (!(((r15.1) == (r73.1)) && ((r15.2.1) == (r73.2.1))))) rfl rfl rfl rfl ?_
          rcases hg77 : (!(((r15.1) == (r73.1)) && ((r15.2.1) == (r73.2.1)))) with _ | _
          · replace hM := ifp (not_f hg77) hM
            refine r_y rfl ?_
            refine r_v (Value.int .i64 (2)) rfl rfl rfl rfl ?_
            refine r_y rfl ?_
            refine r_v (Value.pointer (some ⟨b7, 2, none⟩)) rfl rfl rfl rfl ?_
            refine r_y rfl ?_
            refine r_l (Value.int .i64 (r15.2.2)) 3 _ _ _ _ rfl rfl rfl rfl rfl ?_
            refine r_y rfl ?_
            refine r_v (Value.int .i64 (r73.2.2)) rfl rfl rfl rfl ?_
            refine r_y rfl ?_
            refine r_v (Value.bool (((r15.2.2 : Int) != r73.2.2))) rfl rfl rfl rfl ?_
            refine r_v (Value.bool (((r15.2.2 : Int) != r73.2.2))) rfl rfl rfl rfl ?_
            refine lx_nil ?_
            refine hK76 _ _ ?_; try clear hK76 K76
            refine A_cond (((r15.2.2 : Int) != r73.2.2)) rfl (fun hc78 => ?_) (fun hc78 => ?_)
            · replace hM := ifp (bne_iff_ne.1 hc78) hM
              refine A_seq fun K79 hK79 => ?_
              refine A_reg ?_
              refine r_v (Value.bool (false)) rfl rfl rfl rfl ?_
              refine lx_nil ?_
              refine hK79 _ _ ?_; try clear hK79 K79
              obtain rfl := Option.some.inj hM
              refine A_ret (fun hn => ends_eq (v0 := Value.bool (false)) rfl (res1 rfl))
            · replace hM := ifn (bne_f hc78) hM
              refine A_skip ?_
              refine hK70 _ _ ?_; try clear hK70 K70
              refine A_reg ?_
              refine r_v (Value.int .i64 (2)) rfl rfl rfl rfl ?_
              refine r_v (Value.int .i64 (3)) rfl rfl (wi64 rfl (by decide) (by decide)) rfl ?_
              refine r_v (Value.int .i64 (3)) rfl rfl rfl rfl ?_
              refine lx_nil ?_
              refine hK67 _ _ ?_; try clear hK67 K67
              refine AL_unroll fun K80 hK80 => ?_
              refine A_seq fun K81 hK81 => ?_
              refine A_seq fun K82 hK82 => ?_
              refine A_reg ?_
              refine r_v (Value.int .i64 (3)) rfl rfl rfl rfl ?_
              refine r_v (Value.bool (true)) rfl rfl rfl rfl ?_
              refine lx_nil ?_
              refine hK82 _ _ ?_; try clear hK82 K82
              refine A_cond true rfl (fun _ => ?_) (fun h_ => nomatch h_)
              refine A_skip ?_
              refine hK81 _ _ ?_; try clear hK81 K81
              refine A_seq fun K83 hK83 => ?_
              refine A_block ?_
              refine A_seq fun K84 hK84 => ?_
              refine A_draw [] (by decide +kernel) (fun hn => sep_nil) ?_
              refine r_v (s36) rfl rfl rfl rfl ?_
              refine r_v (Value.int .i64 (3)) rfl rfl rfl rfl ?_
              replace hM := ck_some hM; obtain ⟨ck85, hM⟩ := hM
              refine r_v (elA s36 (((3 : Int)).toNat * 1)) rfl rfl rfl (ev_v (ev_idxSl rfl rfl rfl (Sl.shp H38) ck85)) ?_
              refine r_le (Value.string (⟨(([([97, 100, 100] : List UInt8), ([115, 117, 98] : List UInt8), ([97, 100, 100, 115, 97, 116] : List UInt8), ([115, 117, 98, 115, 97, 116] : List UInt8), ([97, 110, 100] : List UInt8), ([111, 114] : List UInt8), ([120, 111, 114] : List UInt8), ([101, 113] : List UInt8), ([108, 101, 115, 115] : List UInt8)])[((3 : Int)).toNat]!).toArray⟩)) (En := encS) (([([97, 100, 100] : List UInt8), ([115, 117, 98] : List UInt8), ([97, 100, 100, 115, 97, 116] : List UInt8), ([115, 117, 98, 115, 97, 116] : List UInt8), ([97, 110, 100] : List UInt8), ([111, 114] : List UInt8), ([120, 111, 114] : List UInt8), ([101, 113] : List UInt8), ([108, 101, 115, 115] : List UInt8)])[((3 : Int)).toNat]!) (((3 : Int)).toNat) 0 rfl rfl (rd_own H38 (mem_chunk (Ls := [[(b75, 24, #[Value.int .i64 (r73.1), U (hi (r73.2.1)), U (lo (r73.2.1))])], [(b62, 24, #[Value.int .i64 (r60.1), U (hi (r60.2.1)), U (lo (r60.2.1))])], [(b49, 24, #[Value.int .i64 (r47.1), U (hi (r47.2.1)), U (lo (r47.2.1))])], [(b7, 40, #[Value.int .i64 (r9.2.2), Value.int .i64 (r12.2.2), Value.int .i64 (r15.2.2), Value.int .i64 (r18.2.2), Value.int .i64 (r21.2.2), Value.int .i64 (r24.2.2), Value.int .i64 (r27.2.2), Value.int .i64 (r30.2.2), Value.int .i64 (r33.2.2)])], [(b5, 39, #[Value.int .i64 (r9.1), U (hi (r9.2.1)), U (lo (r9.2.1)), Value.int .i64 (r12.1), U (hi (r12.2.1)), U (lo (r12.2.1)), Value.int .i64 (r15.1), U (hi (r15.2.1)), U (lo (r15.2.1)), Value.int .i64 (r18.1), U (hi (r18.2.1)), U (lo (r18.2.1)), Value.int .i64 (r21.1), U (hi (r21.2.1)), U (lo (r21.2.1)), Value.int .i64 (r24.1), U (hi (r24.2.1)), U (lo (r24.2.1)), Value.int .i64 (r27.1), U (hi (r27.2.1)), U (lo (r27.2.1)), Value.int .i64 (r30.1), U (hi (r30.2.1)), U (lo (r30.2.1)), Value.int .i64 (r33.1), U (hi (r33.2.1)), U (lo (r33.2.1))])], [(b3, 24, #[Value.int .i64 (b_0), U (hi (b_1)), U (lo (b_1))])], [(b2, 24, #[Value.int .i64 (a_0), U (hi (a_1)), U (lo (a_1))])], S37]) (k := 7) rfl rfl)) (get_of ck85) rfl ?_
              refine r_l (Value.agg #[Value.int .i64 (a_0), U (hi (a_1)), U (lo (a_1))]) 6 _ _ _ _ rfl rfl rfl rfl rfl ?_
              refine r_l (Value.agg #[Value.int .i64 (b_0), U (hi (b_1)), U (lo (b_1))]) 5 _ _ _ _ rfl rfl rfl rfl rfl ?_
              replace hM := bind_sm hM; obtain ⟨r86, hr87, hM⟩ := hM
              refine r_c (Value.tuple #[Value.agg #[Value.int .i64 (r86.1), U (hi (r86.2.1)), U (lo (r86.2.1))], Value.int .i64 (r86.2.2)]) rfl _ _ (ev_callF rfl call_28 rfl) (shunterref02_Two_g N (([([97, 100, 100] : List UInt8), ([115, 117, 98] : List UInt8), ([97, 100, 100, 115, 97, 116] : List UInt8), ([115, 117, 98, 115, 97, 116] : List UInt8), ([97, 110, 100] : List UInt8), ([111, 114] : List UInt8), ([120, 111, 114] : List UInt8), ([101, 113] : List UInt8), ([108, 101, 115, 115] : List UInt8)])[((3 : Int)).toNat]!) (a_0) (a_1) (b_0) (b_1) _ hr87) ?_
              refine r_v (Value.tuple #[Value.agg #[Value.int .i64 (r86.1), U (hi (r86.2.1)), U (lo (r86.2.1))], Value.int .i64 (r86.2.2)]) rfl rfl rfl rfl ?_
              refine r_v (Value.agg #[Value.int .i64 (r86.1), U (hi (r86.2.1)), U (lo (r86.2.1))]) rfl rfl rfl rfl ?_
              refine r_v (Value.int .i64 (r86.2.2)) rfl rfl rfl rfl ?_
              refine r_a (24, #[Value.int .i64 (0), U (0#64), U (0#64)]) rfl rfl rfl (fun b88 => ?_) (.inl rfl)
              refine r_sn (List.flatten [[(b88, 24, #[Value.int .i64 (r86.1), U (hi (r86.2.1)), U (lo (r86.2.1))])], [(b75, 24, #[Value.int .i64 (r73.1), U (hi (r73.2.1)), U (lo (r73.2.1))])], [(b62, 24, #[Value.int .i64 (r60.1), U (hi (r60.2.1)), U (lo (r60.2.1))])], [(b49, 24, #[Value.int .i64 (r47.1), U (hi (r47.2.1)), U (lo (r47.2.1))])], [(b7, 40, #[Value.int .i64 (r9.2.2), Value.int .i64 (r12.2.2), Value.int .i64 (r15.2.2), Value.int .i64 (r18.2.2), Value.int .i64 (r21.2.2), Value.int .i64 (r24.2.2), Value.int .i64 (r27.2.2), Value.int .i64 (r30.2.2), Value.int .i64 (r33.2.2)])], [(b5, 39, #[Value.int .i64 (r9.1), U (hi (r9.2.1)), U (lo (r9.2.1)), Value.int .i64 (r12.1), U (hi (r12.2.1)), U (lo (r12.2.1)), Value.int .i64 (r15.1), U (hi (r15.2.1)), U (lo (r15.2.1)), Value.int .i64 (r18.1), U (hi (r18.2.1)), U (lo (r18.2.1)), Value.int .i64 (r21.1), U (hi (r21.2.1)), U (lo (r21.2.1)), Value.int .i64 (r24.1), U (hi (r24.2.1)), U (lo (r24.2.1)), Value.int .i64 (r27.1), U (hi (r27.2.1)), U (lo (r27.2.1)), Value.int .i64 (r30.1), U (hi (r30.2.1)), U (lo (r30.2.1)), Value.int .i64 (r33.1), U (hi (r33.2.1)), U (lo (r33.2.1))])], [(b3, 24, #[Value.int .i64 (b_0), U (hi (b_1)), U (lo (b_1))])], [(b2, 24, #[Value.int .i64 (a_0), U (hi (a_1)), U (lo (a_1))])], S37]) 0 _ _ _ (#[Value.int .i64 (0), U (0#64), U (0#64)]) (#[Value.int .i64 (r86.1), U (hi (r86.2.1)), U (lo (r86.2.1))]) (#[Value.int .i64 (r86.1), U (hi (r86.2.1)), U (lo (r86.2.1))]) rfl rfl rfl rfl rfl (.of rfl rfl) rfl rfl ?_
              refine r_v (Value.int .i64 (r86.2.2)) rfl rfl rfl rfl ?_
              refine lx_nil ?_
              refine hK84 _ _ ?_; try clear hK84 K84
              refine A_gen [(2, Value.pointer (some ⟨b2, 0, none⟩)), (3, Value.pointer (some ⟨b3, 0, none⟩)), (5, Value.pointer (some ⟨b5, 0, none⟩)), (6, Value.pointer (some ⟨b7, 0, none⟩)), (7, s36), (8, Value.int .i64 (3)), (9, Value.pointer (some ⟨b88, 0, none⟩)), (10, Value.int .i64 (r86.2.2))] rfl (fun T => ?_)
              refine A_seq fun K89 hK89 => ?_
              refine A_draw [] (by decide +kernel) (fun hn => sep_nil) ?_
              refine r_v (Value.int .i64 (3)) rfl rfl rfl rfl ?_
              refine r_v (Value.pointer (some ⟨b5, 9, none⟩)) rfl rfl rfl rfl ?_
              refine r_l (Value.agg #[Value.int .i64 (r18.1), U (hi (r18.2.1)), U (lo (r18.2.1))]) 5 _ _ _ _ rfl rfl rfl rfl rfl ?_
              refine r_l (Value.agg #[Value.int .i64 (r86.1), U (hi (r86.2.1)), U (lo (r86.2.1))]) 0 _ _ _ _ rfl rfl rfl rfl rfl ?_
              refine r_v (Value.bool (!(((r18.1) == (r86.1)) && ((r18.2.1) == (r86.2.1))))) rfl rfl rfl (ev_binNe rfl rfl eg_24 (eqst_24 (r18.1) (r86.1) (r18.2.1) (r86.2.1))) ?_
              refine r_v (Value.bool (!(((r18.1) == (r86.1)) && ((r18.2.1) == (r86.2.1))))) rfl rfl rfl rfl ?_
              rcases hg90 : (!(((r18.1) == (r86.1)) && ((r18.2.1) == (r86.2.1)))) with _ | _
              · replace hM := ifp (not_f hg90) hM
                refine r_y rfl ?_
                refine r_v (Value.int .i64 (3)) rfl rfl rfl rfl ?_
                refine r_y rfl ?_
                refine r_v (Value.pointer (some ⟨b7, 3, none⟩)) rfl rfl rfl rfl ?_
                refine r_y rfl ?_
                refine r_l (Value.int .i64 (r18.2.2)) 4 _ _ _ _ rfl rfl rfl rfl rfl ?_
                refine r_y rfl ?_
                refine r_v (Value.int .i64 (r86.2.2)) rfl rfl rfl rfl ?_
                refine r_y rfl ?_
                refine r_v (Value.bool (((r18.2.2 : Int) != r86.2.2))) rfl rfl rfl rfl ?_
                refine r_v (Value.bool (((r18.2.2 : Int) != r86.2.2))) rfl rfl rfl rfl ?_
                refine lx_nil ?_
                refine hK89 _ _ ?_; try clear hK89 K89
                refine A_cond (((r18.2.2 : Int) != r86.2.2)) rfl (fun hc91 => ?_) (fun hc91 => ?_)
                · replace hM := ifp (bne_iff_ne.1 hc91) hM
                  refine A_seq fun K92 hK92 => ?_
                  refine A_reg ?_
                  refine r_v (Value.bool (false)) rfl rfl rfl rfl ?_
                  refine lx_nil ?_
                  refine hK92 _ _ ?_; try clear hK92 K92
                  obtain rfl := Option.some.inj hM
                  refine A_ret (fun hn => ends_eq (v0 := Value.bool (false)) rfl (res1 rfl))
                · replace hM := ifn (bne_f hc91) hM
                  refine A_skip ?_
                  refine hK83 _ _ ?_; try clear hK83 K83
                  refine A_reg ?_
                  refine r_v (Value.int .i64 (3)) rfl rfl rfl rfl ?_
                  refine r_v (Value.int .i64 (4)) rfl rfl (wi64 rfl (by decide) (by decide)) rfl ?_
                  refine r_v (Value.int .i64 (4)) rfl rfl rfl rfl ?_
                  refine lx_nil ?_
                  refine hK80 _ _ ?_; try clear hK80 K80
                  refine AL_unroll fun K93 hK93 => ?_
                  refine A_seq fun K94 hK94 => ?_
                  refine A_seq fun K95 hK95 => ?_
                  refine A_reg ?_
                  refine r_v (Value.int .i64 (4)) rfl rfl rfl rfl ?_
                  refine r_v (Value.bool (true)) rfl rfl rfl rfl ?_
                  refine lx_nil ?_
                  refine hK95 _ _ ?_; try clear hK95 K95
                  refine A_cond true rfl (fun _ => ?_) (fun h_ => nomatch h_)
                  refine A_skip ?_
                  refine hK94 _ _ ?_; try clear hK94 K94
                  refine A_seq fun K96 hK96 => ?_
                  refine A_block ?_
                  refine A_seq fun K97 hK97 => ?_
                  refine A_draw [] (by decide +kernel) (fun hn => sep_nil) ?_
                  refine r_v (s36) rfl rfl rfl rfl ?_
                  refine r_v (Value.int .i64 (4)) rfl rfl rfl rfl ?_
                  replace hM := ck_some hM; obtain ⟨ck98, hM⟩ := hM
                  refine r_v (elA s36 (((4 : Int)).toNat * 1)) rfl rfl rfl (ev_v (ev_idxSl rfl rfl rfl (Sl.shp H38) ck98)) ?_
                  refine r_le (Value.string (⟨(([([97, 100, 100] : List UInt8), ([115, 117, 98] : List UInt8), ([97, 100, 100, 115, 97, 116] : List UInt8), ([115, 117, 98, 115, 97, 116] : List UInt8), ([97, 110, 100] : List UInt8), ([111, 114] : List UInt8), ([120, 111, 114] : List UInt8), ([101, 113] : List UInt8), ([108, 101, 115, 115] : List UInt8)])[((4 : Int)).toNat]!).toArray⟩)) (En := encS) (([([97, 100, 100] : List UInt8), ([115, 117, 98] : List UInt8), ([97, 100, 100, 115, 97, 116] : List UInt8), ([115, 117, 98, 115, 97, 116] : List UInt8), ([97, 110, 100] : List UInt8), ([111, 114] : List UInt8), ([120, 111, 114] : List UInt8), ([101, 113] : List UInt8), ([108, 101, 115, 115] : List UInt8)])[((4 : Int)).toNat]!) (((4 : Int)).toNat) 0 rfl rfl (rd_own H38 (mem_chunk (Ls := [[(b88, 24, #[Value.int .i64 (r86.1), U (hi (r86.2.1)), U (lo (r86.2.1))])], [(b75, 24, #[Value.int .i64 (r73.1), U (hi (r73.2.1)), U (lo (r73.2.1))])], [(b62, 24, #[Value.int .i64 (r60.1), U (hi (r60.2.1)), U (lo (r60.2.1))])], [(b49, 24, #[Value.int .i64 (r47.1), U (hi (r47.2.1)), U (lo (r47.2.1))])], [(b7, 40, #[Value.int .i64 (r9.2.2), Value.int .i64 (r12.2.2), Value.int .i64 (r15.2.2), Value.int .i64 (r18.2.2), Value.int .i64 (r21.2.2), Value.int .i64 (r24.2.2), Value.int .i64 (r27.2.2), Value.int .i64 (r30.2.2), Value.int .i64 (r33.2.2)])], [(b5, 39, #[Value.int .i64 (r9.1), U (hi (r9.2.1)), U (lo (r9.2.1)), Value.int .i64 (r12.1), U (hi (r12.2.1)), U (lo (r12.2.1)), Value.int .i64 (r15.1), U (hi (r15.2.1)), U (lo (r15.2.1)), Value.int .i64 (r18.1), U (hi (r18.2.1)), U (lo (r18.2.1)), Value.int .i64 (r21.1), U (hi (r21.2.1)), U (lo (r21.2.1)), Value.int .i64 (r24.1), U (hi (r24.2.1)), U (lo (r24.2.1)), Value.int .i64 (r27.1), U (hi (r27.2.1)), U (lo (r27.2.1)), Value.int .i64 (r30.1), U (hi (r30.2.1)), U (lo (r30.2.1)), Value.int .i64 (r33.1), U (hi (r33.2.1)), U (lo (r33.2.1))])], [(b3, 24, #[Value.int .i64 (b_0), U (hi (b_1)), U (lo (b_1))])], [(b2, 24, #[Value.int .i64 (a_0), U (hi (a_1)), U (lo (a_1))])], S37]) (k := 8) rfl rfl)) (get_of ck98) rfl ?_
                  refine r_l (Value.agg #[Value.int .i64 (a_0), U (hi (a_1)), U (lo (a_1))]) 7 _ _ _ _ rfl rfl rfl rfl rfl ?_
                  refine r_l (Value.agg #[Value.int .i64 (b_0), U (hi (b_1)), U (lo (b_1))]) 6 _ _ _ _ rfl rfl rfl rfl rfl ?_
                  replace hM := bind_sm hM; obtain ⟨r99, hr100, hM⟩ := hM
                  refine r_c (Value.tuple #[Value.agg #[Value.int .i64 (r99.1), U (hi (r99.2.1)), U (lo (r99.2.1))], Value.int .i64 (r99.2.2)]) rfl _ _ (ev_callF rfl call_28 rfl) (shunterref02_Two_g N (([([97, 100, 100] : List UInt8), ([115, 117, 98] : List UInt8), ([97, 100, 100, 115, 97, 116] : List UInt8), ([115, 117, 98, 115, 97, 116] : List UInt8), ([97, 110, 100] : List UInt8), ([111, 114] : List UInt8), ([120, 111, 114] : List UInt8), ([101, 113] : List UInt8), ([108, 101, 115, 115] : List UInt8)])[((4 : Int)).toNat]!) (a_0) (a_1) (b_0) (b_1) _ hr100) ?_
                  refine r_v (Value.tuple #[Value.agg #[Value.int .i64 (r99.1), U (hi (r99.2.1)), U (lo (r99.2.1))], Value.int .i64 (r99.2.2)]) rfl rfl rfl rfl ?_
                  refine r_v (Value.agg #[Value.int .i64 (r99.1), U (hi (r99.2.1)), U (lo (r99.2.1))]) rfl rfl rfl rfl ?_
                  refine r_v (Value.int .i64 (r99.2.2)) rfl rfl rfl rfl ?_
                  refine r_a (24, #[Value.int .i64 (0), U (0#64), U (0#64)]) rfl rfl rfl (fun b101 => ?_) (.inl rfl)
                  refine r_sn (List.flatten [[(b101, 24, #[Value.int .i64 (r99.1), U (hi (r99.2.1)), U (lo (r99.2.1))])], [(b88, 24, #[Value.int .i64 (r86.1), U (hi (r86.2.1)), U (lo (r86.2.1))])], [(b75, 24, #[Value.int .i64 (r73.1), U (hi (r73.2.1)), U (lo (r73.2.1))])], [(b62, 24, #[Value.int .i64 (r60.1), U (hi (r60.2.1)), U (lo (r60.2.1))])], [(b49, 24, #[Value.int .i64 (r47.1), U (hi (r47.2.1)), U (lo (r47.2.1))])], [(b7, 40, #[Value.int .i64 (r9.2.2), Value.int .i64 (r12.2.2), Value.int .i64 (r15.2.2), Value.int .i64 (r18.2.2), Value.int .i64 (r21.2.2), Value.int .i64 (r24.2.2), Value.int .i64 (r27.2.2), Value.int .i64 (r30.2.2), Value.int .i64 (r33.2.2)])], [(b5, 39, #[Value.int .i64 (r9.1), U (hi (r9.2.1)), U (lo (r9.2.1)), Value.int .i64 (r12.1), U (hi (r12.2.1)), U (lo (r12.2.1)), Value.int .i64 (r15.1), U (hi (r15.2.1)), U (lo (r15.2.1)), Value.int .i64 (r18.1), U (hi (r18.2.1)), U (lo (r18.2.1)), Value.int .i64 (r21.1), U (hi (r21.2.1)), U (lo (r21.2.1)), Value.int .i64 (r24.1), U (hi (r24.2.1)), U (lo (r24.2.1)), Value.int .i64 (r27.1), U (hi (r27.2.1)), U (lo (r27.2.1)), Value.int .i64 (r30.1), U (hi (r30.2.1)), U (lo (r30.2.1)), Value.int .i64 (r33.1), U (hi (r33.2.1)), U (lo (r33.2.1))])], [(b3, 24, #[Value.int .i64 (b_0), U (hi (b_1)), U (lo (b_1))])], [(b2, 24, #[Value.int .i64 (a_0), U (hi (a_1)), U (lo (a_1))])], S37]) 0 _ _ _ (#[Value.int .i64 (0), U (0#64), U (0#64)]) (#[Value.int .i64 (r99.1), U (hi (r99.2.1)), U (lo (r99.2.1))]) (#[Value.int .i64 (r99.1), U (hi (r99.2.1)), U (lo (r99.2.1))]) rfl rfl rfl rfl rfl (.of rfl rfl) rfl rfl ?_
                  refine r_v (Value.int .i64 (r99.2.2)) rfl rfl rfl rfl ?_
                  refine lx_nil ?_
                  refine hK97 _ _ ?_; try clear hK97 K97
                  refine A_gen [(2, Value.pointer (some ⟨b2, 0, none⟩)), (3, Value.pointer (some ⟨b3, 0, none⟩)), (5, Value.pointer (some ⟨b5, 0, none⟩)), (6, Value.pointer (some ⟨b7, 0, none⟩)), (7, s36), (8, Value.int .i64 (4)), (9, Value.pointer (some ⟨b101, 0, none⟩)), (10, Value.int .i64 (r99.2.2))] rfl (fun T => ?_)
                  refine A_seq fun K102 hK102 => ?_
                  refine A_draw [] (by decide +kernel) (fun hn => sep_nil) ?_
                  refine r_v (Value.int .i64 (4)) rfl rfl rfl rfl ?_
                  refine r_v (Value.pointer (some ⟨b5, 12, none⟩)) rfl rfl rfl rfl ?_
                  refine r_l (Value.agg #[Value.int .i64 (r21.1), U (hi (r21.2.1)), U (lo (r21.2.1))]) 6 _ _ _ _ rfl rfl rfl rfl rfl ?_
                  refine r_l (Value.agg #[Value.int .i64 (r99.1), U (hi (r99.2.1)), U (lo (r99.2.1))]) 0 _ _ _ _ rfl rfl rfl rfl rfl ?_
                  refine r_v (Value.bool (!(((r21.1) == (r99.1)) && ((r21.2.1) == (r99.2.1))))) rfl rfl rfl (ev_binNe rfl rfl eg_24 (eqst_24 (r21.1) (r99.1) (r21.2.1) (r99.2.1))) ?_
                  refine r_v (Value.bool (!(((r21.1) == (r99.1)) && ((r21.2.1) == (r99.2.1))))) rfl rfl rfl rfl ?_
                  rcases hg103 : (!(((r21.1) == (r99.1)) && ((r21.2.1) == (r99.2.1)))) with _ | _
                  · replace hM := ifp (not_f hg103) hM
                    refine r_y rfl ?_
                    refine r_v (Value.int .i64 (4)) rfl rfl rfl rfl ?_
                    refine r_y rfl ?_
                    refine r_v (Value.pointer (some ⟨b7, 4, none⟩)) rfl rfl rfl rfl ?_
                    refine r_y rfl ?_
                    refine r_l (Value.int .i64 (r21.2.2)) 5 _ _ _ _ rfl rfl rfl rfl rfl ?_
                    refine r_y rfl ?_
                    refine r_v (Value.int .i64 (r99.2.2)) rfl rfl rfl rfl ?_
                    refine r_y rfl ?_
                    refine r_v (Value.bool (((r21.2.2 : Int) != r99.2.2))) rfl rfl rfl rfl ?_
                    refine r_v (Value.bool (((r21.2.2 : Int) != r99.2.2))) rfl rfl rfl rfl ?_
                    refine lx_nil ?_
                    refine hK102 _ _ ?_; try clear hK102 K102
                    refine A_cond (((r21.2.2 : Int) != r99.2.2)) rfl (fun hc104 => ?_) (fun hc104 => ?_)
                    · replace hM := ifp (bne_iff_ne.1 hc104) hM
                      refine A_seq fun K105 hK105 => ?_
                      refine A_reg ?_
                      refine r_v (Value.bool (false)) rfl rfl rfl rfl ?_
                      refine lx_nil ?_
                      refine hK105 _ _ ?_; try clear hK105 K105
                      obtain rfl := Option.some.inj hM
                      refine A_ret (fun hn => ends_eq (v0 := Value.bool (false)) rfl (res1 rfl))
                    · replace hM := ifn (bne_f hc104) hM
                      refine A_skip ?_
                      refine hK96 _ _ ?_; try clear hK96 K96
                      refine A_reg ?_
                      refine r_v (Value.int .i64 (4)) rfl rfl rfl rfl ?_
                      refine r_v (Value.int .i64 (5)) rfl rfl (wi64 rfl (by decide) (by decide)) rfl ?_
                      refine r_v (Value.int .i64 (5)) rfl rfl rfl rfl ?_
                      refine lx_nil ?_
                      refine hK93 _ _ ?_; try clear hK93 K93
                      refine AL_unroll fun K106 hK106 => ?_
                      refine A_seq fun K107 hK107 => ?_
                      refine A_seq fun K108 hK108 => ?_
                      refine A_reg ?_
                      refine r_v (Value.int .i64 (5)) rfl rfl rfl rfl ?_
                      refine r_v (Value.bool (true)) rfl rfl rfl rfl ?_
                      refine lx_nil ?_
                      refine hK108 _ _ ?_; try clear hK108 K108
                      refine A_cond true rfl (fun _ => ?_) (fun h_ => nomatch h_)
                      refine A_skip ?_
                      refine hK107 _ _ ?_; try clear hK107 K107
                      refine A_seq fun K109 hK109 => ?_
                      refine A_block ?_
                      refine A_seq fun K110 hK110 => ?_
                      refine A_draw [] (by decide +kernel) (fun hn => sep_nil) ?_
                      refine r_v (s36) rfl rfl rfl rfl ?_
                      refine r_v (Value.int .i64 (5)) rfl rfl rfl rfl ?_
                      replace hM := ck_some hM; obtain ⟨ck111, hM⟩ := hM
                      refine r_v (elA s36 (((5 : Int)).toNat * 1)) rfl rfl rfl (ev_v (ev_idxSl rfl rfl rfl (Sl.shp H38) ck111)) ?_
                      refine r_le (Value.string (⟨(([([97, 100, 100] : List UInt8), ([115, 117, 98] : List UInt8), ([97, 100, 100, 115, 97, 116] : List UInt8), ([115, 117, 98, 115, 97, 116] : List UInt8), ([97, 110, 100] : List UInt8), ([111, 114] : List UInt8), ([120, 111, 114] : List UInt8), ([101, 113] : List UInt8), ([108, 101, 115, 115] : List UInt8)])[((5 : Int)).toNat]!).toArray⟩)) (En := encS) (([([97, 100, 100] : List UInt8), ([115, 117, 98] : List UInt8), ([97, 100, 100, 115, 97, 116] : List UInt8), ([115, 117, 98, 115, 97, 116] : List UInt8), ([97, 110, 100] : List UInt8), ([111, 114] : List UInt8), ([120, 111, 114] : List UInt8), ([101, 113] : List UInt8), ([108, 101, 115, 115] : List UInt8)])[((5 : Int)).toNat]!) (((5 : Int)).toNat) 0 rfl rfl (rd_own H38 (mem_chunk (Ls := [[(b101, 24, #[Value.int .i64 (r99.1), U (hi (r99.2.1)), U (lo (r99.2.1))])], [(b88, 24, #[Value.int .i64 (r86.1), U (hi (r86.2.1)), U (lo (r86.2.1))])], [(b75, 24, #[Value.int .i64 (r73.1), U (hi (r73.2.1)), U (lo (r73.2.1))])], [(b62, 24, #[Value.int .i64 (r60.1), U (hi (r60.2.1)), U (lo (r60.2.1))])], [(b49, 24, #[Value.int .i64 (r47.1), U (hi (r47.2.1)), U (lo (r47.2.1))])], [(b7, 40, #[Value.int .i64 (r9.2.2), Value.int .i64 (r12.2.2), Value.int .i64 (r15.2.2), Value.int .i64 (r18.2.2), Value.int .i64 (r21.2.2), Value.int .i64 (r24.2.2), Value.int .i64 (r27.2.2), Value.int .i64 (r30.2.2), Value.int .i64 (r33.2.2)])], [(b5, 39, #[Value.int .i64 (r9.1), U (hi (r9.2.1)), U (lo (r9.2.1)), Value.int .i64 (r12.1), U (hi (r12.2.1)), U (lo (r12.2.1)), Value.int .i64 (r15.1), U (hi (r15.2.1)), U (lo (r15.2.1)), Value.int .i64 (r18.1), U (hi (r18.2.1)), U (lo (r18.2.1)), Value.int .i64 (r21.1), U (hi (r21.2.1)), U (lo (r21.2.1)), Value.int .i64 (r24.1), U (hi (r24.2.1)), U (lo (r24.2.1)), Value.int .i64 (r27.1), U (hi (r27.2.1)), U (lo (r27.2.1)), Value.int .i64 (r30.1), U (hi (r30.2.1)), U (lo (r30.2.1)), Value.int .i64 (r33.1), U (hi (r33.2.1)), U (lo (r33.2.1))])], [(b3, 24, #[Value.int .i64 (b_0), U (hi (b_1)), U (lo (b_1))])], [(b2, 24, #[Value.int .i64 (a_0), U (hi (a_1)), U (lo (a_1))])], S37]) (k := 9) rfl rfl)) (get_of ck111) rfl ?_
                      refine r_l (Value.agg #[Value.int .i64 (a_0), U (hi (a_1)), U (lo (a_1))]) 8 _ _ _ _ rfl rfl rfl rfl rfl ?_
                      refine r_l (Value.agg #[Value.int .i64 (b_0), U (hi (b_1)), U (lo (b_1))]) 7 _ _ _ _ rfl rfl rfl rfl rfl ?_
                      replace hM := bind_sm hM; obtain ⟨r112, hr113, hM⟩ := hM
                      refine r_c (Value.tuple #[Value.agg #[Value.int .i64 (r112.1), U (hi (r112.2.1)), U (lo (r112.2.1))], Value.int .i64 (r112.2.2)]) rfl _ _ (ev_callF rfl call_28 rfl) (shunterref02_Two_g N (([([97, 100, 100] : List UInt8), ([115, 117, 98] : List UInt8), ([97, 100, 100, 115, 97, 116] : List UInt8), ([115, 117, 98, 115, 97, 116] : List UInt8), ([97, 110, 100] : List UInt8), ([111, 114] : List UInt8), ([120, 111, 114] : List UInt8), ([101, 113] : List UInt8), ([108, 101, 115, 115] : List UInt8)])[((5 : Int)).toNat]!) (a_0) (a_1) (b_0) (b_1) _ hr113) ?_
                      refine r_v (Value.tuple #[Value.agg #[Value.int .i64 (r112.1), U (hi (r112.2.1)), U (lo (r112.2.1))], Value.int .i64 (r112.2.2)]) rfl rfl rfl rfl ?_
                      refine r_v (Value.agg #[Value.int .i64 (r112.1), U (hi (r112.2.1)), U (lo (r112.2.1))]) rfl rfl rfl rfl ?_
                      refine r_v (Value.int .i64 (r112.2.2)) rfl rfl rfl rfl ?_
                      refine r_a (24, #[Value.int .i64 (0), U (0#64), U (0#64)]) rfl rfl rfl (fun b114 => ?_) (.inl rfl)
                      refine r_sn (List.flatten [[(b114, 24, #[Value.int .i64 (r112.1), U (hi (r112.2.1)), U (lo (r112.2.1))])], [(b101, 24, #[Value.int .i64 (r99.1), U (hi (r99.2.1)), U (lo (r99.2.1))])], [(b88, 24, #[Value.int .i64 (r86.1), U (hi (r86.2.1)), U (lo (r86.2.1))])], [(b75, 24, #[Value.int .i64 (r73.1), U (hi (r73.2.1)), U (lo (r73.2.1))])], [(b62, 24, #[Value.int .i64 (r60.1), U (hi (r60.2.1)), U (lo (r60.2.1))])], [(b49, 24, #[Value.int .i64 (r47.1), U (hi (r47.2.1)), U (lo (r47.2.1))])], [(b7, 40, #[Value.int .i64 (r9.2.2), Value.int .i64 (r12.2.2), Value.int .i64 (r15.2.2), Value.int .i64 (r18.2.2), Value.int .i64 (r21.2.2), Value.int .i64 (r24.2.2), Value.int .i64 (r27.2.2), Value.int .i64 (r30.2.2), Value.int .i64 (r33.2.2)])], [(b5, 39, #[Value.int .i64 (r9.1), U (hi (r9.2.1)), U (lo (r9.2.1)), Value.int .i64 (r12.1), U (hi (r12.2.1)), U (lo (r12.2.1)), Value.int .i64 (r15.1), U (hi (r15.2.1)), U (lo (r15.2.1)), Value.int .i64 (r18.1), U (hi (r18.2.1)), U (lo (r18.2.1)), Value.int .i64 (r21.1), U (hi (r21.2.1)), U (lo (r21.2.1)), Value.int .i64 (r24.1), U (hi (r24.2.1)), U (lo (r24.2.1)), Value.int .i64 (r27.1), U (hi (r27.2.1)), U (lo (r27.2.1)), Value.int .i64 (r30.1), U (hi (r30.2.1)), U (lo (r30.2.1)), Value.int .i64 (r33.1), U (hi (r33.2.1)), U (lo (r33.2.1))])], [(b3, 24, #[Value.int .i64 (b_0), U (hi (b_1)), U (lo (b_1))])], [(b2, 24, #[Value.int .i64 (a_0), U (hi (a_1)), U (lo (a_1))])], S37]) 0 _ _ _ (#[Value.int .i64 (0), U (0#64), U (0#64)]) (#[Value.int .i64 (r112.1), U (hi (r112.2.1)), U (lo (r112.2.1))]) (#[Value.int .i64 (r112.1), U (hi (r112.2.1)), U (lo (r112.2.1))]) rfl rfl rfl rfl rfl (.of rfl rfl) rfl rfl ?_
                      refine r_v (Value.int .i64 (r112.2.2)) rfl rfl rfl rfl ?_
                      refine lx_nil ?_
                      refine hK110 _ _ ?_; try clear hK110 K110
                      refine A_gen [(2, Value.pointer (some ⟨b2, 0, none⟩)), (3, Value.pointer (some ⟨b3, 0, none⟩)), (5, Value.pointer (some ⟨b5, 0, none⟩)), (6, Value.pointer (some ⟨b7, 0, none⟩)), (7, s36), (8, Value.int .i64 (5)), (9, Value.pointer (some ⟨b114, 0, none⟩)), (10, Value.int .i64 (r112.2.2))] rfl (fun T => ?_)
                      refine A_seq fun K115 hK115 => ?_
                      refine A_draw [] (by decide +kernel) (fun hn => sep_nil) ?_
                      refine r_v (Value.int .i64 (5)) rfl rfl rfl rfl ?_
                      refine r_v (Value.pointer (some ⟨b5, 15, none⟩)) rfl rfl rfl rfl ?_
                      refine r_l (Value.agg #[Value.int .i64 (r24.1), U (hi (r24.2.1)), U (lo (r24.2.1))]) 7 _ _ _ _ rfl rfl rfl rfl rfl ?_
                      refine r_l (Value.agg #[Value.int .i64 (r112.1), U (hi (r112.2.1)), U (lo (r112.2.1))]) 0 _ _ _ _ rfl rfl rfl rfl rfl ?_
                      refine r_v (Value.bool (!(((r24.1) == (r112.1)) && ((r24.2.1) == (r112.2.1))))) rfl rfl rfl (ev_binNe rfl rfl eg_24 (eqst_24 (r24.1) (r112.1) (r24.2.1) (r112.2.1))) ?_
                      refine r_v (Value.bool (!(((r24.1) == (r112.1)) && ((r24.2.1) == (r112.2.1))))) rfl rfl rfl rfl ?_
                      rcases hg116 : (!(((r24.1) == (r112.1)) && ((r24.2.1) == (r112.2.1)))) with _ | _
                      · replace hM := ifp (not_f hg116) hM
                        refine r_y rfl ?_
                        refine r_v (Value.int .i64 (5)) rfl rfl rfl rfl ?_
                        refine r_y rfl ?_
                        refine r_v (Value.pointer (some ⟨b7, 5, none⟩)) rfl rfl rfl rfl ?_
                        refine r_y rfl ?_
                        refine r_l (Value.int .i64 (r24.2.2)) 6 _ _ _ _ rfl rfl rfl rfl rfl ?_
                        refine r_y rfl ?_
                        refine r_v (Value.int .i64 (r112.2.2)) rfl rfl rfl rfl ?_
                        refine r_y rfl ?_
                        refine r_v (Value.bool (((r24.2.2 : Int) != r112.2.2))) rfl rfl rfl rfl ?_
                        refine r_v (Value.bool (((r24.2.2 : Int) != r112.2.2))) rfl rfl rfl rfl ?_
                        refine lx_nil ?_
                        refine hK115 _ _ ?_; try clear hK115 K115
                        refine A_cond (((r24.2.2 : Int) != r112.2.2)) rfl (fun hc117 => ?_) (fun hc117 => ?_)
                        · replace hM := ifp (bne_iff_ne.1 hc117) hM
                          refine A_seq fun K118 hK118 => ?_
                          refine A_reg ?_
                          refine r_v (Value.bool (false)) rfl rfl rfl rfl ?_
                          refine lx_nil ?_
                          refine hK118 _ _ ?_; try clear hK118 K118
                          obtain rfl := Option.some.inj hM
                          refine A_ret (fun hn => ends_eq (v0 := Value.bool (false)) rfl (res1 rfl))
                        · replace hM := ifn (bne_f hc117) hM
                          refine A_skip ?_
                          refine hK109 _ _ ?_; try clear hK109 K109
                          refine A_reg ?_
                          refine r_v (Value.int .i64 (5)) rfl rfl rfl rfl ?_
                          refine r_v (Value.int .i64 (6)) rfl rfl (wi64 rfl (by decide) (by decide)) rfl ?_
                          refine r_v (Value.int .i64 (6)) rfl rfl rfl rfl ?_
                          refine lx_nil ?_
                          refine hK106 _ _ ?_; try clear hK106 K106
                          refine AL_unroll fun K119 hK119 => ?_
                          refine A_seq fun K120 hK120 => ?_
                          refine A_seq fun K121 hK121 => ?_
                          refine A_reg ?_
                          refine r_v (Value.int .i64 (6)) rfl rfl rfl rfl ?_
                          refine r_v (Value.bool (true)) rfl rfl rfl rfl ?_
                          refine lx_nil ?_
                          refine hK121 _ _ ?_; try clear hK121 K121
                          refine A_cond true rfl (fun _ => ?_) (fun h_ => nomatch h_)
                          refine A_skip ?_
                          refine hK120 _ _ ?_; try clear hK120 K120
                          refine A_seq fun K122 hK122 => ?_
                          refine A_block ?_
                          refine A_seq fun K123 hK123 => ?_
                          refine A_draw [] (by decide +kernel) (fun hn => sep_nil) ?_
                          refine r_v (s36) rfl rfl rfl rfl ?_
                          refine r_v (Value.int .i64 (6)) rfl rfl rfl rfl ?_
                          replace hM := ck_some hM; obtain ⟨ck124, hM⟩ := hM
                          refine r_v (elA s36 (((6 : Int)).toNat * 1)) rfl rfl rfl (ev_v (ev_idxSl rfl rfl rfl (Sl.shp H38) ck124)) ?_
                          refine r_le (Value.string (⟨(([([97, 100, 100] : List UInt8), ([115, 117, 98] : List UInt8), ([97, 100, 100, 115, 97, 116] : List UInt8), ([115, 117, 98, 115, 97, 116] : List UInt8), ([97, 110, 100] : List UInt8), ([111, 114] : List UInt8), ([120, 111, 114] : List UInt8), ([101, 113] : List UInt8), ([108, 101, 115, 115] : List UInt8)])[((6 : Int)).toNat]!).toArray⟩)) (En := encS) (([([97, 100, 100] : List UInt8), ([115, 117, 98] : List UInt8), ([97, 100, 100, 115, 97, 116] : List UInt8), ([115, 117, 98, 115, 97, 116] : List UInt8), ([97, 110, 100] : List UInt8), ([111, 114] : List UInt8), ([120, 111, 114] : List UInt8), ([101, 113] : List UInt8), ([108, 101, 115, 115] : List UInt8)])[((6 : Int)).toNat]!) (((6 : Int)).toNat) 0 rfl rfl (rd_own H38 (mem_chunk (Ls := [[(b114, 24, #[Value.int .i64 (r112.1), U (hi (r112.2.1)), U (lo (r112.2.1))])], [(b101, 24, #[Value.int .i64 (r99.1), U (hi (r99.2.1)), U (lo (r99.2.1))])], [(b88, 24, #[Value.int .i64 (r86.1), U (hi (r86.2.1)), U (lo (r86.2.1))])], [(b75, 24, #[Value.int .i64 (r73.1), U (hi (r73.2.1)), U (lo (r73.2.1))])], [(b62, 24, #[Value.int .i64 (r60.1), U (hi (r60.2.1)), U (lo (r60.2.1))])], [(b49, 24, #[Value.int .i64 (r47.1), U (hi (r47.2.1)), U (lo (r47.2.1))])], [(b7, 40, #[Value.int .i64 (r9.2.2), Value.int .i64 (r12.2.2), Value.int .i64 (r15.2.2), Value.int .i64 (r18.2.2), Value.int .i64 (r21.2.2), Value.int .i64 (r24.2.2), Value.int .i64 (r27.2.2), Value.int .i64 (r30.2.2), Value.int .i64 (r33.2.2)])], [(b5, 39, #[Value.int .i64 (r9.1), U (hi (r9.2.1)), U (lo (r9.2.1)), Value.int .i64 (r12.1), U (hi (r12.2.1)), U (lo (r12.2.1)), Value.int .i64 (r15.1), U (hi (r15.2.1)), U (lo (r15.2.1)), Value.int .i64 (r18.1), U (hi (r18.2.1)), U (lo (r18.2.1)), Value.int .i64 (r21.1), U (hi (r21.2.1)), U (lo (r21.2.1)), Value.int .i64 (r24.1), U (hi (r24.2.1)), U (lo (r24.2.1)), Value.int .i64 (r27.1), U (hi (r27.2.1)), U (lo (r27.2.1)), Value.int .i64 (r30.1), U (hi (r30.2.1)), U (lo (r30.2.1)), Value.int .i64 (r33.1), U (hi (r33.2.1)), U (lo (r33.2.1))])], [(b3, 24, #[Value.int .i64 (b_0), U (hi (b_1)), U (lo (b_1))])], [(b2, 24, #[Value.int .i64 (a_0), U (hi (a_1)), U (lo (a_1))])], S37]) (k := 10) rfl rfl)) (get_of ck124) rfl ?_
                          refine r_l (Value.agg #[Value.int .i64 (a_0), U (hi (a_1)), U (lo (a_1))]) 9 _ _ _ _ rfl rfl rfl rfl rfl ?_
                          refine r_l (Value.agg #[Value.int .i64 (b_0), U (hi (b_1)), U (lo (b_1))]) 8 _ _ _ _ rfl rfl rfl rfl rfl ?_
                          replace hM := bind_sm hM; obtain ⟨r125, hr126, hM⟩ := hM
                          refine r_c (Value.tuple #[Value.agg #[Value.int .i64 (r125.1), U (hi (r125.2.1)), U (lo (r125.2.1))], Value.int .i64 (r125.2.2)]) rfl _ _ (ev_callF rfl call_28 rfl) (shunterref02_Two_g N (([([97, 100, 100] : List UInt8), ([115, 117, 98] : List UInt8), ([97, 100, 100, 115, 97, 116] : List UInt8), ([115, 117, 98, 115, 97, 116] : List UInt8), ([97, 110, 100] : List UInt8), ([111, 114] : List UInt8), ([120, 111, 114] : List UInt8), ([101, 113] : List UInt8), ([108, 101, 115, 115] : List UInt8)])[((6 : Int)).toNat]!) (a_0) (a_1) (b_0) (b_1) _ hr126) ?_
                          refine r_v (Value.tuple #[Value.agg #[Value.int .i64 (r125.1), U (hi (r125.2.1)), U (lo (r125.2.1))], Value.int .i64 (r125.2.2)]) rfl rfl rfl rfl ?_
                          refine r_v (Value.agg #[Value.int .i64 (r125.1), U (hi (r125.2.1)), U (lo (r125.2.1))]) rfl rfl rfl rfl ?_
                          refine r_v (Value.int .i64 (r125.2.2)) rfl rfl rfl rfl ?_
                          refine r_a (24, #[Value.int .i64 (0), U (0#64), U (0#64)]) rfl rfl rfl (fun b127 => ?_) (.inl rfl)
                          refine r_sn (List.flatten [[(b127, 24, #[Value.int .i64 (r125.1), U (hi (r125.2.1)), U (lo (r125.2.1))])], [(b114, 24, #[Value.int .i64 (r112.1), U (hi (r112.2.1)), U (lo (r112.2.1))])], [(b101, 24, #[Value.int .i64 (r99.1), U (hi (r99.2.1)), U (lo (r99.2.1))])], [(b88, 24, #[Value.int .i64 (r86.1), U (hi (r86.2.1)), U (lo (r86.2.1))])], [(b75, 24, #[Value.int .i64 (r73.1), U (hi (r73.2.1)), U (lo (r73.2.1))])], [(b62, 24, #[Value.int .i64 (r60.1), U (hi (r60.2.1)), U (lo (r60.2.1))])], [(b49, 24, #[Value.int .i64 (r47.1), U (hi (r47.2.1)), U (lo (r47.2.1))])], [(b7, 40, #[Value.int .i64 (r9.2.2), Value.int .i64 (r12.2.2), Value.int .i64 (r15.2.2), Value.int .i64 (r18.2.2), Value.int .i64 (r21.2.2), Value.int .i64 (r24.2.2), Value.int .i64 (r27.2.2), Value.int .i64 (r30.2.2), Value.int .i64 (r33.2.2)])], [(b5, 39, #[Value.int .i64 (r9.1), U (hi (r9.2.1)), U (lo (r9.2.1)), Value.int .i64 (r12.1), U (hi (r12.2.1)), U (lo (r12.2.1)), Value.int .i64 (r15.1), U (hi (r15.2.1)), U (lo (r15.2.1)), Value.int .i64 (r18.1), U (hi (r18.2.1)), U (lo (r18.2.1)), Value.int .i64 (r21.1), U (hi (r21.2.1)), U (lo (r21.2.1)), Value.int .i64 (r24.1), U (hi (r24.2.1)), U (lo (r24.2.1)), Value.int .i64 (r27.1), U (hi (r27.2.1)), U (lo (r27.2.1)), Value.int .i64 (r30.1), U (hi (r30.2.1)), U (lo (r30.2.1)), Value.int .i64 (r33.1), U (hi (r33.2.1)), U (lo (r33.2.1))])], [(b3, 24, #[Value.int .i64 (b_0), U (hi (b_1)), U (lo (b_1))])], [(b2, 24, #[Value.int .i64 (a_0), U (hi (a_1)), U (lo (a_1))])], S37]) 0 _ _ _ (#[Value.int .i64 (0), U (0#64), U (0#64)]) (#[Value.int .i64 (r125.1), U (hi (r125.2.1)), U (lo (r125.2.1))]) (#[Value.int .i64 (r125.1), U (hi (r125.2.1)), U (lo (r125.2.1))]) rfl rfl rfl rfl rfl (.of rfl rfl) rfl rfl ?_
                          refine r_v (Value.int .i64 (r125.2.2)) rfl rfl rfl rfl ?_
                          refine lx_nil ?_
                          refine hK123 _ _ ?_; try clear hK123 K123
                          refine A_gen [(2, Value.pointer (some ⟨b2, 0, none⟩)), (3, Value.pointer (some ⟨b3, 0, none⟩)), (5, Value.pointer (some ⟨b5, 0, none⟩)), (6, Value.pointer (some ⟨b7, 0, none⟩)), (7, s36), (8, Value.int .i64 (6)), (9, Value.pointer (some ⟨b127, 0, none⟩)), (10, Value.int .i64 (r125.2.2))] rfl (fun T => ?_)
                          refine A_seq fun K128 hK128 => ?_
                          refine A_draw [] (by decide +kernel) (fun hn => sep_nil) ?_
                          refine r_v (Value.int .i64 (6)) rfl rfl rfl rfl ?_
                          refine r_v (Value.pointer (some ⟨b5, 18, none⟩)) rfl rfl rfl rfl ?_
                          refine r_l (Value.agg #[Value.int .i64 (r27.1), U (hi (r27.2.1)), U (lo (r27.2.1))]) 8 _ _ _ _ rfl rfl rfl rfl rfl ?_
                          refine r_l (Value.agg #[Value.int .i64 (r125.1), U (hi (r125.2.1)), U (lo (r125.2.1))]) 0 _ _ _ _ rfl rfl rfl rfl rfl ?_
                          refine r_v (Value.bool (!(((r27.1) == (r125.1)) && ((r27.2.1) == (r125.2.1))))) rfl rfl rfl (ev_binNe rfl rfl eg_24 (eqst_24 (r27.1) (r125.1) (r27.2.1) (r125.2.1))) ?_
                          refine r_v (Value.bool (!(((r27.1) == (r125.1)) && ((r27.2.1) == (r125.2.1))))) rfl rfl rfl rfl ?_
                          rcases hg129 : (!(((r27.1) == (r125.1)) && ((r27.2.1) == (r125.2.1)))) with _ | _
                          · replace hM := ifp (not_f hg129) hM
                            refine r_y rfl ?_
                            refine r_v (Value.int .i64 (6)) rfl rfl rfl rfl ?_
                            refine r_y rfl ?_
                            refine r_v (Value.pointer (some ⟨b7, 6, none⟩)) rfl rfl rfl rfl ?_
                            refine r_y rfl ?_
                            refine r_l (Value.int .i64 (r27.2.2)) 7 _ _ _ _ rfl rfl rfl rfl rfl ?_
                            refine r_y rfl ?_
                            refine r_v (Value.int .i64 (r125.2.2)) rfl rfl rfl rfl ?_
                            refine r_y rfl ?_
                            refine r_v (Value.bool (((r27.2.2 : Int) != r125.2.2))) rfl rfl rfl rfl ?_
                            refine r_v (Value.bool (((r27.2.2 : Int) != r125.2.2))) rfl rfl rfl rfl ?_
                            refine lx_nil ?_
                            refine hK128 _ _ ?_; try clear hK128 K128
                            refine A_cond (((r27.2.2 : Int) != r125.2.2)) rfl (fun hc130 => ?_) (fun hc130 => ?_)
                            · replace hM := ifp (bne_iff_ne.1 hc130) hM
                              refine A_seq fun K131 hK131 => ?_
                              refine A_reg ?_
                              refine r_v (Value.bool (false)) rfl rfl rfl rfl ?_
                              refine lx_nil ?_
                              refine hK131 _ _ ?_; try clear hK131 K131
                              obtain rfl := Option.some.inj hM
                              refine A_ret (fun hn => ends_eq (v0 := Value.bool (false)) rfl (res1 rfl))
                            · replace hM := ifn (bne_f hc130) hM
                              refine A_skip ?_
                              refine hK122 _ _ ?_; try clear hK122 K122
                              refine A_reg ?_
                              refine r_v (Value.int .i64 (6)) rfl rfl rfl rfl ?_
                              refine r_v (Value.int .i64 (7)) rfl rfl (wi64 rfl (by decide) (by decide)) rfl ?_
                              refine r_v (Value.int .i64 (7)) rfl rfl rfl rfl ?_
                              refine lx_nil ?_
                              refine hK119 _ _ ?_; try clear hK119 K119
                              refine AL_unroll fun K132 hK132 => ?_
                              refine A_seq fun K133 hK133 => ?_
                              refine A_seq fun K134 hK134 => ?_
                              refine A_reg ?_
                              refine r_v (Value.int .i64 (7)) rfl rfl rfl rfl ?_
                              refine r_v (Value.bool (true)) rfl rfl rfl rfl ?_
                              refine lx_nil ?_
                              refine hK134 _ _ ?_; try clear hK134 K134
                              refine A_cond true rfl (fun _ => ?_) (fun h_ => nomatch h_)
                              refine A_skip ?_
                              refine hK133 _ _ ?_; try clear hK133 K133
                              refine A_seq fun K135 hK135 => ?_
                              refine A_block ?_
                              refine A_seq fun K136 hK136 => ?_
                              refine A_draw [] (by decide +kernel) (fun hn => sep_nil) ?_
                              refine r_v (s36) rfl rfl rfl rfl ?_
                              refine r_v (Value.int .i64 (7)) rfl rfl rfl rfl ?_
                              replace hM := ck_some hM; obtain ⟨ck137, hM⟩ := hM
                              refine r_v (elA s36 (((7 : Int)).toNat * 1)) rfl rfl rfl (ev_v (ev_idxSl rfl rfl rfl (Sl.shp H38) ck137)) ?_
                              refine r_le (Value.string (⟨(([([97, 100, 100] : List UInt8), ([115, 117, 98] : List UInt8), ([97, 100, 100, 115, 97, 116] : List UInt8), ([115, 117, 98, 115, 97, 116] : List UInt8), ([97, 110, 100] : List UInt8), ([111, 114] : List UInt8), ([120, 111, 114] : List UInt8), ([101, 113] : List UInt8), ([108, 101, 115, 115] : List UInt8)])[((7 : Int)).toNat]!).toArray⟩)) (En := encS) (([([97, 100, 100] : List UInt8), ([115, 117, 98] : List UInt8), ([97, 100, 100, 115, 97, 116] : List UInt8), ([115, 117, 98, 115, 97, 116] : List UInt8), ([97, 110, 100] : List UInt8), ([111, 114] : List UInt8), ([120, 111, 114] : List UInt8), ([101, 113] : List UInt8), ([108, 101, 115, 115] : List UInt8)])[((7 : Int)).toNat]!) (((7 : Int)).toNat) 0 rfl rfl (rd_own H38 (mem_chunk (Ls := [[(b127, 24, #[Value.int .i64 (r125.1), U (hi (r125.2.1)), U (lo (r125.2.1))])], [(b114, 24, #[Value.int .i64 (r112.1), U (hi (r112.2.1)), U (lo (r112.2.1))])], [(b101, 24, #[Value.int .i64 (r99.1), U (hi (r99.2.1)), U (lo (r99.2.1))])], [(b88, 24, #[Value.int .i64 (r86.1), U (hi (r86.2.1)), U (lo (r86.2.1))])], [(b75, 24, #[Value.int .i64 (r73.1), U (hi (r73.2.1)), U (lo (r73.2.1))])], [(b62, 24, #[Value.int .i64 (r60.1), U (hi (r60.2.1)), U (lo (r60.2.1))])], [(b49, 24, #[Value.int .i64 (r47.1), U (hi (r47.2.1)), U (lo (r47.2.1))])], [(b7, 40, #[Value.int .i64 (r9.2.2), Value.int .i64 (r12.2.2), Value.int .i64 (r15.2.2), Value.int .i64 (r18.2.2), Value.int .i64 (r21.2.2), Value.int .i64 (r24.2.2), Value.int .i64 (r27.2.2), Value.int .i64 (r30.2.2), Value.int .i64 (r33.2.2)])], [(b5, 39, #[Value.int .i64 (r9.1), U (hi (r9.2.1)), U (lo (r9.2.1)), Value.int .i64 (r12.1), U (hi (r12.2.1)), U (lo (r12.2.1)), Value.int .i64 (r15.1), U (hi (r15.2.1)), U (lo (r15.2.1)), Value.int .i64 (r18.1), U (hi (r18.2.1)), U (lo (r18.2.1)), Value.int .i64 (r21.1), U (hi (r21.2.1)), U (lo (r21.2.1)), Value.int .i64 (r24.1), U (hi (r24.2.1)), U (lo (r24.2.1)), Value.int .i64 (r27.1), U (hi (r27.2.1)), U (lo (r27.2.1)), Value.int .i64 (r30.1), U (hi (r30.2.1)), U (lo (r30.2.1)), Value.int .i64 (r33.1), U (hi (r33.2.1)), U (lo (r33.2.1))])], [(b3, 24, #[Value.int .i64 (b_0), U (hi (b_1)), U (lo (b_1))])], [(b2, 24, #[Value.int .i64 (a_0), U (hi (a_1)), U (lo (a_1))])], S37]) (k := 11) rfl rfl)) (get_of ck137) rfl ?_
                              refine r_l (Value.agg #[Value.int .i64 (a_0), U (hi (a_1)), U (lo (a_1))]) 10 _ _ _ _ rfl rfl rfl rfl rfl ?_
                              refine r_l (Value.agg #[Value.int .i64 (b_0), U (hi (b_1)), U (lo (b_1))]) 9 _ _ _ _ rfl rfl rfl rfl rfl ?_
                              replace hM := bind_sm hM; obtain ⟨r138, hr139, hM⟩ := hM
                              refine r_c (Value.tuple #[Value.agg #[Value.int .i64 (r138.1), U (hi (r138.2.1)), U (lo (r138.2.1))], Value.int .i64 (r138.2.2)]) rfl _ _ (ev_callF rfl call_28 rfl) (shunterref02_Two_g N (([([97, 100, 100] : List UInt8), ([115, 117, 98] : List UInt8), ([97, 100, 100, 115, 97, 116] : List UInt8), ([115, 117, 98, 115, 97, 116] : List UInt8), ([97, 110, 100] : List UInt8), ([111, 114] : List UInt8), ([120, 111, 114] : List UInt8), ([101, 113] : List UInt8), ([108, 101, 115, 115] : List UInt8)])[((7 : Int)).toNat]!) (a_0) (a_1) (b_0) (b_1) _ hr139) ?_
                              refine r_v (Value.tuple #[Value.agg #[Value.int .i64 (r138.1), U (hi (r138.2.1)), U (lo (r138.2.1))], Value.int .i64 (r138.2.2)]) rfl rfl rfl rfl ?_
                              refine r_v (Value.agg #[Value.int .i64 (r138.1), U (hi (r138.2.1)), U (lo (r138.2.1))]) rfl rfl rfl rfl ?_
                              refine r_v (Value.int .i64 (r138.2.2)) rfl rfl rfl rfl ?_
                              refine r_a (24, #[Value.int .i64 (0), U (0#64), U (0#64)]) rfl rfl rfl (fun b140 => ?_) (.inl rfl)
                              refine r_sn (List.flatten [[(b140, 24, #[Value.int .i64 (r138.1), U (hi (r138.2.1)), U (lo (r138.2.1))])], [(b127, 24, #[Value.int .i64 (r125.1), U (hi (r125.2.1)), U (lo (r125.2.1))])], [(b114, 24, #[Value.int .i64 (r112.1), U (hi (r112.2.1)), U (lo (r112.2.1))])], [(b101, 24, #[Value.int .i64 (r99.1), U (hi (r99.2.1)), U (lo (r99.2.1))])], [(b88, 24, #[Value.int .i64 (r86.1), U (hi (r86.2.1)), U (lo (r86.2.1))])], [(b75, 24, #[Value.int .i64 (r73.1), U (hi (r73.2.1)), U (lo (r73.2.1))])], [(b62, 24, #[Value.int .i64 (r60.1), U (hi (r60.2.1)), U (lo (r60.2.1))])], [(b49, 24, #[Value.int .i64 (r47.1), U (hi (r47.2.1)), U (lo (r47.2.1))])], [(b7, 40, #[Value.int .i64 (r9.2.2), Value.int .i64 (r12.2.2), Value.int .i64 (r15.2.2), Value.int .i64 (r18.2.2), Value.int .i64 (r21.2.2), Value.int .i64 (r24.2.2), Value.int .i64 (r27.2.2), Value.int .i64 (r30.2.2), Value.int .i64 (r33.2.2)])], [(b5, 39, #[Value.int .i64 (r9.1), U (hi (r9.2.1)), U (lo (r9.2.1)), Value.int .i64 (r12.1), U (hi (r12.2.1)), U (lo (r12.2.1)), Value.int .i64 (r15.1), U (hi (r15.2.1)), U (lo (r15.2.1)), Value.int .i64 (r18.1), U (hi (r18.2.1)), U (lo (r18.2.1)), Value.int .i64 (r21.1), U (hi (r21.2.1)), U (lo (r21.2.1)), Value.int .i64 (r24.1), U (hi (r24.2.1)), U (lo (r24.2.1)), Value.int .i64 (r27.1), U (hi (r27.2.1)), U (lo (r27.2.1)), Value.int .i64 (r30.1), U (hi (r30.2.1)), U (lo (r30.2.1)), Value.int .i64 (r33.1), U (hi (r33.2.1)), U (lo (r33.2.1))])], [(b3, 24, #[Value.int .i64 (b_0), U (hi (b_1)), U (lo (b_1))])], [(b2, 24, #[Value.int .i64 (a_0), U (hi (a_1)), U (lo (a_1))])], S37]) 0 _ _ _ (#[Value.int .i64 (0), U (0#64), U (0#64)]) (#[Value.int .i64 (r138.1), U (hi (r138.2.1)), U (lo (r138.2.1))]) (#[Value.int .i64 (r138.1), U (hi (r138.2.1)), U (lo (r138.2.1))]) rfl rfl rfl rfl rfl (.of rfl rfl) rfl rfl ?_
                              refine r_v (Value.int .i64 (r138.2.2)) rfl rfl rfl rfl ?_
                              refine lx_nil ?_
                              refine hK136 _ _ ?_; try clear hK136 K136
                              refine A_gen [(2, Value.pointer (some ⟨b2, 0, none⟩)), (3, Value.pointer (some ⟨b3, 0, none⟩)), (5, Value.pointer (some ⟨b5, 0, none⟩)), (6, Value.pointer (some ⟨b7, 0, none⟩)), (7, s36), (8, Value.int .i64 (7)), (9, Value.pointer (some ⟨b140, 0, none⟩)), (10, Value.int .i64 (r138.2.2))] rfl (fun T => ?_)
                              refine A_seq fun K141 hK141 => ?_
                              refine A_draw [] (by decide +kernel) (fun hn => sep_nil) ?_
                              refine r_v (Value.int .i64 (7)) rfl rfl rfl rfl ?_
                              refine r_v (Value.pointer (some ⟨b5, 21, none⟩)) rfl rfl rfl rfl ?_
                              refine r_l (Value.agg #[Value.int .i64 (r30.1), U (hi (r30.2.1)), U (lo (r30.2.1))]) 9 _ _ _ _ rfl rfl rfl rfl rfl ?_
                              refine r_l (Value.agg #[Value.int .i64 (r138.1), U (hi (r138.2.1)), U (lo (r138.2.1))]) 0 _ _ _ _ rfl rfl rfl rfl rfl ?_
                              refine r_v (Value.bool (!(((r30.1) == (r138.1)) && ((r30.2.1) == (r138.2.1))))) rfl rfl rfl (ev_binNe rfl rfl eg_24 (eqst_24 (r30.1) (r138.1) (r30.2.1) (r138.2.1))) ?_
                              refine r_v (Value.bool (!(((r30.1) == (r138.1)) && ((r30.2.1) == (r138.2.1))))) rfl rfl rfl rfl ?_
                              rcases hg142 : (!(((r30.1) == (r138.1)) && ((r30.2.1) == (r138.2.1)))) with _ | _
                              · replace hM := ifp (not_f hg142) hM
                                refine r_y rfl ?_
                                refine r_v (Value.int .i64 (7)) rfl rfl rfl rfl ?_
                                refine r_y rfl ?_
                                refine r_v (Value.pointer (some ⟨b7, 7, none⟩)) rfl rfl rfl rfl ?_
                                refine r_y rfl ?_
                                refine r_l (Value.int .i64 (r30.2.2)) 8 _ _ _ _ rfl rfl rfl rfl rfl ?_
                                refine r_y rfl ?_
                                refine r_v (Value.int .i64 (r138.2.2)) rfl rfl rfl rfl ?_
                                refine r_y rfl ?_
                                refine r_v (Value.bool (((r30.2.2 : Int) != r138.2.2))) rfl rfl rfl rfl ?_
                                refine r_v (Value.bool (((r30.2.2 : Int) != r138.2.2))) rfl rfl rfl rfl ?_
                                refine lx_nil ?_
                                refine hK141 _ _ ?_; try clear hK141 K141
                                refine A_cond (((r30.2.2 : Int) != r138.2.2)) rfl (fun hc143 => ?_) (fun hc143 => ?_)
                                · replace hM := ifp (bne_iff_ne.1 hc143) hM
                                  refine A_seq fun K144 hK144 => ?_
                                  refine A_reg ?_
                                  refine r_v (Value.bool (false)) rfl rfl rfl rfl ?_
                                  refine lx_nil ?_
                                  refine hK144 _ _ ?_; try clear hK144 K144
                                  obtain rfl := Option.some.inj hM
                                  refine A_ret (fun hn => ends_eq (v0 := Value.bool (false)) rfl (res1 rfl))
                                · replace hM := ifn (bne_f hc143) hM
                                  refine A_skip ?_
                                  refine hK135 _ _ ?_; try clear hK135 K135
                                  refine A_reg ?_
                                  refine r_v (Value.int .i64 (7)) rfl rfl rfl rfl ?_
                                  refine r_v (Value.int .i64 (8)) rfl rfl (wi64 rfl (by decide) (by decide)) rfl ?_
                                  refine r_v (Value.int .i64 (8)) rfl rfl rfl rfl ?_
                                  refine lx_nil ?_
                                  refine hK132 _ _ ?_; try clear hK132 K132
                                  refine AL_unroll fun K145 hK145 => ?_
                                  refine A_seq fun K146 hK146 => ?_
                                  refine A_seq fun K147 hK147 => ?_
                                  refine A_reg ?_
                                  refine r_v (Value.int .i64 (8)) rfl rfl rfl rfl ?_
                                  refine r_v (Value.bool (true)) rfl rfl rfl rfl ?_
                                  refine lx_nil ?_
                                  refine hK147 _ _ ?_; try clear hK147 K147
                                  refine A_cond true rfl (fun _ => ?_) (fun h_ => nomatch h_)
                                  refine A_skip ?_
                                  refine hK146 _ _ ?_; try clear hK146 K146
                                  refine A_seq fun K148 hK148 => ?_
                                  refine A_block ?_
                                  refine A_seq fun K149 hK149 => ?_
                                  refine A_draw [] (by decide +kernel) (fun hn => sep_nil) ?_
                                  refine r_v (s36) rfl rfl rfl rfl ?_
                                  refine r_v (Value.int .i64 (8)) rfl rfl rfl rfl ?_
                                  replace hM := ck_some hM; obtain ⟨ck150, hM⟩ := hM
                                  refine r_v (elA s36 (((8 : Int)).toNat * 1)) rfl rfl rfl (ev_v (ev_idxSl rfl rfl rfl (Sl.shp H38) ck150)) ?_
                                  refine r_le (Value.string (⟨(([([97, 100, 100] : List UInt8), ([115, 117, 98] : List UInt8), ([97, 100, 100, 115, 97, 116] : List UInt8), ([115, 117, 98, 115, 97, 116] : List UInt8), ([97, 110, 100] : List UInt8), ([111, 114] : List UInt8), ([120, 111, 114] : List UInt8), ([101, 113] : List UInt8), ([108, 101, 115, 115] : List UInt8)])[((8 : Int)).toNat]!).toArray⟩)) (En := encS) (([([97, 100, 100] : List UInt8), ([115, 117, 98] : List UInt8), ([97, 100, 100, 115, 97, 116] : List UInt8), ([115, 117, 98, 115, 97, 116] : List UInt8), ([97, 110, 100] : List UInt8), ([111, 114] : List UInt8), ([120, 111, 114] : List UInt8), ([101, 113] : List UInt8), ([108, 101, 115, 115] : List UInt8)])[((8 : Int)).toNat]!) (((8 : Int)).toNat) 0 rfl rfl (rd_own H38 (mem_chunk (Ls := [[(b140, 24, #[Value.int .i64 (r138.1), U (hi (r138.2.1)), U (lo (r138.2.1))])], [(b127, 24, #[Value.int .i64 (r125.1), U (hi (r125.2.1)), U (lo (r125.2.1))])], [(b114, 24, #[Value.int .i64 (r112.1), U (hi (r112.2.1)), U (lo (r112.2.1))])], [(b101, 24, #[Value.int .i64 (r99.1), U (hi (r99.2.1)), U (lo (r99.2.1))])], [(b88, 24, #[Value.int .i64 (r86.1), U (hi (r86.2.1)), U (lo (r86.2.1))])], [(b75, 24, #[Value.int .i64 (r73.1), U (hi (r73.2.1)), U (lo (r73.2.1))])], [(b62, 24, #[Value.int .i64 (r60.1), U (hi (r60.2.1)), U (lo (r60.2.1))])], [(b49, 24, #[Value.int .i64 (r47.1), U (hi (r47.2.1)), U (lo (r47.2.1))])], [(b7, 40, #[Value.int .i64 (r9.2.2), Value.int .i64 (r12.2.2), Value.int .i64 (r15.2.2), Value.int .i64 (r18.2.2), Value.int .i64 (r21.2.2), Value.int .i64 (r24.2.2), Value.int .i64 (r27.2.2), Value.int .i64 (r30.2.2), Value.int .i64 (r33.2.2)])], [(b5, 39, #[Value.int .i64 (r9.1), U (hi (r9.2.1)), U (lo (r9.2.1)), Value.int .i64 (r12.1), U (hi (r12.2.1)), U (lo (r12.2.1)), Value.int .i64 (r15.1), U (hi (r15.2.1)), U (lo (r15.2.1)), Value.int .i64 (r18.1), U (hi (r18.2.1)), U (lo (r18.2.1)), Value.int .i64 (r21.1), U (hi (r21.2.1)), U (lo (r21.2.1)), Value.int .i64 (r24.1), U (hi (r24.2.1)), U (lo (r24.2.1)), Value.int .i64 (r27.1), U (hi (r27.2.1)), U (lo (r27.2.1)), Value.int .i64 (r30.1), U (hi (r30.2.1)), U (lo (r30.2.1)), Value.int .i64 (r33.1), U (hi (r33.2.1)), U (lo (r33.2.1))])], [(b3, 24, #[Value.int .i64 (b_0), U (hi (b_1)), U (lo (b_1))])], [(b2, 24, #[Value.int .i64 (a_0), U (hi (a_1)), U (lo (a_1))])], S37]) (k := 12) rfl rfl)) (get_of ck150) rfl ?_
                                  refine r_l (Value.agg #[Value.int .i64 (a_0), U (hi (a_1)), U (lo (a_1))]) 11 _ _ _ _ rfl rfl rfl rfl rfl ?_
                                  refine r_l (Value.agg #[Value.int .i64 (b_0), U (hi (b_1)), U (lo (b_1))]) 10 _ _ _ _ rfl rfl rfl rfl rfl ?_
                                  replace hM := bind_sm hM; obtain ⟨r151, hr152, hM⟩ := hM
                                  refine r_c (Value.tuple #[Value.agg #[Value.int .i64 (r151.1), U (hi (r151.2.1)), U (lo (r151.2.1))], Value.int .i64 (r151.2.2)]) rfl _ _ (ev_callF rfl call_28 rfl) (shunterref02_Two_g N (([([97, 100, 100] : List UInt8), ([115, 117, 98] : List UInt8), ([97, 100, 100, 115, 97, 116] : List UInt8), ([115, 117, 98, 115, 97, 116] : List UInt8), ([97, 110, 100] : List UInt8), ([111, 114] : List UInt8), ([120, 111, 114] : List UInt8), ([101, 113] : List UInt8), ([108, 101, 115, 115] : List UInt8)])[((8 : Int)).toNat]!) (a_0) (a_1) (b_0) (b_1) _ hr152) ?_
                                  refine r_v (Value.tuple #[Value.agg #[Value.int .i64 (r151.1), U (hi (r151.2.1)), U (lo (r151.2.1))], Value.int .i64 (r151.2.2)]) rfl rfl rfl rfl ?_
                                  refine r_v (Value.agg #[Value.int .i64 (r151.1), U (hi (r151.2.1)), U (lo (r151.2.1))]) rfl rfl rfl rfl ?_
                                  refine r_v (Value.int .i64 (r151.2.2)) rfl rfl rfl rfl ?_
                                  refine r_a (24, #[Value.int .i64 (0), U (0#64), U (0#64)]) rfl rfl rfl (fun b153 => ?_) (.inl rfl)
                                  refine r_sn (List.flatten [[(b153, 24, #[Value.int .i64 (r151.1), U (hi (r151.2.1)), U (lo (r151.2.1))])], [(b140, 24, #[Value.int .i64 (r138.1), U (hi (r138.2.1)), U (lo (r138.2.1))])], [(b127, 24, #[Value.int .i64 (r125.1), U (hi (r125.2.1)), U (lo (r125.2.1))])], [(b114, 24, #[Value.int .i64 (r112.1), U (hi (r112.2.1)), U (lo (r112.2.1))])], [(b101, 24, #[Value.int .i64 (r99.1), U (hi (r99.2.1)), U (lo (r99.2.1))])], [(b88, 24, #[Value.int .i64 (r86.1), U (hi (r86.2.1)), U (lo (r86.2.1))])], [(b75, 24, #[Value.int .i64 (r73.1), U (hi (r73.2.1)), U (lo (r73.2.1))])], [(b62, 24, #[Value.int .i64 (r60.1), U (hi (r60.2.1)), U (lo (r60.2.1))])], [(b49, 24, #[Value.int .i64 (r47.1), U (hi (r47.2.1)), U (lo (r47.2.1))])], [(b7, 40, #[Value.int .i64 (r9.2.2), Value.int .i64 (r12.2.2), Value.int .i64 (r15.2.2), Value.int .i64 (r18.2.2), Value.int .i64 (r21.2.2), Value.int .i64 (r24.2.2), Value.int .i64 (r27.2.2), Value.int .i64 (r30.2.2), Value.int .i64 (r33.2.2)])], [(b5, 39, #[Value.int .i64 (r9.1), U (hi (r9.2.1)), U (lo (r9.2.1)), Value.int .i64 (r12.1), U (hi (r12.2.1)), U (lo (r12.2.1)), Value.int .i64 (r15.1), U (hi (r15.2.1)), U (lo (r15.2.1)), Value.int .i64 (r18.1), U (hi (r18.2.1)), U (lo (r18.2.1)), Value.int .i64 (r21.1), U (hi (r21.2.1)), U (lo (r21.2.1)), Value.int .i64 (r24.1), U (hi (r24.2.1)), U (lo (r24.2.1)), Value.int .i64 (r27.1), U (hi (r27.2.1)), U (lo (r27.2.1)), Value.int .i64 (r30.1), U (hi (r30.2.1)), U (lo (r30.2.1)), Value.int .i64 (r33.1), U (hi (r33.2.1)), U (lo (r33.2.1))])], [(b3, 24, #[Value.int .i64 (b_0), U (hi (b_1)), U (lo (b_1))])], [(b2, 24, #[Value.int .i64 (a_0), U (hi (a_1)), U (lo (a_1))])], S37]) 0 _ _ _ (#[Value.int .i64 (0), U (0#64), U (0#64)]) (#[Value.int .i64 (r151.1), U (hi (r151.2.1)), U (lo (r151.2.1))]) (#[Value.int .i64 (r151.1), U (hi (r151.2.1)), U (lo (r151.2.1))]) rfl rfl rfl rfl rfl (.of rfl rfl) rfl rfl ?_
                                  refine r_v (Value.int .i64 (r151.2.2)) rfl rfl rfl rfl ?_
                                  refine lx_nil ?_
                                  refine hK149 _ _ ?_; try clear hK149 K149
                                  refine A_gen [(2, Value.pointer (some ⟨b2, 0, none⟩)), (3, Value.pointer (some ⟨b3, 0, none⟩)), (5, Value.pointer (some ⟨b5, 0, none⟩)), (6, Value.pointer (some ⟨b7, 0, none⟩)), (7, s36), (8, Value.int .i64 (8)), (9, Value.pointer (some ⟨b153, 0, none⟩)), (10, Value.int .i64 (r151.2.2))] rfl (fun T => ?_)
                                  refine A_seq fun K154 hK154 => ?_
                                  refine A_draw [] (by decide +kernel) (fun hn => sep_nil) ?_
                                  refine r_v (Value.int .i64 (8)) rfl rfl rfl rfl ?_
                                  refine r_v (Value.pointer (some ⟨b5, 24, none⟩)) rfl rfl rfl rfl ?_
                                  refine r_l (Value.agg #[Value.int .i64 (r33.1), U (hi (r33.2.1)), U (lo (r33.2.1))]) 10 _ _ _ _ rfl rfl rfl rfl rfl ?_
                                  refine r_l (Value.agg #[Value.int .i64 (r151.1), U (hi (r151.2.1)), U (lo (r151.2.1))]) 0 _ _ _ _ rfl rfl rfl rfl rfl ?_
                                  refine r_v (Value.bool (!(((r33.1) == (r151.1)) && ((r33.2.1) == (r151.2.1))))) rfl rfl rfl (ev_binNe rfl rfl eg_24 (eqst_24 (r33.1) (r151.1) (r33.2.1) (r151.2.1))) ?_
                                  refine r_v (Value.bool (!(((r33.1) == (r151.1)) && ((r33.2.1) == (r151.2.1))))) rfl rfl rfl rfl ?_
                                  rcases hg155 : (!(((r33.1) == (r151.1)) && ((r33.2.1) == (r151.2.1)))) with _ | _
                                  · replace hM := ifp (not_f hg155) hM
                                    refine r_y rfl ?_
                                    refine r_v (Value.int .i64 (8)) rfl rfl rfl rfl ?_
                                    refine r_y rfl ?_
                                    refine r_v (Value.pointer (some ⟨b7, 8, none⟩)) rfl rfl rfl rfl ?_
                                    refine r_y rfl ?_
                                    refine r_l (Value.int .i64 (r33.2.2)) 9 _ _ _ _ rfl rfl rfl rfl rfl ?_
                                    refine r_y rfl ?_
                                    refine r_v (Value.int .i64 (r151.2.2)) rfl rfl rfl rfl ?_
                                    refine r_y rfl ?_
                                    refine r_v (Value.bool (((r33.2.2 : Int) != r151.2.2))) rfl rfl rfl rfl ?_
                                    refine r_v (Value.bool (((r33.2.2 : Int) != r151.2.2))) rfl rfl rfl rfl ?_
                                    refine lx_nil ?_
                                    refine hK154 _ _ ?_; try clear hK154 K154
                                    refine A_cond (((r33.2.2 : Int) != r151.2.2)) rfl (fun hc156 => ?_) (fun hc156 => ?_)
                                    · replace hM := ifp (bne_iff_ne.1 hc156) hM
                                      refine A_seq fun K157 hK157 => ?_
                                      refine A_reg ?_
                                      refine r_v (Value.bool (false)) rfl rfl rfl rfl ?_
                                      refine lx_nil ?_
                                      refine hK157 _ _ ?_; try clear hK157 K157
                                      obtain rfl := Option.some.inj hM
                                      refine A_ret (fun hn => ends_eq (v0 := Value.bool (false)) rfl (res1 rfl))
                                    · replace hM := ifn (bne_f hc156) hM
                                      refine A_skip ?_
                                      refine hK148 _ _ ?_; try clear hK148 K148
                                      refine A_reg ?_
                                      refine r_v (Value.int .i64 (8)) rfl rfl rfl rfl ?_
                                      refine r_v (Value.int .i64 (9)) rfl rfl (wi64 rfl (by decide) (by decide)) rfl ?_
                                      refine r_v (Value.int .i64 (9)) rfl rfl rfl rfl ?_
                                      refine lx_nil ?_
                                      refine hK145 _ _ ?_; try clear hK145 K145
                                      refine AL_unroll fun K158 hK158 => ?_
                                      refine A_seq fun K159 hK159 => ?_
                                      refine A_seq fun K160 hK160 => ?_
                                      refine A_reg ?_
                                      refine r_v (Value.int .i64 (9)) rfl rfl rfl rfl ?_
                                      refine r_v (Value.bool (false)) rfl rfl rfl rfl ?_
                                      refine lx_nil ?_
                                      refine hK160 _ _ ?_; try clear hK160 K160
                                      refine A_cond false rfl (fun h_ => nomatch h_) (fun _ => ?_)
                                      refine A_exit ?_
                                      refine hK39 _ _ ?_; try clear hK39 K39
                                      refine A_seq fun K161 hK161 => ?_
                                      refine A_reg ?_
                                      replace hM := bind_sm hM; obtain ⟨r162, hr163, hM⟩ := hM
                                      refine r_c (Value.bool (r162)) rfl _ _ (ev_callF rfl call_16 rfl) (shunterlaw02_lives_g N  _ hr163) ?_
                                      refine r_v (Value.bool (r162)) rfl rfl rfl rfl ?_
                                      refine lx_nil ?_
                                      refine hK161 _ _ ?_; try clear hK161 K161
                                      obtain rfl := Option.some.inj hM
                                      refine A_ret (fun hn => ends_eq (v0 := Value.bool (r162)) rfl (res1 rfl))
                                  · replace hM := ifn (Bool.eq_false_iff.1 (not_t hg155)) hM
                                    refine r_n true rfl (by decide) rfl ?_
                                    refine r_n true rfl (by decide) rfl ?_
                                    refine r_n true rfl (by decide) rfl ?_
                                    refine r_n true rfl (by decide) rfl ?_
                                    refine r_n true rfl (by decide) rfl ?_
                                    refine r_v (Value.bool (true)) rfl rfl rfl rfl ?_
                                    refine lx_nil ?_
                                    refine hK154 _ _ ?_; try clear hK154 K154
                                    refine A_cond true rfl (fun _ => ?_) (fun h_ => nomatch h_)
                                    refine A_seq fun K164 hK164 => ?_
                                    refine A_reg ?_
                                    refine r_v (Value.bool (false)) rfl rfl rfl rfl ?_
                                    refine lx_nil ?_
                                    refine hK164 _ _ ?_; try clear hK164 K164
                                    obtain rfl := Option.some.inj hM
                                    refine A_ret (fun hn => ends_eq (v0 := Value.bool (false)) rfl (res1 rfl))
                              · replace hM := ifn (Bool.eq_false_iff.1 (not_t hg142)) hM
                                refine r_n true rfl (by decide) rfl ?_
                                refine r_n true rfl (by decide) rfl ?_
                                refine r_n true rfl (by decide) rfl ?_
                                refine r_n true rfl (by decide) rfl ?_
                                refine r_n true rfl (by decide) rfl ?_
                                refine r_v (Value.bool (true)) rfl rfl rfl rfl ?_
                                refine lx_nil ?_
                                refine hK141 _ _ ?_; try clear hK141 K141
                                refine A_cond true rfl (fun _ => ?_) (fun h_ => nomatch h_)
                                refine A_seq fun K165 hK165 => ?_
                                refine A_reg ?_
                                refine r_v (Value.bool (false)) rfl rfl rfl rfl ?_
                                refine lx_nil ?_
                                refine hK165 _ _ ?_; try clear hK165 K165
                                obtain rfl := Option.some.inj hM
                                refine A_ret (fun hn => ends_eq (v0 := Value.bool (false)) rfl (res1 rfl))
                          · replace hM := ifn (Bool.eq_false_iff.1 (not_t hg129)) hM
                            refine r_n true rfl (by decide) rfl ?_
                            refine r_n true rfl (by decide) rfl ?_
                            refine r_n true rfl (by decide) rfl ?_
                            refine r_n true rfl (by decide) rfl ?_
                            refine r_n true rfl (by decide) rfl ?_
                            refine r_v (Value.bool (true)) rfl rfl rfl rfl ?_
                            refine lx_nil ?_
                            refine hK128 _ _ ?_; try clear hK128 K128
                            refine A_cond true rfl (fun _ => ?_) (fun h_ => nomatch h_)
                            refine A_seq fun K166 hK166 => ?_
                            refine A_reg ?_
                            refine r_v (Value.bool (false)) rfl rfl rfl rfl ?_
                            refine lx_nil ?_
                            refine hK166 _ _ ?_; try clear hK166 K166
                            obtain rfl := Option.some.inj hM
                            refine A_ret (fun hn => ends_eq (v0 := Value.bool (false)) rfl (res1 rfl))
                      · replace hM := ifn (Bool.eq_false_iff.1 (not_t hg116)) hM
                        refine r_n true rfl (by decide) rfl ?_
                        refine r_n true rfl (by decide) rfl ?_
                        refine r_n true rfl (by decide) rfl ?_
                        refine r_n true rfl (by decide) rfl ?_
                        refine r_n true rfl (by decide) rfl ?_
                        refine r_v (Value.bool (true)) rfl rfl rfl rfl ?_
                        refine lx_nil ?_
                        refine hK115 _ _ ?_; try clear hK115 K115
                        refine A_cond true rfl (fun _ => ?_) (fun h_ => nomatch h_)
                        refine A_seq fun K167 hK167 => ?_
                        refine A_reg ?_
                        refine r_v (Value.bool (false)) rfl rfl rfl rfl ?_
                        refine lx_nil ?_
                        refine hK167 _ _ ?_; try clear hK167 K167
                        obtain rfl := Option.some.inj hM
                        refine A_ret (fun hn => ends_eq (v0 := Value.bool (false)) rfl (res1 rfl))
                  · replace hM := ifn (Bool.eq_false_iff.1 (not_t hg103)) hM
                    refine r_n true rfl (by decide) rfl ?_
                    refine r_n true rfl (by decide) rfl ?_
                    refine r_n true rfl (by decide) rfl ?_
                    refine r_n true rfl (by decide) rfl ?_
                    refine r_n true rfl (by decide) rfl ?_
                    refine r_v (Value.bool (true)) rfl rfl rfl rfl ?_
                    refine lx_nil ?_
                    refine hK102 _ _ ?_; try clear hK102 K102
                    refine A_cond true rfl (fun _ => ?_) (fun h_ => nomatch h_)
                    refine A_seq fun K168 hK168 => ?_
                    refine A_reg ?_
                    refine r_v (Value.bool (false)) rfl rfl rfl rfl ?_
                    refine lx_nil ?_
                    refine hK168 _ _ ?_; try clear hK168 K168
                    obtain rfl := Option.some.inj hM
                    refine A_ret (fun hn => ends_eq (v0 := Value.bool (false)) rfl (res1 rfl))
              · replace hM := ifn (Bool.eq_false_iff.1 (not_t hg90)) hM
                refine r_n true rfl (by decide) rfl ?_
                refine r_n true rfl (by decide) rfl ?_
                refine r_n true rfl (by decide) rfl ?_
                refine r_n true rfl (by decide) rfl ?_
                refine r_n true rfl (by decide) rfl ?_
                refine r_v (Value.bool (true)) rfl rfl rfl rfl ?_
                refine lx_nil ?_
                refine hK89 _ _ ?_; try clear hK89 K89
                refine A_cond true rfl (fun _ => ?_) (fun h_ => nomatch h_)
                refine A_seq fun K169 hK169 => ?_
                refine A_reg ?_
                refine r_v (Value.bool (false)) rfl rfl rfl rfl ?_
                refine lx_nil ?_
                refine hK169 _ _ ?_; try clear hK169 K169
                obtain rfl := Option.some.inj hM
                refine A_ret (fun hn => ends_eq (v0 := Value.bool (false)) rfl (res1 rfl))
          · replace hM := ifn (Bool.eq_false_iff.1 (not_t hg77)) hM
            refine r_n true rfl (by decide) rfl ?_
            refine r_n true rfl (by decide) rfl ?_
            refine r_n true rfl (by decide) rfl ?_
            refine r_n true rfl (by decide) rfl ?_
            refine r_n true rfl (by decide) rfl ?_
            refine r_v (Value.bool (true)) rfl rfl rfl rfl ?_
            refine lx_nil ?_
            refine hK76 _ _ ?_; try clear hK76 K76
            refine A_cond true rfl (fun _ => ?_) (fun h_ => nomatch h_)
            refine A_seq fun K170 hK170 => ?_
            refine A_reg ?_
            refine r_v (Value.bool (false)) rfl rfl rfl rfl ?_
            refine lx_nil ?_
            refine hK170 _ _ ?_; try clear hK170 K170
            obtain rfl := Option.some.inj hM
            refine A_ret (fun hn => ends_eq (v0 := Value.bool (false)) rfl (res1 rfl))
      · replace hM := ifn (Bool.eq_false_iff.1 (not_t hg64)) hM
        refine r_n true rfl (by decide) rfl ?_
        refine r_n true rfl (by decide) rfl ?_
        refine r_n true rfl (by decide) rfl ?_
        refine r_n true rfl (by decide) rfl ?_
        refine r_n true rfl (by decide) rfl ?_
        refine r_v (Value.bool (true)) rfl rfl rfl rfl ?_
        refine lx_nil ?_
        refine hK63 _ _ ?_; try clear hK63 K63
        refine A_cond true rfl (fun _ => ?_) (fun h_ => nomatch h_)
        refine A_seq fun K171 hK171 => ?_
        refine A_reg ?_
        refine r_v (Value.bool (false)) rfl rfl rfl rfl ?_
        refine lx_nil ?_
        refine hK171 _ _ ?_; try clear hK171 K171
        obtain rfl := Option.some.inj hM
        refine A_ret (fun hn => ends_eq (v0 := Value.bool (false)) rfl (res1 rfl))
  · replace hM := ifn (Bool.eq_false_iff.1 (not_t hg51)) hM
    refine r_n true rfl (by decide) rfl ?_
    refine r_n true rfl (by decide) rfl ?_
    refine r_n true rfl (by decide) rfl ?_
    refine r_n true rfl (by decide) rfl ?_
    refine r_n true rfl (by decide) rfl ?_
    refine r_v (Value.bool (true)) rfl rfl rfl rfl ?_
    refine lx_nil ?_
    refine hK50 _ _ ?_; try clear hK50 K50
    refine A_cond true rfl (fun _ => ?_) (fun h_ => nomatch h_)
    refine A_seq fun K172 hK172 => ?_
    refine A_reg ?_
    refine r_v (Value.bool (false)) rfl rfl rfl rfl ?_
    refine lx_nil ?_
    refine hK172 _ _ ?_; try clear hK172 K172
    obtain rfl := Option.some.inj hM
    refine A_ret (fun hn => ends_eq (v0 := Value.bool (false)) rfl (res1 rfl))
end Go.Proofs.YtomcfndpnnjihaaDoor
