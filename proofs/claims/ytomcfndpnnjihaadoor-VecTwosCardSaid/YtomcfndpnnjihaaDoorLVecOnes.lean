/- models of functions and their walks -/
import Derived.Test.YtomcfndpnnjihaaDoorVc
namespace Go.Proofs.YtomcfndpnnjihaaDoor
open Go Go.RowKit Go.Eng
def shunterlaw02_VecOnes_m (N : Nat) (a_0 : Int) (a_1 : BitVec 128) (n : Int) : Option (Bool) := (vec_Not_m N (a_0) (a_1)).bind fun r8 => (vec_Neg_m N (a_0) (a_1)).bind fun r11 => (vec_Shl_m N (a_0) (a_1) (n)).bind fun r14 => (vec_Shr_m N (a_0) (a_1) (n)).bind fun r17 => (vec_Cast_m N (a_0) (a_1) (n)).bind fun r20 => ck (0 ≤ (0 : Int) ∧ (0 : Int) < (([([110, 111, 116] : List UInt8), ([110, 101, 103] : List UInt8), ([115, 104, 108] : List UInt8), ([115, 104, 114] : List UInt8), ([99, 97, 115, 116] : List UInt8)]).length : Int)) ((shunterref02_One_m N (([([110, 111, 116] : List UInt8), ([110, 101, 103] : List UInt8), ([115, 104, 108] : List UInt8), ([115, 104, 114] : List UInt8), ([99, 97, 115, 116] : List UInt8)])[((0 : Int)).toNat]!) (a_0) (a_1) (n)).bind fun r34 => if (((r8.1) == (r34.1)) && ((r8.2.1) == (r34.2.1))) = true then if (r8.2.2 : Int) ≠ r34.2.2 then some (false) else ck (0 ≤ (1 : Int) ∧ (1 : Int) < (([([110, 111, 116] : List UInt8), ([110, 101, 103] : List UInt8), ([115, 104, 108] : List UInt8), ([115, 104, 114] : List UInt8), ([99, 97, 115, 116] : List UInt8)]).length : Int)) ((shunterref02_One_m N (([([110, 111, 116] : List UInt8), ([110, 101, 103] : List UInt8), ([115, 104, 108] : List UInt8), ([115, 104, 114] : List UInt8), ([99, 97, 115, 116] : List UInt8)])[((1 : Int)).toNat]!) (a_0) (a_1) (n)).bind fun r47 => if (((r11.1) == (r47.1)) && ((r11.2.1) == (r47.2.1))) = true then if (r11.2.2 : Int) ≠ r47.2.2 then some (false) else ck (0 ≤ (2 : Int) ∧ (2 : Int) < (([([110, 111, 116] : List UInt8), ([110, 101, 103] : List UInt8), ([115, 104, 108] : List UInt8), ([115, 104, 114] : List UInt8), ([99, 97, 115, 116] : List UInt8)]).length : Int)) ((shunterref02_One_m N (([([110, 111, 116] : List UInt8), ([110, 101, 103] : List UInt8), ([115, 104, 108] : List UInt8), ([115, 104, 114] : List UInt8), ([99, 97, 115, 116] : List UInt8)])[((2 : Int)).toNat]!) (a_0) (a_1) (n)).bind fun r60 => if (((r14.1) == (r60.1)) && ((r14.2.1) == (r60.2.1))) = true then if (r14.2.2 : Int) ≠ r60.2.2 then some (false) else ck (0 ≤ (3 : Int) ∧ (3 : Int) < (([([110, 111, 116] : List UInt8), ([110, 101, 103] : List UInt8), ([115, 104, 108] : List UInt8), ([115, 104, 114] : List UInt8), ([99, 97, 115, 116] : List UInt8)]).length : Int)) ((shunterref02_One_m N (([([110, 111, 116] : List UInt8), ([110, 101, 103] : List UInt8), ([115, 104, 108] : List UInt8), ([115, 104, 114] : List UInt8), ([99, 97, 115, 116] : List UInt8)])[((3 : Int)).toNat]!) (a_0) (a_1) (n)).bind fun r73 => if (((r17.1) == (r73.1)) && ((r17.2.1) == (r73.2.1))) = true then if (r17.2.2 : Int) ≠ r73.2.2 then some (false) else ck (0 ≤ (4 : Int) ∧ (4 : Int) < (([([110, 111, 116] : List UInt8), ([110, 101, 103] : List UInt8), ([115, 104, 108] : List UInt8), ([115, 104, 114] : List UInt8), ([99, 97, 115, 116] : List UInt8)]).length : Int)) ((shunterref02_One_m N (([([110, 111, 116] : List UInt8), ([110, 101, 103] : List UInt8), ([115, 104, 108] : List UInt8), ([115, 104, 114] : List UInt8), ([99, 97, 115, 116] : List UInt8)])[((4 : Int)).toNat]!) (a_0) (a_1) (n)).bind fun r86 => if (((r20.1) == (r86.1)) && ((r20.2.1) == (r86.2.1))) = true then if (r20.2.2 : Int) ≠ r86.2.2 then some (false) else (vec_Prefix_m N (a_0) (n)).bind fun r97 => (shunterref02_Prefix_m N (a_0) (n)).bind fun r101 => if (((r97.1) == (r101.1)) && ((r97.2.1) == (r101.2.1))) = true then if (r97.2.2 : Int) = r101.2.2 then (shunterlaw02_lives_m N ).bind fun r107 => some (r107) else some (false) else some (false) else some (false)) else some (false)) else some (false)) else some (false)) else some (false))
set_option maxRecDepth 100000 in
set_option maxHeartbeats 40000000 in
theorem shunterlaw02_VecOnes_g (N : Nat) (a_0 : Int) (a_1 : BitVec 128) (n : Int) (r : Bool) (hM : shunterlaw02_VecOnes_m N a_0 a_1 n = some r) : Gives Tryd.prog 5 #[Value.agg #[Value.int .i64 (a_0), U (hi (a_1)), U (lo (a_1))], Value.int .i64 (n)] (Value.bool (r)) := by
  unfold shunterlaw02_VecOnes_m at hM
  refine gives_of_A follows Tryd.func5 rfl 105 rfl (upd (upd (fun _ => undef) 1 (Value.int .i64 (n))) 0 (Value.agg #[Value.int .i64 (a_0), U (hi (a_1)), U (lo (a_1))])) (by funext k; match k with | 0 => rfl | 1 => rfl | k + 2 => rfl) (fun base0_ => ?_)
  refine A_seq fun K1 hK1 => ?_
  refine A_reg ?_
  refine r_a (24, #[Value.int .i64 (a_0), U (hi (a_1)), U (lo (a_1))]) rfl rfl rfl (fun b2 => ?_) (.inr rfl)
  refine r_v (Value.bool (false)) rfl rfl rfl rfl ?_
  refine lx_nil ?_
  refine hK1 _ _ ?_; try clear hK1 K1
  refine A_seq fun K3 hK3 => ?_
  refine A_reg ?_
  refine r_a (45, #[Value.int .i64 (0), U (0#64), U (0#64), Value.int .i64 (0), U (0#64), U (0#64), Value.int .i64 (0), U (0#64), U (0#64), Value.int .i64 (0), U (0#64), U (0#64), Value.int .i64 (0), U (0#64), U (0#64)]) rfl rfl rfl (fun b4 => ?_) (.inr rfl)
  refine lx_nil ?_
  refine hK3 _ _ ?_; try clear hK3 K3
  refine A_seq fun K5 hK5 => ?_
  refine A_reg ?_
  refine r_a (46, #[Value.int .i64 (0), Value.int .i64 (0), Value.int .i64 (0), Value.int .i64 (0), Value.int .i64 (0)]) rfl rfl rfl (fun b6 => ?_) (.inr rfl)
  refine lx_nil ?_
  refine hK5 _ _ ?_; try clear hK5 K5
  refine A_seq fun K7 hK7 => ?_
  refine A_reg ?_
  refine r_l (Value.agg #[Value.int .i64 (a_0), U (hi (a_1)), U (lo (a_1))]) 2 _ _ _ _ rfl rfl rfl rfl rfl ?_
  replace hM := bind_sm hM; obtain ⟨r8, hr9, hM⟩ := hM
  refine r_c (Value.tuple #[Value.agg #[Value.int .i64 (r8.1), U (hi (r8.2.1)), U (lo (r8.2.1))], Value.int .i64 (r8.2.2)]) rfl _ _ (ev_callF rfl call_29 rfl) (vec_Not_g N (a_0) (a_1) _ hr9) ?_
  refine r_v (Value.tuple #[Value.agg #[Value.int .i64 (r8.1), U (hi (r8.2.1)), U (lo (r8.2.1))], Value.int .i64 (r8.2.2)]) rfl rfl rfl rfl ?_
  refine r_v (Value.agg #[Value.int .i64 (r8.1), U (hi (r8.2.1)), U (lo (r8.2.1))]) rfl rfl rfl rfl ?_
  refine r_v (Value.int .i64 (r8.2.2)) rfl rfl rfl rfl ?_
  refine r_v (Value.pointer (some ⟨b4, 0, none⟩)) rfl rfl rfl rfl ?_
  refine r_s [(b6, 46, #[Value.int .i64 (0), Value.int .i64 (0), Value.int .i64 (0), Value.int .i64 (0), Value.int .i64 (0)]), (b4, 45, #[Value.int .i64 (r8.1), U (hi (r8.2.1)), U (lo (r8.2.1)), Value.int .i64 (0), U (0#64), U (0#64), Value.int .i64 (0), U (0#64), U (0#64), Value.int .i64 (0), U (0#64), U (0#64), Value.int .i64 (0), U (0#64), U (0#64)]), (b2, 24, #[Value.int .i64 (a_0), U (hi (a_1)), U (lo (a_1))])] 1 _ _ _ (#[Value.int .i64 (0), U (0#64), U (0#64), Value.int .i64 (0), U (0#64), U (0#64), Value.int .i64 (0), U (0#64), U (0#64), Value.int .i64 (0), U (0#64), U (0#64), Value.int .i64 (0), U (0#64), U (0#64)]) (#[Value.int .i64 (r8.1), U (hi (r8.2.1)), U (lo (r8.2.1))]) (#[Value.int .i64 (r8.1), U (hi (r8.2.1)), U (lo (r8.2.1)), Value.int .i64 (0), U (0#64), U (0#64), Value.int .i64 (0), U (0#64), U (0#64), Value.int .i64 (0), U (0#64), U (0#64), Value.int .i64 (0), U (0#64), U (0#64)]) rfl rfl rfl rfl (.of rfl rfl) rfl rfl ?_
  refine r_v (Value.pointer (some ⟨b6, 0, none⟩)) rfl rfl rfl rfl ?_
  refine r_s [(b6, 46, #[Value.int .i64 (r8.2.2), Value.int .i64 (0), Value.int .i64 (0), Value.int .i64 (0), Value.int .i64 (0)]), (b4, 45, #[Value.int .i64 (r8.1), U (hi (r8.2.1)), U (lo (r8.2.1)), Value.int .i64 (0), U (0#64), U (0#64), Value.int .i64 (0), U (0#64), U (0#64), Value.int .i64 (0), U (0#64), U (0#64), Value.int .i64 (0), U (0#64), U (0#64)]), (b2, 24, #[Value.int .i64 (a_0), U (hi (a_1)), U (lo (a_1))])] 0 _ _ _ (#[Value.int .i64 (0), Value.int .i64 (0), Value.int .i64 (0), Value.int .i64 (0), Value.int .i64 (0)]) (#[Value.int .i64 (r8.2.2)]) (#[Value.int .i64 (r8.2.2), Value.int .i64 (0), Value.int .i64 (0), Value.int .i64 (0), Value.int .i64 (0)]) rfl rfl rfl rfl (.of rfl rfl) rfl rfl ?_
  refine lx_nil ?_
  refine hK7 _ _ ?_; try clear hK7 K7
  refine A_seq fun K10 hK10 => ?_
  refine A_reg ?_
  refine r_l (Value.agg #[Value.int .i64 (a_0), U (hi (a_1)), U (lo (a_1))]) 2 _ _ _ _ rfl rfl rfl rfl rfl ?_
  replace hM := bind_sm hM; obtain ⟨r11, hr12, hM⟩ := hM
  refine r_c (Value.tuple #[Value.agg #[Value.int .i64 (r11.1), U (hi (r11.2.1)), U (lo (r11.2.1))], Value.int .i64 (r11.2.2)]) rfl _ _ (ev_callF rfl call_30 rfl) (vec_Neg_g N (a_0) (a_1) _ hr12) ?_
  refine r_v (Value.tuple #[Value.agg #[Value.int .i64 (r11.1), U (hi (r11.2.1)), U (lo (r11.2.1))], Value.int .i64 (r11.2.2)]) rfl rfl rfl rfl ?_
  refine r_v (Value.agg #[Value.int .i64 (r11.1), U (hi (r11.2.1)), U (lo (r11.2.1))]) rfl rfl rfl rfl ?_
  refine r_v (Value.int .i64 (r11.2.2)) rfl rfl rfl rfl ?_
  refine r_v (Value.pointer (some ⟨b4, 3, none⟩)) rfl rfl rfl rfl ?_
  refine r_s [(b6, 46, #[Value.int .i64 (r8.2.2), Value.int .i64 (0), Value.int .i64 (0), Value.int .i64 (0), Value.int .i64 (0)]), (b4, 45, #[Value.int .i64 (r8.1), U (hi (r8.2.1)), U (lo (r8.2.1)), Value.int .i64 (r11.1), U (hi (r11.2.1)), U (lo (r11.2.1)), Value.int .i64 (0), U (0#64), U (0#64), Value.int .i64 (0), U (0#64), U (0#64), Value.int .i64 (0), U (0#64), U (0#64)]), (b2, 24, #[Value.int .i64 (a_0), U (hi (a_1)), U (lo (a_1))])] 1 _ _ _ (#[Value.int .i64 (r8.1), U (hi (r8.2.1)), U (lo (r8.2.1)), Value.int .i64 (0), U (0#64), U (0#64), Value.int .i64 (0), U (0#64), U (0#64), Value.int .i64 (0), U (0#64), U (0#64), Value.int .i64 (0), U (0#64), U (0#64)]) (#[Value.int .i64 (r11.1), U (hi (r11.2.1)), U (lo (r11.2.1))]) (#[Value.int .i64 (r8.1), U (hi (r8.2.1)), U (lo (r8.2.1)), Value.int .i64 (r11.1), U (hi (r11.2.1)), U (lo (r11.2.1)), Value.int .i64 (0), U (0#64), U (0#64), Value.int .i64 (0), U (0#64), U (0#64), Value.int .i64 (0), U (0#64), U (0#64)]) rfl rfl rfl rfl (.of rfl rfl) rfl rfl ?_
  refine r_v (Value.pointer (some ⟨b6, 1, none⟩)) rfl rfl rfl rfl ?_
  refine r_s [(b6, 46, #[Value.int .i64 (r8.2.2), Value.int .i64 (r11.2.2), Value.int .i64 (0), Value.int .i64 (0), Value.int .i64 (0)]), (b4, 45, #[Value.int .i64 (r8.1), U (hi (r8.2.1)), U (lo (r8.2.1)), Value.int .i64 (r11.1), U (hi (r11.2.1)), U (lo (r11.2.1)), Value.int .i64 (0), U (0#64), U (0#64), Value.int .i64 (0), U (0#64), U (0#64), Value.int .i64 (0), U (0#64), U (0#64)]), (b2, 24, #[Value.int .i64 (a_0), U (hi (a_1)), U (lo (a_1))])] 0 _ _ _ (#[Value.int .i64 (r8.2.2), Value.int .i64 (0), Value.int .i64 (0), Value.int .i64 (0), Value.int .i64 (0)]) (#[Value.int .i64 (r11.2.2)]) (#[Value.int .i64 (r8.2.2), Value.int .i64 (r11.2.2), Value.int .i64 (0), Value.int .i64 (0), Value.int .i64 (0)]) rfl rfl rfl rfl (.of rfl rfl) rfl rfl ?_
  refine lx_nil ?_
  refine hK10 _ _ ?_; try clear hK10 K10
  refine A_seq fun K13 hK13 => ?_
  refine A_reg ?_
  refine r_l (Value.agg #[Value.int .i64 (a_0), U (hi (a_1)), U (lo (a_1))]) 2 _ _ _ _ rfl rfl rfl rfl rfl ?_
  refine r_v (Value.int .i64 (n)) rfl rfl rfl rfl ?_
  replace hM := bind_sm hM; obtain ⟨r14, hr15, hM⟩ := hM
  refine r_c (Value.tuple #[Value.agg #[Value.int .i64 (r14.1), U (hi (r14.2.1)), U (lo (r14.2.1))], Value.int .i64 (r14.2.2)]) rfl _ _ (ev_callF rfl call_31 rfl) (vec_Shl_g N (a_0) (a_1) (n) _ hr15) ?_
  refine r_v (Value.tuple #[Value.agg #[Value.int .i64 (r14.1), U (hi (r14.2.1)), U (lo (r14.2.1))], Value.int .i64 (r14.2.2)]) rfl rfl rfl rfl ?_
  refine r_v (Value.agg #[Value.int .i64 (r14.1), U (hi (r14.2.1)), U (lo (r14.2.1))]) rfl rfl rfl rfl ?_
  refine r_v (Value.int .i64 (r14.2.2)) rfl rfl rfl rfl ?_
  refine r_v (Value.pointer (some ⟨b4, 6, none⟩)) rfl rfl rfl rfl ?_
  refine r_s [(b6, 46, #[Value.int .i64 (r8.2.2), Value.int .i64 (r11.2.2), Value.int .i64 (0), Value.int .i64 (0), Value.int .i64 (0)]), (b4, 45, #[Value.int .i64 (r8.1), U (hi (r8.2.1)), U (lo (r8.2.1)), Value.int .i64 (r11.1), U (hi (r11.2.1)), U (lo (r11.2.1)), Value.int .i64 (r14.1), U (hi (r14.2.1)), U (lo (r14.2.1)), Value.int .i64 (0), U (0#64), U (0#64), Value.int .i64 (0), U (0#64), U (0#64)]), (b2, 24, #[Value.int .i64 (a_0), U (hi (a_1)), U (lo (a_1))])] 1 _ _ _ (#[Value.int .i64 (r8.1), U (hi (r8.2.1)), U (lo (r8.2.1)), Value.int .i64 (r11.1), U (hi (r11.2.1)), U (lo (r11.2.1)), Value.int .i64 (0), U (0#64), U (0#64), Value.int .i64 (0), U (0#64), U (0#64), Value.int .i64 (0), U (0#64), U (0#64)]) (#[Value.int .i64 (r14.1), U (hi (r14.2.1)), U (lo (r14.2.1))]) (#[Value.int .i64 (r8.1), U (hi (r8.2.1)), U (lo (r8.2.1)), Value.int .i64 (r11.1), U (hi (r11.2.1)), U (lo (r11.2.1)), Value.int .i64 (r14.1), U (hi (r14.2.1)), U (lo (r14.2.1)), Value.int .i64 (0), U (0#64), U (0#64), Value.int .i64 (0), U (0#64), U (0#64)]) rfl rfl rfl rfl (.of rfl rfl) rfl rfl ?_
  refine r_v (Value.pointer (some ⟨b6, 2, none⟩)) rfl rfl rfl rfl ?_
  refine r_s [(b6, 46, #[Value.int .i64 (r8.2.2), Value.int .i64 (r11.2.2), Value.int .i64 (r14.2.2), Value.int .i64 (0), Value.int .i64 (0)]), (b4, 45, #[Value.int .i64 (r8.1), U (hi (r8.2.1)), U (lo (r8.2.1)), Value.int .i64 (r11.1), U (hi (r11.2.1)), U (lo (r11.2.1)), Value.int .i64 (r14.1), U (hi (r14.2.1)), U (lo (r14.2.1)), Value.int .i64 (0), U (0#64), U (0#64), Value.int .i64 (0), U (0#64), U (0#64)]), (b2, 24, #[Value.int .i64 (a_0), U (hi (a_1)), U (lo (a_1))])] 0 _ _ _ (#[Value.int .i64 (r8.2.2), Value.int .i64 (r11.2.2), Value.int .i64 (0), Value.int .i64 (0), Value.int .i64 (0)]) (#[Value.int .i64 (r14.2.2)]) (#[Value.int .i64 (r8.2.2), Value.int .i64 (r11.2.2), Value.int .i64 (r14.2.2), Value.int .i64 (0), Value.int .i64 (0)]) rfl rfl rfl rfl (.of rfl rfl) rfl rfl ?_
  refine lx_nil ?_
  refine hK13 _ _ ?_; try clear hK13 K13
  refine A_seq fun K16 hK16 => ?_
  refine A_reg ?_
  refine r_l (Value.agg #[Value.int .i64 (a_0), U (hi (a_1)), U (lo (a_1))]) 2 _ _ _ _ rfl rfl rfl rfl rfl ?_
  refine r_v (Value.int .i64 (n)) rfl rfl rfl rfl ?_
  replace hM := bind_sm hM; obtain ⟨r17, hr18, hM⟩ := hM
  refine r_c (Value.tuple #[Value.agg #[Value.int .i64 (r17.1), U (hi (r17.2.1)), U (lo (r17.2.1))], Value.int .i64 (r17.2.2)]) rfl _ _ (ev_callF rfl call_32 rfl) (vec_Shr_g N (a_0) (a_1) (n) _ hr18) ?_
  refine r_v (Value.tuple #[Value.agg #[Value.int .i64 (r17.1), U (hi (r17.2.1)), U (lo (r17.2.1))], Value.int .i64 (r17.2.2)]) rfl rfl rfl rfl ?_
  refine r_v (Value.agg #[Value.int .i64 (r17.1), U (hi (r17.2.1)), U (lo (r17.2.1))]) rfl rfl rfl rfl ?_
  refine r_v (Value.int .i64 (r17.2.2)) rfl rfl rfl rfl ?_
  refine r_v (Value.pointer (some ⟨b4, 9, none⟩)) rfl rfl rfl rfl ?_
  refine r_s [(b6, 46, #[Value.int .i64 (r8.2.2), Value.int .i64 (r11.2.2), Value.int .i64 (r14.2.2), Value.int .i64 (0), Value.int .i64 (0)]), (b4, 45, #[Value.int .i64 (r8.1), U (hi (r8.2.1)), U (lo (r8.2.1)), Value.int .i64 (r11.1), U (hi (r11.2.1)), U (lo (r11.2.1)), Value.int .i64 (r14.1), U (hi (r14.2.1)), U (lo (r14.2.1)), Value.int .i64 (r17.1), U (hi (r17.2.1)), U (lo (r17.2.1)), Value.int .i64 (0), U (0#64), U (0#64)]), (b2, 24, #[Value.int .i64 (a_0), U (hi (a_1)), U (lo (a_1))])] 1 _ _ _ (#[Value.int .i64 (r8.1), U (hi (r8.2.1)), U (lo (r8.2.1)), Value.int .i64 (r11.1), U (hi (r11.2.1)), U (lo (r11.2.1)), Value.int .i64 (r14.1), U (hi (r14.2.1)), U (lo (r14.2.1)), Value.int .i64 (0), U (0#64), U (0#64), Value.int .i64 (0), U (0#64), U (0#64)]) (#[Value.int .i64 (r17.1), U (hi (r17.2.1)), U (lo (r17.2.1))]) (#[Value.int .i64 (r8.1), U (hi (r8.2.1)), U (lo (r8.2.1)), Value.int .i64 (r11.1), U (hi (r11.2.1)), U (lo (r11.2.1)), Value.int .i64 (r14.1), U (hi (r14.2.1)), U (lo (r14.2.1)), Value.int .i64 (r17.1), U (hi (r17.2.1)), U (lo (r17.2.1)), Value.int .i64 (0), U (0#64), U (0#64)]) rfl rfl rfl rfl (.of rfl rfl) rfl rfl ?_
  refine r_v (Value.pointer (some ⟨b6, 3, none⟩)) rfl rfl rfl rfl ?_
  refine r_s [(b6, 46, #[Value.int .i64 (r8.2.2), Value.int .i64 (r11.2.2), Value.int .i64 (r14.2.2), Value.int .i64 (r17.2.2), Value.int .i64 (0)]), (b4, 45, #[Value.int .i64 (r8.1), U (hi (r8.2.1)), U (lo (r8.2.1)), Value.int .i64 (r11.1), U (hi (r11.2.1)), U (lo (r11.2.1)), Value.int .i64 (r14.1), U (hi (r14.2.1)), U (lo (r14.2.1)), Value.int .i64 (r17.1), U (hi (r17.2.1)), U (lo (r17.2.1)), Value.int .i64 (0), U (0#64), U (0#64)]), (b2, 24, #[Value.int .i64 (a_0), U (hi (a_1)), U (lo (a_1))])] 0 _ _ _ (#[Value.int .i64 (r8.2.2), Value.int .i64 (r11.2.2), Value.int .i64 (r14.2.2), Value.int .i64 (0), Value.int .i64 (0)]) (#[Value.int .i64 (r17.2.2)]) (#[Value.int .i64 (r8.2.2), Value.int .i64 (r11.2.2), Value.int .i64 (r14.2.2), Value.int .i64 (r17.2.2), Value.int .i64 (0)]) rfl rfl rfl rfl (.of rfl rfl) rfl rfl ?_
  refine lx_nil ?_
  refine hK16 _ _ ?_; try clear hK16 K16
  refine A_gen [(1, Value.int .i64 (n)), (2, Value.pointer (some ⟨b2, 0, none⟩)), (5, Value.pointer (some ⟨b4, 0, none⟩)), (6, Value.pointer (some ⟨b6, 0, none⟩))] rfl (fun T => ?_)
  refine A_seq fun K19 hK19 => ?_
  refine A_reg ?_
  refine r_l (Value.agg #[Value.int .i64 (a_0), U (hi (a_1)), U (lo (a_1))]) 2 _ _ _ _ rfl rfl rfl rfl rfl ?_
  refine r_v (Value.int .i64 (n)) rfl rfl rfl rfl ?_
  replace hM := bind_sm hM; obtain ⟨r20, hr21, hM⟩ := hM
  refine r_c (Value.tuple #[Value.agg #[Value.int .i64 (r20.1), U (hi (r20.2.1)), U (lo (r20.2.1))], Value.int .i64 (r20.2.2)]) rfl _ _ (ev_callF rfl call_33 rfl) (vec_Cast_g N (a_0) (a_1) (n) _ hr21) ?_
  refine r_v (Value.tuple #[Value.agg #[Value.int .i64 (r20.1), U (hi (r20.2.1)), U (lo (r20.2.1))], Value.int .i64 (r20.2.2)]) rfl rfl rfl rfl ?_
  refine r_v (Value.agg #[Value.int .i64 (r20.1), U (hi (r20.2.1)), U (lo (r20.2.1))]) rfl rfl rfl rfl ?_
  refine r_v (Value.int .i64 (r20.2.2)) rfl rfl rfl rfl ?_
  refine r_v (Value.pointer (some ⟨b4, 12, none⟩)) rfl rfl rfl rfl ?_
  refine r_s [(b6, 46, #[Value.int .i64 (r8.2.2), Value.int .i64 (r11.2.2), Value.int .i64 (r14.2.2), Value.int .i64 (r17.2.2), Value.int .i64 (0)]), (b4, 45, #[Value.int .i64 (r8.1), U (hi (r8.2.1)), U (lo (r8.2.1)), Value.int .i64 (r11.1), U (hi (r11.2.1)), U (lo (r11.2.1)), Value.int .i64 (r14.1), U (hi (r14.2.1)), U (lo (r14.2.1)), Value.int .i64 (r17.1), U (hi (r17.2.1)), U (lo (r17.2.1)), Value.int .i64 (r20.1), U (hi (r20.2.1)), U (lo (r20.2.1))]), (b2, 24, #[Value.int .i64 (a_0), U (hi (a_1)), U (lo (a_1))])] 1 _ _ _ (#[Value.int .i64 (r8.1), U (hi (r8.2.1)), U (lo (r8.2.1)), Value.int .i64 (r11.1), U (hi (r11.2.1)), U (lo (r11.2.1)), Value.int .i64 (r14.1), U (hi (r14.2.1)), U (lo (r14.2.1)), Value.int .i64 (r17.1), U (hi (r17.2.1)), U (lo (r17.2.1)), Value.int .i64 (0), U (0#64), U (0#64)]) (#[Value.int .i64 (r20.1), U (hi (r20.2.1)), U (lo (r20.2.1))]) (#[Value.int .i64 (r8.1), U (hi (r8.2.1)), U (lo (r8.2.1)), Value.int .i64 (r11.1), U (hi (r11.2.1)), U (lo (r11.2.1)), Value.int .i64 (r14.1), U (hi (r14.2.1)), U (lo (r14.2.1)), Value.int .i64 (r17.1), U (hi (r17.2.1)), U (lo (r17.2.1)), Value.int .i64 (r20.1), U (hi (r20.2.1)), U (lo (r20.2.1))]) rfl rfl rfl rfl (.of rfl rfl) rfl rfl ?_
  refine r_v (Value.pointer (some ⟨b6, 4, none⟩)) rfl rfl rfl rfl ?_
  refine r_s [(b6, 46, #[Value.int .i64 (r8.2.2), Value.int .i64 (r11.2.2), Value.int .i64 (r14.2.2), Value.int .i64 (r17.2.2), Value.int .i64 (r20.2.2)]), (b4, 45, #[Value.int .i64 (r8.1), U (hi (r8.2.1)), U (lo (r8.2.1)), Value.int .i64 (r11.1), U (hi (r11.2.1)), U (lo (r11.2.1)), Value.int .i64 (r14.1), U (hi (r14.2.1)), U (lo (r14.2.1)), Value.int .i64 (r17.1), U (hi (r17.2.1)), U (lo (r17.2.1)), Value.int .i64 (r20.1), U (hi (r20.2.1)), U (lo (r20.2.1))]), (b2, 24, #[Value.int .i64 (a_0), U (hi (a_1)), U (lo (a_1))])] 0 _ _ _ (#[Value.int .i64 (r8.2.2), Value.int .i64 (r11.2.2), Value.int .i64 (r14.2.2), Value.int .i64 (r17.2.2), Value.int .i64 (0)]) (#[Value.int .i64 (r20.2.2)]) (#[Value.int .i64 (r8.2.2), Value.int .i64 (r11.2.2), Value.int .i64 (r14.2.2), Value.int .i64 (r17.2.2), Value.int .i64 (r20.2.2)]) rfl rfl rfl rfl (.of rfl rfl) rfl rfl ?_
  refine lx_nil ?_
  refine hK19 _ _ ?_; try clear hK19 K19
  refine A_seq fun K22 hK22 => ?_
  refine A_regC [(some 53, false)] (conG Tryd.prog []) ?_
  refine r_bs (cs0 := []) (Ls := [[(b6, 46, #[Value.int .i64 (r8.2.2), Value.int .i64 (r11.2.2), Value.int .i64 (r14.2.2), Value.int .i64 (r17.2.2), Value.int .i64 (r20.2.2)])], [(b4, 45, #[Value.int .i64 (r8.1), U (hi (r8.2.1)), U (lo (r8.2.1)), Value.int .i64 (r11.1), U (hi (r11.2.1)), U (lo (r11.2.1)), Value.int .i64 (r14.1), U (hi (r14.2.1)), U (lo (r14.2.1)), Value.int .i64 (r17.1), U (hi (r17.2.1)), U (lo (r17.2.1)), Value.int .i64 (r20.1), U (hi (r20.2.1)), U (lo (r20.2.1))])], [(b2, 24, #[Value.int .i64 (a_0), U (hi (a_1)), U (lo (a_1))])]]) 9 encS [([110, 111, 116] : List UInt8), ([110, 101, 103] : List UInt8), ([115, 104, 108] : List UInt8), ([115, 104, 114] : List UInt8), ([99, 97, 115, 116] : List UInt8)] [Value.string (⟨#[110, 111, 116]⟩), Value.string (⟨#[110, 101, 103]⟩), Value.string (⟨#[115, 104, 108]⟩), Value.string (⟨#[115, 104, 114]⟩), Value.string (⟨#[99, 97, 115, 116]⟩)] [Value.string (⟨#[]⟩), Value.string (⟨#[]⟩), Value.string (⟨#[]⟩), Value.string (⟨#[]⟩), Value.string (⟨#[]⟩)] rfl rfl rfl rfl rfl rfl rfl rfl (by kernel_rfl) rfl rfl rfl rfl (fun s23 S24 H25 => ?_)
  refine r_v (s23) rfl rfl rfl rfl ?_
  refine lx_nil ?_
  refine hK22 _ _ ?_; try clear hK22 K22
  refine A_seq fun K26 hK26 => ?_
  refine A_seq fun K27 hK27 => ?_
  refine A_reg ?_
  refine r_v (Value.int .i64 (0)) rfl rfl rfl rfl ?_
  refine lx_nil ?_
  refine hK27 _ _ ?_; try clear hK27 K27
  refine A_block ?_
  refine A_unroll fun K28 hK28 => ?_
  refine A_seq fun K29 hK29 => ?_
  refine A_seq fun K30 hK30 => ?_
  refine A_reg ?_
  refine r_v (Value.int .i64 (0)) rfl rfl rfl rfl ?_
  refine r_v (Value.bool (true)) rfl rfl rfl rfl ?_
  refine lx_nil ?_
  refine hK30 _ _ ?_; try clear hK30 K30
  refine A_cond true rfl (fun _ => ?_) (fun h_ => nomatch h_)
  refine A_skip ?_
  refine hK29 _ _ ?_; try clear hK29 K29
  refine A_seq fun K31 hK31 => ?_
  refine A_block ?_
  refine A_seq fun K32 hK32 => ?_
  refine A_draw [] (by decide +kernel) (fun hn => sep_nil) ?_
  refine r_v (s23) rfl rfl rfl rfl ?_
  refine r_v (Value.int .i64 (0)) rfl rfl rfl rfl ?_
  replace hM := ck_some hM; obtain ⟨ck33, hM⟩ := hM
  refine r_v (elA s23 (((0 : Int)).toNat * 1)) rfl rfl rfl (ev_v (ev_idxSl rfl rfl rfl (Sl.shp H25) ck33)) ?_
  refine r_le (Value.string (⟨(([([110, 111, 116] : List UInt8), ([110, 101, 103] : List UInt8), ([115, 104, 108] : List UInt8), ([115, 104, 114] : List UInt8), ([99, 97, 115, 116] : List UInt8)])[((0 : Int)).toNat]!).toArray⟩)) (En := encS) (([([110, 111, 116] : List UInt8), ([110, 101, 103] : List UInt8), ([115, 104, 108] : List UInt8), ([115, 104, 114] : List UInt8), ([99, 97, 115, 116] : List UInt8)])[((0 : Int)).toNat]!) (((0 : Int)).toNat) 0 rfl rfl (rd_own H25 (mem_chunk (Ls := [[(b6, 46, #[Value.int .i64 (r8.2.2), Value.int .i64 (r11.2.2), Value.int .i64 (r14.2.2), Value.int .i64 (r17.2.2), Value.int .i64 (r20.2.2)])], [(b4, 45, #[Value.int .i64 (r8.1), U (hi (r8.2.1)), U (lo (r8.2.1)), Value.int .i64 (r11.1), U (hi (r11.2.1)), U (lo (r11.2.1)), Value.int .i64 (r14.1), U (hi (r14.2.1)), U (lo (r14.2.1)), Value.int .i64 (r17.1), U (hi (r17.2.1)), U (lo (r17.2.1)), Value.int .i64 (r20.1), U (hi (r20.2.1)), U (lo (r20.2.1))])], [(b2, 24, #[Value.int .i64 (a_0), U (hi (a_1)), U (lo (a_1))])], S24]) (k := 3) rfl rfl)) (get_of ck33) rfl ?_
  refine r_l (Value.agg #[Value.int .i64 (a_0), U (hi (a_1)), U (lo (a_1))]) 2 _ _ _ _ rfl rfl rfl rfl rfl ?_
  refine r_v (Value.int .i64 (n)) rfl rfl rfl rfl ?_
  replace hM := bind_sm hM; obtain ⟨r34, hr35, hM⟩ := hM
  refine r_c (Value.tuple #[Value.agg #[Value.int .i64 (r34.1), U (hi (r34.2.1)), U (lo (r34.2.1))], Value.int .i64 (r34.2.2)]) rfl _ _ (ev_callF rfl call_34 rfl) (shunterref02_One_g N (([([110, 111, 116] : List UInt8), ([110, 101, 103] : List UInt8), ([115, 104, 108] : List UInt8), ([115, 104, 114] : List UInt8), ([99, 97, 115, 116] : List UInt8)])[((0 : Int)).toNat]!) (a_0) (a_1) (n) _ hr35) ?_
  refine r_v (Value.tuple #[Value.agg #[Value.int .i64 (r34.1), U (hi (r34.2.1)), U (lo (r34.2.1))], Value.int .i64 (r34.2.2)]) rfl rfl rfl rfl ?_
  refine r_v (Value.agg #[Value.int .i64 (r34.1), U (hi (r34.2.1)), U (lo (r34.2.1))]) rfl rfl rfl rfl ?_
  refine r_v (Value.int .i64 (r34.2.2)) rfl rfl rfl rfl ?_
  refine r_a (24, #[Value.int .i64 (0), U (0#64), U (0#64)]) rfl rfl rfl (fun b36 => ?_) (.inl rfl)
  refine r_sn (List.flatten [[(b36, 24, #[Value.int .i64 (r34.1), U (hi (r34.2.1)), U (lo (r34.2.1))])], [(b6, 46, #[Value.int .i64 (r8.2.2), Value.int .i64 (r11.2.2), Value.int .i64 (r14.2.2), Value.int .i64 (r17.2.2), Value.int .i64 (r20.2.2)])], [(b4, 45, #[Value.int .i64 (r8.1), U (hi (r8.2.1)), U (lo (r8.2.1)), Value.int .i64 (r11.1), U (hi (r11.2.1)), U (lo (r11.2.1)), Value.int .i64 (r14.1), U (hi (r14.2.1)), U (lo (r14.2.1)), Value.int .i64 (r17.1), U (hi (r17.2.1)), U (lo (r17.2.1)), Value.int .i64 (r20.1), U (hi (r20.2.1)), U (lo (r20.2.1))])], [(b2, 24, #[Value.int .i64 (a_0), U (hi (a_1)), U (lo (a_1))])], S24]) 0 _ _ _ (#[Value.int .i64 (0), U (0#64), U (0#64)]) (#[Value.int .i64 (r34.1), U (hi (r34.2.1)), U (lo (r34.2.1))]) (#[Value.int .i64 (r34.1), U (hi (r34.2.1)), U (lo (r34.2.1))]) rfl rfl rfl rfl rfl (.of rfl rfl) rfl rfl ?_
  refine r_v (Value.int .i64 (r34.2.2)) rfl rfl rfl rfl ?_
  refine lx_nil ?_
  refine hK32 _ _ ?_; try clear hK32 K32
  refine A_seq fun K37 hK37 => ?_
  refine A_draw [] (by decide +kernel) (fun hn => sep_nil) ?_
  refine r_v (Value.int .i64 (0)) rfl rfl rfl rfl ?_
  refine r_v (Value.pointer (some ⟨b4, 0, none⟩)) rfl rfl rfl rfl ?_
  refine r_l (Value.agg #[Value.int .i64 (r8.1), U (hi (r8.2.1)), U (lo (r8.2.1))]) 2 _ _ _ _ rfl rfl rfl rfl rfl ?_
  refine r_l (Value.agg #[Value.int .i64 (r34.1), U (hi (r34.2.1)), U (lo (r34.2.1))]) 0 _ _ _ _ rfl rfl rfl rfl rfl ?_
  refine r_v (Value.bool (!(((r8.1) == (r34.1)) && ((r8.2.1) == (r34.2.1))))) rfl rfl rfl (ev_binNe rfl rfl eg_24 (eqst_24 (r8.1) (r34.1) (r8.2.1) (r34.2.1))) ?_
  refine r_v (Value.bool (!(((r8.1) == (r34.1)) && ((r8.2.1) == (r34.2.1))))) rfl rfl rfl rfl ?_
  rcases hg38 : (!(((r8.1) == (r34.1)) && ((r8.2.1) == (r34.2.1)))) with _ | _
  · replace hM := ifp (not_f hg38) hM
    refine r_y rfl ?_
    refine r_v (Value.int .i64 (0)) rfl rfl rfl rfl ?_
    refine r_y rfl ?_
    refine r_v (Value.pointer (some ⟨b6, 0, none⟩)) rfl rfl rfl rfl ?_
    refine r_y rfl ?_
    refine r_l (Value.int .i64 (r8.2.2)) 1 _ _ _ _ rfl rfl rfl rfl rfl ?_
    refine r_y rfl ?_
    refine r_v (Value.int .i64 (r34.2.2)) rfl rfl rfl rfl ?_
    refine r_y rfl ?_
    refine r_v (Value.bool (((r8.2.2 : Int) != r34.2.2))) rfl rfl rfl rfl ?_
    refine r_v (Value.bool (((r8.2.2 : Int) != r34.2.2))) rfl rfl rfl rfl ?_
    refine lx_nil ?_
    refine hK37 _ _ ?_; try clear hK37 K37
    refine A_gen [(1, Value.int .i64 (n)), (2, Value.pointer (some ⟨b2, 0, none⟩)), (5, Value.pointer (some ⟨b4, 0, none⟩)), (6, Value.pointer (some ⟨b6, 0, none⟩)), (7, s23), (8, Value.int .i64 (0)), (79, Value.bool (((r8.2.2 : Int) != r34.2.2)))] rfl (fun T => ?_)
    refine A_cond (((r8.2.2 : Int) != r34.2.2)) rfl (fun hc39 => ?_) (fun hc39 => ?_)
    · replace hM := ifp (bne_iff_ne.1 hc39) hM
      refine A_seq fun K40 hK40 => ?_
      refine A_reg ?_
      refine r_v (Value.bool (false)) rfl rfl rfl rfl ?_
      refine lx_nil ?_
      refine hK40 _ _ ?_; try clear hK40 K40
      obtain rfl := Option.some.inj hM
      refine A_ret (fun hn => ends_eq (v0 := Value.bool (false)) rfl (res1 rfl))
    · replace hM := ifn (bne_f hc39) hM
      refine A_skip ?_
      refine hK31 _ _ ?_; try clear hK31 K31
      refine A_reg ?_
      refine r_v (Value.int .i64 (0)) rfl rfl rfl rfl ?_
      refine r_v (Value.int .i64 (1)) rfl rfl (wi64 rfl (by decide) (by decide)) rfl ?_
      refine r_v (Value.int .i64 (1)) rfl rfl rfl rfl ?_
      refine lx_nil ?_
      refine hK28 _ _ ?_; try clear hK28 K28
      refine AL_unroll fun K41 hK41 => ?_
      refine A_seq fun K42 hK42 => ?_
      refine A_seq fun K43 hK43 => ?_
      refine A_reg ?_
      refine r_v (Value.int .i64 (1)) rfl rfl rfl rfl ?_
      refine r_v (Value.bool (true)) rfl rfl rfl rfl ?_
      refine lx_nil ?_
      refine hK43 _ _ ?_; try clear hK43 K43
      refine A_cond true rfl (fun _ => ?_) (fun h_ => nomatch h_)
      refine A_skip ?_
      refine hK42 _ _ ?_; try clear hK42 K42
      refine A_seq fun K44 hK44 => ?_
      refine A_block ?_
      refine A_seq fun K45 hK45 => ?_
      refine A_draw [] (by decide +kernel) (fun hn => sep_nil) ?_
      refine r_v (s23) rfl rfl rfl rfl ?_
      refine r_v (Value.int .i64 (1)) rfl rfl rfl rfl ?_
      replace hM := ck_some hM; obtain ⟨ck46, hM⟩ := hM
      refine r_v (elA s23 (((1 : Int)).toNat * 1)) rfl rfl rfl (ev_v (ev_idxSl rfl rfl rfl (Sl.shp H25) ck46)) ?_
      refine r_le (Value.string (⟨(([([110, 111, 116] : List UInt8), ([110, 101, 103] : List UInt8), ([115, 104, 108] : List UInt8), ([115, 104, 114] : List UInt8), ([99, 97, 115, 116] : List UInt8)])[((1 : Int)).toNat]!).toArray⟩)) (En := encS) (([([110, 111, 116] : List UInt8), ([110, 101, 103] : List UInt8), ([115, 104, 108] : List UInt8), ([115, 104, 114] : List UInt8), ([99, 97, 115, 116] : List UInt8)])[((1 : Int)).toNat]!) (((1 : Int)).toNat) 0 rfl rfl (rd_own H25 (mem_chunk (Ls := [[(b36, 24, #[Value.int .i64 (r34.1), U (hi (r34.2.1)), U (lo (r34.2.1))])], [(b6, 46, #[Value.int .i64 (r8.2.2), Value.int .i64 (r11.2.2), Value.int .i64 (r14.2.2), Value.int .i64 (r17.2.2), Value.int .i64 (r20.2.2)])], [(b4, 45, #[Value.int .i64 (r8.1), U (hi (r8.2.1)), U (lo (r8.2.1)), Value.int .i64 (r11.1), U (hi (r11.2.1)), U (lo (r11.2.1)), Value.int .i64 (r14.1), U (hi (r14.2.1)), U (lo (r14.2.1)), Value.int .i64 (r17.1), U (hi (r17.2.1)), U (lo (r17.2.1)), Value.int .i64 (r20.1), U (hi (r20.2.1)), U (lo (r20.2.1))])], [(b2, 24, #[Value.int .i64 (a_0), U (hi (a_1)), U (lo (a_1))])], S24]) (k := 4) rfl rfl)) (get_of ck46) rfl ?_
      refine r_l (Value.agg #[Value.int .i64 (a_0), U (hi (a_1)), U (lo (a_1))]) 3 _ _ _ _ rfl rfl rfl rfl rfl ?_
      refine r_v (Value.int .i64 (n)) rfl rfl rfl rfl ?_
      replace hM := bind_sm hM; obtain ⟨r47, hr48, hM⟩ := hM
      refine r_c (Value.tuple #[Value.agg #[Value.int .i64 (r47.1), U (hi (r47.2.1)), U (lo (r47.2.1))], Value.int .i64 (r47.2.2)]) rfl _ _ (ev_callF rfl call_34 rfl) (shunterref02_One_g N (([([110, 111, 116] : List UInt8), ([110, 101, 103] : List UInt8), ([115, 104, 108] : List UInt8), ([115, 104, 114] : List UInt8), ([99, 97, 115, 116] : List UInt8)])[((1 : Int)).toNat]!) (a_0) (a_1) (n) _ hr48) ?_
      refine r_v (Value.tuple #[Value.agg #[Value.int .i64 (r47.1), U (hi (r47.2.1)), U (lo (r47.2.1))], Value.int .i64 (r47.2.2)]) rfl rfl rfl rfl ?_
      refine r_v (Value.agg #[Value.int .i64 (r47.1), U (hi (r47.2.1)), U (lo (r47.2.1))]) rfl rfl rfl rfl ?_
      refine r_v (Value.int .i64 (r47.2.2)) rfl rfl rfl rfl ?_
      refine r_a (24, #[Value.int .i64 (0), U (0#64), U (0#64)]) rfl rfl rfl (fun b49 => ?_) (.inl rfl)
      refine r_sn (List.flatten [[(b49, 24, #[Value.int .i64 (r47.1), U (hi (r47.2.1)), U (lo (r47.2.1))])], [(b36, 24, #[Value.int .i64 (r34.1), U (hi (r34.2.1)), U (lo (r34.2.1))])], [(b6, 46, #[Value.int .i64 (r8.2.2), Value.int .i64 (r11.2.2), Value.int .i64 (r14.2.2), Value.int .i64 (r17.2.2), Value.int .i64 (r20.2.2)])], [(b4, 45, #[Value.int .i64 (r8.1), U (hi (r8.2.1)), U (lo (r8.2.1)), Value.int .i64 (r11.1), U (hi (r11.2.1)), U (lo (r11.2.1)), Value.int .i64 (r14.1), U (hi (r14.2.1)), U (lo (r14.2.1)), Value.int .i64 (r17.1), U (hi (r17.2.1)), U (lo (r17.2.1)), Value.int .i64 (r20.1), U (hi (r20.2.1)), U (lo (r20.2.1))])], [(b2, 24, #[Value.int .i64 (a_0), U (hi (a_1)), U (lo (a_1))])], S24]) 0 _ _ _ (#[Value.int .i64 (0), U (0#64), U (0#64)]) (#[Value.int .i64 (r47.1), U (hi (r47.2.1)), U (lo (r47.2.1))]) (#[Value.int .i64 (r47.1), U (hi (r47.2.1)), U (lo (r47.2.1))]) rfl rfl rfl rfl rfl (.of rfl rfl) rfl rfl ?_
      refine r_v (Value.int .i64 (r47.2.2)) rfl rfl rfl rfl ?_
      refine lx_nil ?_
      refine hK45 _ _ ?_; try clear hK45 K45
      refine A_seq fun K50 hK50 => ?_
      refine A_draw [] (by decide +kernel) (fun hn => sep_nil) ?_
      refine r_v (Value.int .i64 (1)) rfl rfl rfl rfl ?_
      refine r_v (Value.pointer (some ⟨b4, 3, none⟩)) rfl rfl rfl rfl ?_
      refine r_l (Value.agg #[Value.int .i64 (r11.1), U (hi (r11.2.1)), U (lo (r11.2.1))]) 3 _ _ _ _ rfl rfl rfl rfl rfl ?_
      refine r_l (Value.agg #[Value.int .i64 (r47.1), U (hi (r47.2.1)), U (lo (r47.2.1))]) 0 _ _ _ _ rfl rfl rfl rfl rfl ?_
      refine r_v (Value.bool (!(((r11.1) == (r47.1)) && ((r11.2.1) == (r47.2.1))))) rfl rfl rfl (ev_binNe rfl rfl eg_24 (eqst_24 (r11.1) (r47.1) (r11.2.1) (r47.2.1))) ?_
      refine r_v (Value.bool (!(((r11.1) == (r47.1)) && ((r11.2.1) == (r47.2.1))))) rfl rfl rfl rfl ?_
      rcases hg51 : (!(((r11.1) == (r47.1)) && ((r11.2.1) == (r47.2.1)))) with _ | _
      · replace hM := ifp (not_f hg51) hM
        refine r_y rfl ?_
        refine r_v (Value.int .i64 (1)) rfl rfl rfl rfl ?_
        refine r_y rfl ?_
        refine r_v (Value.pointer (some ⟨b6, 1, none⟩)) rfl rfl rfl rfl ?_
        refine r_y rfl ?_
        refine r_l (Value.int .i64 (r11.2.2)) 2 _ _ _ _ rfl rfl rfl rfl rfl ?_
        refine r_y rfl ?_
        refine r_v (Value.int .i64 (r47.2.2)) rfl rfl rfl rfl ?_
        refine r_y rfl ?_
        refine r_v (Value.bool (((r11.2.2 : Int) != r47.2.2))) rfl rfl rfl rfl ?_
        refine r_v (Value.bool (((r11.2.2 : Int) != r47.2.2))) rfl rfl rfl rfl ?_
        refine lx_nil ?_
        refine hK50 _ _ ?_; try clear hK50 K50
        refine A_gen [(1, Value.int .i64 (n)), (2, Value.pointer (some ⟨b2, 0, none⟩)), (5, Value.pointer (some ⟨b4, 0, none⟩)), (6, Value.pointer (some ⟨b6, 0, none⟩)), (7, s23), (8, Value.int .i64 (1)), (79, Value.bool (((r11.2.2 : Int) != r47.2.2)))] rfl (fun T => ?_)
        refine A_cond (((r11.2.2 : Int) != r47.2.2)) rfl (fun hc52 => ?_) (fun hc52 => ?_)
        · replace hM := ifp (bne_iff_ne.1 hc52) hM
          refine A_seq fun K53 hK53 => ?_
          refine A_reg ?_
          refine r_v (Value.bool (false)) rfl rfl rfl rfl ?_
          refine lx_nil ?_
          refine hK53 _ _ ?_; try clear hK53 K53
          obtain rfl := Option.some.inj hM
          refine A_ret (fun hn => ends_eq (v0 := Value.bool (false)) rfl (res1 rfl))
        · replace hM := ifn (bne_f hc52) hM
          refine A_skip ?_
          refine hK44 _ _ ?_; try clear hK44 K44
          refine A_reg ?_
          refine r_v (Value.int .i64 (1)) rfl rfl rfl rfl ?_
          refine r_v (Value.int .i64 (2)) rfl rfl (wi64 rfl (by decide) (by decide)) rfl ?_
          refine r_v (Value.int .i64 (2)) rfl rfl rfl rfl ?_
          refine lx_nil ?_
          refine hK41 _ _ ?_; try clear hK41 K41
          refine AL_unroll fun K54 hK54 => ?_
          refine A_seq fun K55 hK55 => ?_
          refine A_seq fun K56 hK56 => ?_
          refine A_reg ?_
          refine r_v (Value.int .i64 (2)) rfl rfl rfl rfl ?_
          refine r_v (Value.bool (true)) rfl rfl rfl rfl ?_
          refine lx_nil ?_
          refine hK56 _ _ ?_; try clear hK56 K56
          refine A_cond true rfl (fun _ => ?_) (fun h_ => nomatch h_)
          refine A_skip ?_
          refine hK55 _ _ ?_; try clear hK55 K55
          refine A_seq fun K57 hK57 => ?_
          refine A_block ?_
          refine A_seq fun K58 hK58 => ?_
          refine A_draw [] (by decide +kernel) (fun hn => sep_nil) ?_
          refine r_v (s23) rfl rfl rfl rfl ?_
          refine r_v (Value.int .i64 (2)) rfl rfl rfl rfl ?_
          replace hM := ck_some hM; obtain ⟨ck59, hM⟩ := hM
          refine r_v (elA s23 (((2 : Int)).toNat * 1)) rfl rfl rfl (ev_v (ev_idxSl rfl rfl rfl (Sl.shp H25) ck59)) ?_
          refine r_le (Value.string (⟨(([([110, 111, 116] : List UInt8), ([110, 101, 103] : List UInt8), ([115, 104, 108] : List UInt8), ([115, 104, 114] : List UInt8), ([99, 97, 115, 116] : List UInt8)])[((2 : Int)).toNat]!).toArray⟩)) (En := encS) (([([110, 111, 116] : List UInt8), ([110, 101, 103] : List UInt8), ([115, 104, 108] : List UInt8), ([115, 104, 114] : List UInt8), ([99, 97, 115, 116] : List UInt8)])[((2 : Int)).toNat]!) (((2 : Int)).toNat) 0 rfl rfl (rd_own H25 (mem_chunk (Ls := [[(b49, 24, #[Value.int .i64 (r47.1), U (hi (r47.2.1)), U (lo (r47.2.1))])], [(b36, 24, #[Value.int .i64 (r34.1), U (hi (r34.2.1)), U (lo (r34.2.1))])], [(b6, 46, #[Value.int .i64 (r8.2.2), Value.int .i64 (r11.2.2), Value.int .i64 (r14.2.2), Value.int .i64 (r17.2.2), Value.int .i64 (r20.2.2)])], [(b4, 45, #[Value.int .i64 (r8.1), U (hi (r8.2.1)), U (lo (r8.2.1)), Value.int .i64 (r11.1), U (hi (r11.2.1)), U (lo (r11.2.1)), Value.int .i64 (r14.1), U (hi (r14.2.1)), U (lo (r14.2.1)), Value.int .i64 (r17.1), U (hi (r17.2.1)), U (lo (r17.2.1)), Value.int .i64 (r20.1), U (hi (r20.2.1)), U (lo (r20.2.1))])], [(b2, 24, #[Value.int .i64 (a_0), U (hi (a_1)), U (lo (a_1))])], S24]) (k := 5) rfl rfl)) (get_of ck59) rfl ?_
          refine r_l (Value.agg #[Value.int .i64 (a_0), U (hi (a_1)), U (lo (a_1))]) 4 _ _ _ _ rfl rfl rfl rfl rfl ?_
          refine r_v (Value.int .i64 (n)) rfl rfl rfl rfl ?_
          replace hM := bind_sm hM; obtain ⟨r60, hr61, hM⟩ := hM
          refine r_c (Value.tuple #[Value.agg #[Value.int .i64 (r60.1), U (hi (r60.2.1)), U (lo (r60.2.1))], Value.int .i64 (r60.2.2)]) rfl _ _ (ev_callF rfl call_34 rfl) (shunterref02_One_g N (([([110, 111, 116] : List UInt8), ([110, 101, 103] : List UInt8), ([115, 104, 108] : List UInt8), ([115, 104, 114] : List UInt8), ([99, 97, 115, 116] : List UInt8)])[((2 : Int)).toNat]!) (a_0) (a_1) (n) _ hr61) ?_
          refine r_v (Value.tuple #[Value.agg #[Value.int .i64 (r60.1), U (hi (r60.2.1)), U (lo (r60.2.1))], Value.int .i64 (r60.2.2)]) rfl rfl rfl rfl ?_
          refine r_v (Value.agg #[Value.int .i64 (r60.1), U (hi (r60.2.1)), U (lo (r60.2.1))]) rfl rfl rfl rfl ?_
          refine r_v (Value.int .i64 (r60.2.2)) rfl rfl rfl rfl ?_
          refine r_a (24, #[Value.int .i64 (0), U (0#64), U (0#64)]) rfl rfl rfl (fun b62 => ?_) (.inl rfl)
          refine r_sn (List.flatten [[(b62, 24, #[Value.int .i64 (r60.1), U (hi (r60.2.1)), U (lo (r60.2.1))])], [(b49, 24, #[Value.int .i64 (r47.1), U (hi (r47.2.1)), U (lo (r47.2.1))])], [(b36, 24, #[Value.int .i64 (r34.1), U (hi (r34.2.1)), U (lo (r34.2.1))])], [(b6, 46, #[Value.int .i64 (r8.2.2), Value.int .i64 (r11.2.2), Value.int .i64 (r14.2.2), Value.int .i64 (r17.2.2), Value.int .i64 (r20.2.2)])], [(b4, 45, #[Value.int .i64 (r8.1), U (hi (r8.2.1)), U (lo (r8.2.1)), Value.int .i64 (r11.1), U (hi (r11.2.1)), U (lo (r11.2.1)), Value.int .i64 (r14.1), U (hi (r14.2.1)), U (lo (r14.2.1)), Value.int .i64 (r17.1), U (hi (r17.2.1)), U (lo (r17.2.1)), Value.int .i64 (r20.1), U (hi (r20.2.1)), U (lo (r20.2.1))])], [(b2, 24, #[Value.int .i64 (a_0), U (hi (a_1)), U (lo (a_1))])], S24]) 0 _ _ _ (#[Value.int .i64 (0), U (0#64), U (0#64)]) (#[Value.int .i64 (r60.1), U (hi (r60.2.1)), U (lo (r60.2.1))]) (#[Value.int .i64 (r60.1), U (hi (r60.2.1)), U (lo (r60.2.1))]) rfl rfl rfl rfl rfl (.of rfl rfl) rfl rfl ?_
          refine r_v (Value.int .i64 (r60.2.2)) rfl rfl rfl rfl ?_
          refine lx_nil ?_
          refine hK58 _ _ ?_; try clear hK58 K58
          refine A_seq fun K63 hK63 => ?_
          refine A_draw [] (by decide +kernel) (fun hn => sep_nil) ?_
          refine r_v (Value.int .i64 (2)) rfl rfl rfl rfl ?_
          refine r_v (Value.pointer (some ⟨b4, 6, none⟩)) rfl rfl rfl rfl ?_
          refine r_l (Value.agg #[Value.int .i64 (r14.1), U (hi (r14.2.1)), U (lo (r14.2.1))]) 4 _ _ _ _ rfl rfl rfl rfl rfl ?_
          refine r_l (Value.agg #[Value.int .i64 (r60.1), U (hi (r60.2.1)), U (lo (r60.2.1))]) 0 _ _ _ _ rfl rfl rfl rfl rfl ?_
          refine r_v (Value.bool (!(((r14.1) == (r60.1)) && ((r14.2.1) == (r60.2.1))))) rfl rfl rfl (ev_binNe rfl rfl eg_24 (eqst_24 (r14.1) (r60.1) (r14.2.1) (r60.2.1))) ?_
          refine r_v (Value.bool (!(((r14.1) == (r60.1)) && ((r14.2.1) == (r60.2.1))))) rfl rfl rfl rfl ?_
          rcases hg64 : (!(((r14.1) == (r60.1)) && ((r14.2.1) == (r60.2.1)))) with _ | _
          · replace hM := ifp (not_f hg64) hM
            refine r_y rfl ?_
            refine r_v (Value.int .i64 (2)) rfl rfl rfl rfl ?_
            refine r_y rfl ?_
            refine r_v (Value.pointer (some ⟨b6, 2, none⟩)) rfl rfl rfl rfl ?_
            refine r_y rfl ?_
            refine r_l (Value.int .i64 (r14.2.2)) 3 _ _ _ _ rfl rfl rfl rfl rfl ?_
            refine r_y rfl ?_
            refine r_v (Value.int .i64 (r60.2.2)) rfl rfl rfl rfl ?_
            refine r_y rfl ?_
            refine r_v (Value.bool (((r14.2.2 : Int) != r60.2.2))) rfl rfl rfl rfl ?_
            refine r_v (Value.bool (((r14.2.2 : Int) != r60.2.2))) rfl rfl rfl rfl ?_
            refine lx_nil ?_
            refine hK63 _ _ ?_; try clear hK63 K63
            refine A_gen [(1, Value.int .i64 (n)), (2, Value.pointer (some ⟨b2, 0, none⟩)), (5, Value.pointer (some ⟨b4, 0, none⟩)), (6, Value.pointer (some ⟨b6, 0, none⟩)), (7, s23), (8, Value.int .i64 (2)), (79, Value.bool (((r14.2.2 : Int) != r60.2.2)))] rfl (fun T => ?_)
            refine A_cond (((r14.2.2 : Int) != r60.2.2)) rfl (fun hc65 => ?_) (fun hc65 => ?_)
            · replace hM := ifp (bne_iff_ne.1 hc65) hM
              refine A_seq fun K66 hK66 => ?_
              refine A_reg ?_
              refine r_v (Value.bool (false)) rfl rfl rfl rfl ?_
              refine lx_nil ?_
              refine hK66 _ _ ?_; try clear hK66 K66
              obtain rfl := Option.some.inj hM
              refine A_ret (fun hn => ends_eq (v0 := Value.bool (false)) rfl (res1 rfl))
            · replace hM := ifn (bne_f hc65) hM
              refine A_skip ?_
              refine hK57 _ _ ?_; try clear hK57 K57
              refine A_reg ?_
              refine r_v (Value.int .i64 (2)) rfl rfl rfl rfl ?_
              refine r_v (Value.int .i64 (3)) rfl rfl (wi64 rfl (by decide) (by decide)) rfl ?_
              refine r_v (Value.int .i64 (3)) rfl rfl rfl rfl ?_
              refine lx_nil ?_
              refine hK54 _ _ ?_; try clear hK54 K54
              refine AL_unroll fun K67 hK67 => ?_
              refine A_seq fun K68 hK68 => ?_
              refine A_seq fun K69 hK69 => ?_
              refine A_reg ?_
              refine r_v (Value.int .i64 (3)) rfl rfl rfl rfl ?_
              refine r_v (Value.bool (true)) rfl rfl rfl rfl ?_
              refine lx_nil ?_
              refine hK69 _ _ ?_; try clear hK69 K69
              refine A_cond true rfl (fun _ => ?_) (fun h_ => nomatch h_)
              refine A_skip ?_
              refine hK68 _ _ ?_; try clear hK68 K68
              refine A_seq fun K70 hK70 => ?_
              refine A_block ?_
              refine A_seq fun K71 hK71 => ?_
              refine A_draw [] (by decide +kernel) (fun hn => sep_nil) ?_
              refine r_v (s23) rfl rfl rfl rfl ?_
              refine r_v (Value.int .i64 (3)) rfl rfl rfl rfl ?_
              replace hM := ck_some hM; obtain ⟨ck72, hM⟩ := hM
              refine r_v (elA s23 (((3 : Int)).toNat * 1)) rfl rfl rfl (ev_v (ev_idxSl rfl rfl rfl (Sl.shp H25) ck72)) ?_
              refine r_le (Value.string (⟨(([([110, 111, 116] : List UInt8), ([110, 101, 103] : List UInt8), ([115, 104, 108] : List UInt8), ([115, 104, 114] : List UInt8), ([99, 97, 115, 116] : List UInt8)])[((3 : Int)).toNat]!).toArray⟩)) (En := encS) (([([110, 111, 116] : List UInt8), ([110, 101, 103] : List UInt8), ([115, 104, 108] : List UInt8), ([115, 104, 114] : List UInt8), ([99, 97, 115, 116] : List UInt8)])[((3 : Int)).toNat]!) (((3 : Int)).toNat) 0 rfl rfl (rd_own H25 (mem_chunk (Ls := [[(b62, 24, #[Value.int .i64 (r60.1), U (hi (r60.2.1)), U (lo (r60.2.1))])], [(b49, 24, #[Value.int .i64 (r47.1), U (hi (r47.2.1)), U (lo (r47.2.1))])], [(b36, 24, #[Value.int .i64 (r34.1), U (hi (r34.2.1)), U (lo (r34.2.1))])], [(b6, 46, #[Value.int .i64 (r8.2.2), Value.int .i64 (r11.2.2), Value.int .i64 (r14.2.2), Value.int .i64 (r17.2.2), Value.int .i64 (r20.2.2)])], [(b4, 45, #[Value.int .i64 (r8.1), U (hi (r8.2.1)), U (lo (r8.2.1)), Value.int .i64 (r11.1), U (hi (r11.2.1)), U (lo (r11.2.1)), Value.int .i64 (r14.1), U (hi (r14.2.1)), U (lo (r14.2.1)), Value.int .i64 (r17.1), U (hi (r17.2.1)), U (lo (r17.2.1)), Value.int .i64 (r20.1), U (hi (r20.2.1)), U (lo (r20.2.1))])], [(b2, 24, #[Value.int .i64 (a_0), U (hi (a_1)), U (lo (a_1))])], S24]) (k := 6) rfl rfl)) (get_of ck72) rfl ?_
              refine r_l (Value.agg #[Value.int .i64 (a_0), U (hi (a_1)), U (lo (a_1))]) 5 _ _ _ _ rfl rfl rfl rfl rfl ?_
              refine r_v (Value.int .i64 (n)) rfl rfl rfl rfl ?_
              replace hM := bind_sm hM; obtain ⟨r73, hr74, hM⟩ := hM
              refine r_c (Value.tuple #[Value.agg #[Value.int .i64 (r73.1), U (hi (r73.2.1)), U (lo (r73.2.1))], Value.int .i64 (r73.2.2)]) rfl _ _ (ev_callF rfl call_34 rfl) (shunterref02_One_g N (([([110, 111, 116] : List UInt8), ([110, 101, 103] : List UInt8), ([115, 104, 108] : List UInt8), ([115, 104, 114] : List UInt8), ([99, 97, 115, 116] : List UInt8)])[((3 : Int)).toNat]!) (a_0) (a_1) (n) _ hr74) ?_
              refine r_v (Value.tuple #[Value.agg #[Value.int .i64 (r73.1), U (hi (r73.2.1)), U (lo (r73.2.1))], Value.int .i64 (r73.2.2)]) rfl rfl rfl rfl ?_
              refine r_v (Value.agg #[Value.int .i64 (r73.1), U (hi (r73.2.1)), U (lo (r73.2.1))]) rfl rfl rfl rfl ?_
              refine r_v (Value.int .i64 (r73.2.2)) rfl rfl rfl rfl ?_
              refine r_a (24, #[Value.int .i64 (0), U (0#64), U (0#64)]) rfl rfl rfl (fun b75 => ?_) (.inl rfl)
              refine r_sn (List.flatten [[(b75, 24, #[Value.int .i64 (r73.1), U (hi (r73.2.1)), U (lo (r73.2.1))])], [(b62, 24, #[Value.int .i64 (r60.1), U (hi (r60.2.1)), U (lo (r60.2.1))])], [(b49, 24, #[Value.int .i64 (r47.1), U (hi (r47.2.1)), U (lo (r47.2.1))])], [(b36, 24, #[Value.int .i64 (r34.1), U (hi (r34.2.1)), U (lo (r34.2.1))])], [(b6, 46, #[Value.int .i64 (r8.2.2), Value.int .i64 (r11.2.2), Value.int .i64 (r14.2.2), Value.int .i64 (r17.2.2), Value.int .i64 (r20.2.2)])], [(b4, 45, #[Value.int .i64 (r8.1), U (hi (r8.2.1)), U (lo (r8.2.1)), Value.int .i64 (r11.1), U (hi (r11.2.1)), U (lo (r11.2.1)), Value.int .i64 (r14.1), U (hi (r14.2.1)), U (lo (r14.2.1)), Value.int .i64 (r17.1), U (hi (r17.2.1)), U (lo (r17.2.1)), Value.int .i64 (r20.1), U (hi (r20.2.1)), U (lo (r20.2.1))])], [(b2, 24, #[Value.int .i64 (a_0), U (hi (a_1)), U (lo (a_1))])], S24]) 0 _ _ _ (#[Value.int .i64 (0), U (0#64), U (0#64)]) (#[Value.int .i64 (r73.1), U (hi (r73.2.1)), U (lo (r73.2.1))]) (#[Value.int .i64 (r73.1), U (hi (r73.2.1)), U (lo (r73.2.1))]) rfl rfl rfl rfl rfl (.of rfl rfl) rfl rfl ?_
              refine r_v (Value.int .i64 (r73.2.2)) rfl rfl rfl rfl ?_
              refine lx_nil ?_
              refine hK71 _ _ ?_; try clear hK71 K71
              refine A_seq fun K76 hK76 => ?_
              refine A_draw [] (by decide +kernel) (fun hn => sep_nil) ?_
              refine r_v (Value.int .i64 (3)) rfl rfl rfl rfl ?_
              refine r_v (Value.pointer (some ⟨b4, 9, none⟩)) rfl rfl rfl rfl ?_
              refine r_l (Value.agg #[Value.int .i64 (r17.1), U (hi (r17.2.1)), U (lo (r17.2.1))]) 5 _ _ _ _ rfl rfl rfl rfl rfl ?_
              refine r_l (Value.agg #[Value.int .i64 (r73.1), U (hi (r73.2.1)), U (lo (r73.2.1))]) 0 _ _ _ _ rfl rfl rfl rfl rfl ?_
              refine r_v (Value.bool (!(((r17.1) == (r73.1)) && ((r17.2.1) == (r73.2.1))))) rfl rfl rfl (ev_binNe rfl rfl eg_24 (eqst_24 (r17.1) (r73.1) (r17.2.1) (r73.2.1))) ?_
              refine r_v (Value.bool (!(((r17.1) == (r73.1)) && ((r17.2.1) == (r73.2.1))))) rfl rfl rfl rfl ?_
              rcases hg77 : (!(((r17.1) == (r73.1)) && ((r17.2.1) == (r73.2.1)))) with _ | _
              · replace hM := ifp (not_f hg77) hM
                refine r_y rfl ?_
                refine r_v (Value.int .i64 (3)) rfl rfl rfl rfl ?_
                refine r_y rfl ?_
                refine r_v (Value.pointer (some ⟨b6, 3, none⟩)) rfl rfl rfl rfl ?_
                refine r_y rfl ?_
                refine r_l (Value.int .i64 (r17.2.2)) 4 _ _ _ _ rfl rfl rfl rfl rfl ?_
                refine r_y rfl ?_
                refine r_v (Value.int .i64 (r73.2.2)) rfl rfl rfl rfl ?_
                refine r_y rfl ?_
                refine r_v (Value.bool (((r17.2.2 : Int) != r73.2.2))) rfl rfl rfl rfl ?_
                refine r_v (Value.bool (((r17.2.2 : Int) != r73.2.2))) rfl rfl rfl rfl ?_
                refine lx_nil ?_
                refine hK76 _ _ ?_; try clear hK76 K76
                refine A_gen [(1, Value.int .i64 (n)), (2, Value.pointer (some ⟨b2, 0, none⟩)), (5, Value.pointer (some ⟨b4, 0, none⟩)), (6, Value.pointer (some ⟨b6, 0, none⟩)), (7, s23), (8, Value.int .i64 (3)), (79, Value.bool (((r17.2.2 : Int) != r73.2.2)))] rfl (fun T => ?_)
                refine A_cond (((r17.2.2 : Int) != r73.2.2)) rfl (fun hc78 => ?_) (fun hc78 => ?_)
                · replace hM := ifp (bne_iff_ne.1 hc78) hM
                  refine A_seq fun K79 hK79 => ?_
                  refine A_reg ?_
                  refine r_v (Value.bool (false)) rfl rfl rfl rfl ?_
                  refine lx_nil ?_
                  refine hK79 _ _ ?_; try clear hK79 K79
                  obtain rfl := Option.some.inj hM
                  refine A_ret (fun hn => ends_eq (v0 := Value.bool (false)) rfl (res1 rfl))
                · replace hM := ifn (bne_f hc78) hM
                  refine A_skip ?_
                  refine hK70 _ _ ?_; try clear hK70 K70
                  refine A_reg ?_
                  refine r_v (Value.int .i64 (3)) rfl rfl rfl rfl ?_
                  refine r_v (Value.int .i64 (4)) rfl rfl (wi64 rfl (by decide) (by decide)) rfl ?_
                  refine r_v (Value.int .i64 (4)) rfl rfl rfl rfl ?_
                  refine lx_nil ?_
                  refine hK67 _ _ ?_; try clear hK67 K67
                  refine AL_unroll fun K80 hK80 => ?_
                  refine A_seq fun K81 hK81 => ?_
                  refine A_seq fun K82 hK82 => ?_
                  refine A_reg ?_
                  refine r_v (Value.int .i64 (4)) rfl rfl rfl rfl ?_
                  refine r_v (Value.bool (true)) rfl rfl rfl rfl ?_
                  refine lx_nil ?_
                  refine hK82 _ _ ?_; try clear hK82 K82
                  refine A_cond true rfl (fun _ => ?_) (fun h_ => nomatch h_)
                  refine A_skip ?_
                  refine hK81 _ _ ?_; try clear hK81 K81
                  refine A_seq fun K83 hK83 => ?_
                  refine A_block ?_
                  refine A_seq fun K84 hK84 => ?_
                  refine A_draw [] (by decide +kernel) (fun hn => sep_nil) ?_
                  refine r_v (s23) rfl rfl rfl rfl ?_
                  refine r_v (Value.int .i64 (4)) rfl rfl rfl rfl ?_
                  replace hM := ck_some hM; obtain ⟨ck85, hM⟩ := hM
                  refine r_v (elA s23 (((4 : Int)).toNat * 1)) rfl rfl rfl (ev_v (ev_idxSl rfl rfl rfl (Sl.shp H25) ck85)) ?_
                  refine r_le (Value.string (⟨(([([110, 111, 116] : List UInt8), ([110, 101, 103] : List UInt8), ([115, 104, 108] : List UInt8), ([115, 104, 114] : List UInt8), ([99, 97, 115, 116] : List UInt8)])[((4 : Int)).toNat]!).toArray⟩)) (En := encS) (([([110, 111, 116] : List UInt8), ([110, 101, 103] : List UInt8), ([115, 104, 108] : List UInt8), ([115, 104, 114] : List UInt8), ([99, 97, 115, 116] : List UInt8)])[((4 : Int)).toNat]!) (((4 : Int)).toNat) 0 rfl rfl (rd_own H25 (mem_chunk (Ls := [[(b75, 24, #[Value.int .i64 (r73.1), U (hi (r73.2.1)), U (lo (r73.2.1))])], [(b62, 24, #[Value.int .i64 (r60.1), U (hi (r60.2.1)), U (lo (r60.2.1))])], [(b49, 24, #[Value.int .i64 (r47.1), U (hi (r47.2.1)), U (lo (r47.2.1))])], [(b36, 24, #[Value.int .i64 (r34.1), U (hi (r34.2.1)), U (lo (r34.2.1))])], [(b6, 46, #[Value.int .i64 (r8.2.2), Value.int .i64 (r11.2.2), Value.int .i64 (r14.2.2), Value.int .i64 (r17.2.2), Value.int .i64 (r20.2.2)])], [(b4, 45, #[Value.int .i64 (r8.1), U (hi (r8.2.1)), U (lo (r8.2.1)), Value.int .i64 (r11.1), U (hi (r11.2.1)), U (lo (r11.2.1)), Value.int .i64 (r14.1), U (hi (r14.2.1)), U (lo (r14.2.1)), Value.int .i64 (r17.1), U (hi (r17.2.1)), U (lo (r17.2.1)), Value.int .i64 (r20.1), U (hi (r20.2.1)), U (lo (r20.2.1))])], [(b2, 24, #[Value.int .i64 (a_0), U (hi (a_1)), U (lo (a_1))])], S24]) (k := 7) rfl rfl)) (get_of ck85) rfl ?_
                  refine r_l (Value.agg #[Value.int .i64 (a_0), U (hi (a_1)), U (lo (a_1))]) 6 _ _ _ _ rfl rfl rfl rfl rfl ?_
                  refine r_v (Value.int .i64 (n)) rfl rfl rfl rfl ?_
                  replace hM := bind_sm hM; obtain ⟨r86, hr87, hM⟩ := hM
                  refine r_c (Value.tuple #[Value.agg #[Value.int .i64 (r86.1), U (hi (r86.2.1)), U (lo (r86.2.1))], Value.int .i64 (r86.2.2)]) rfl _ _ (ev_callF rfl call_34 rfl) (shunterref02_One_g N (([([110, 111, 116] : List UInt8), ([110, 101, 103] : List UInt8), ([115, 104, 108] : List UInt8), ([115, 104, 114] : List UInt8), ([99, 97, 115, 116] : List UInt8)])[((4 : Int)).toNat]!) (a_0) (a_1) (n) _ hr87) ?_
                  refine r_v (Value.tuple #[Value.agg #[Value.int .i64 (r86.1), U (hi (r86.2.1)), U (lo (r86.2.1))], Value.int .i64 (r86.2.2)]) rfl rfl rfl rfl ?_
                  refine r_v (Value.agg #[Value.int .i64 (r86.1), U (hi (r86.2.1)), U (lo (r86.2.1))]) rfl rfl rfl rfl ?_
                  refine r_v (Value.int .i64 (r86.2.2)) rfl rfl rfl rfl ?_
                  refine r_a (24, #[Value.int .i64 (0), U (0#64), U (0#64)]) rfl rfl rfl (fun b88 => ?_) (.inl rfl)
                  refine r_sn (List.flatten [[(b88, 24, #[Value.int .i64 (r86.1), U (hi (r86.2.1)), U (lo (r86.2.1))])], [(b75, 24, #[Value.int .i64 (r73.1), U (hi (r73.2.1)), U (lo (r73.2.1))])], [(b62, 24, #[Value.int .i64 (r60.1), U (hi (r60.2.1)), U (lo (r60.2.1))])], [(b49, 24, #[Value.int .i64 (r47.1), U (hi (r47.2.1)), U (lo (r47.2.1))])], [(b36, 24, #[Value.int .i64 (r34.1), U (hi (r34.2.1)), U (lo (r34.2.1))])], [(b6, 46, #[Value.int .i64 (r8.2.2), Value.int .i64 (r11.2.2), Value.int .i64 (r14.2.2), Value.int .i64 (r17.2.2), Value.int .i64 (r20.2.2)])], [(b4, 45, #[Value.int .i64 (r8.1), U (hi (r8.2.1)), U (lo (r8.2.1)), Value.int .i64 (r11.1), U (hi (r11.2.1)), U (lo (r11.2.1)), Value.int .i64 (r14.1), U (hi (r14.2.1)), U (lo (r14.2.1)), Value.int .i64 (r17.1), U (hi (r17.2.1)), U (lo (r17.2.1)), Value.int .i64 (r20.1), U (hi (r20.2.1)), U (lo (r20.2.1))])], [(b2, 24, #[Value.int .i64 (a_0), U (hi (a_1)), U (lo (a_1))])], S24]) 0 _ _ _ (#[Value.int .i64 (0), U (0#64), U (0#64)]) (#[Value.int .i64 (r86.1), U (hi (r86.2.1)), U (lo (r86.2.1))]) (#[Value.int .i64 (r86.1), U (hi (r86.2.1)), U (lo (r86.2.1))]) rfl rfl rfl rfl rfl (.of rfl rfl) rfl rfl ?_
                  refine r_v (Value.int .i64 (r86.2.2)) rfl rfl rfl rfl ?_
                  refine lx_nil ?_
                  refine hK84 _ _ ?_; try clear hK84 K84
                  refine A_seq fun K89 hK89 => ?_
                  refine A_draw [] (by decide +kernel) (fun hn => sep_nil) ?_
                  refine r_v (Value.int .i64 (4)) rfl rfl rfl rfl ?_
                  refine r_v (Value.pointer (some ⟨b4, 12, none⟩)) rfl rfl rfl rfl ?_
                  refine r_l (Value.agg #[Value.int .i64 (r20.1), U (hi (r20.2.1)), U (lo (r20.2.1))]) 6 _ _ _ _ rfl rfl rfl rfl rfl ?_
                  refine r_l (Value.agg #[Value.int .i64 (r86.1), U (hi (r86.2.1)), U (lo (r86.2.1))]) 0 _ _ _ _ rfl rfl rfl rfl rfl ?_
                  refine r_v (Value.bool (!(((r20.1) == (r86.1)) && ((r20.2.1) == (r86.2.1))))) rfl rfl rfl (ev_binNe rfl rfl eg_24 (eqst_24 (r20.1) (r86.1) (r20.2.1) (r86.2.1))) ?_
                  refine r_v (Value.bool (!(((r20.1) == (r86.1)) && ((r20.2.1) == (r86.2.1))))) rfl rfl rfl rfl ?_
                  rcases hg90 : (!(((r20.1) == (r86.1)) && ((r20.2.1) == (r86.2.1)))) with _ | _
                  · replace hM := ifp (not_f hg90) hM
                    refine r_y rfl ?_
                    refine r_v (Value.int .i64 (4)) rfl rfl rfl rfl ?_
                    refine r_y rfl ?_
                    refine r_v (Value.pointer (some ⟨b6, 4, none⟩)) rfl rfl rfl rfl ?_
                    refine r_y rfl ?_
                    refine r_l (Value.int .i64 (r20.2.2)) 5 _ _ _ _ rfl rfl rfl rfl rfl ?_
                    refine r_y rfl ?_
                    refine r_v (Value.int .i64 (r86.2.2)) rfl rfl rfl rfl ?_
                    refine r_y rfl ?_
                    refine r_v (Value.bool (((r20.2.2 : Int) != r86.2.2))) rfl rfl rfl rfl ?_
                    refine r_v (Value.bool (((r20.2.2 : Int) != r86.2.2))) rfl rfl rfl rfl ?_
                    refine lx_nil ?_
                    refine hK89 _ _ ?_; try clear hK89 K89
                    refine A_gen [(1, Value.int .i64 (n)), (2, Value.pointer (some ⟨b2, 0, none⟩)), (5, Value.pointer (some ⟨b4, 0, none⟩)), (6, Value.pointer (some ⟨b6, 0, none⟩)), (7, s23), (8, Value.int .i64 (4)), (79, Value.bool (((r20.2.2 : Int) != r86.2.2)))] rfl (fun T => ?_)
                    refine A_cond (((r20.2.2 : Int) != r86.2.2)) rfl (fun hc91 => ?_) (fun hc91 => ?_)
                    · replace hM := ifp (bne_iff_ne.1 hc91) hM
                      refine A_seq fun K92 hK92 => ?_
                      refine A_reg ?_
                      refine r_v (Value.bool (false)) rfl rfl rfl rfl ?_
                      refine lx_nil ?_
                      refine hK92 _ _ ?_; try clear hK92 K92
                      obtain rfl := Option.some.inj hM
                      refine A_ret (fun hn => ends_eq (v0 := Value.bool (false)) rfl (res1 rfl))
                    · replace hM := ifn (bne_f hc91) hM
                      refine A_skip ?_
                      refine hK83 _ _ ?_; try clear hK83 K83
                      refine A_reg ?_
                      refine r_v (Value.int .i64 (4)) rfl rfl rfl rfl ?_
                      refine r_v (Value.int .i64 (5)) rfl rfl (wi64 rfl (by decide) (by decide)) rfl ?_
                      refine r_v (Value.int .i64 (5)) rfl rfl rfl rfl ?_
                      refine lx_nil ?_
                      refine hK80 _ _ ?_; try clear hK80 K80
                      refine AL_unroll fun K93 hK93 => ?_
                      refine A_seq fun K94 hK94 => ?_
                      refine A_seq fun K95 hK95 => ?_
                      refine A_reg ?_
                      refine r_v (Value.int .i64 (5)) rfl rfl rfl rfl ?_
                      refine r_v (Value.bool (false)) rfl rfl rfl rfl ?_
                      refine lx_nil ?_
                      refine hK95 _ _ ?_; try clear hK95 K95
                      refine A_cond false rfl (fun h_ => nomatch h_) (fun _ => ?_)
                      refine A_exit ?_
                      refine hK26 _ _ ?_; try clear hK26 K26
                      refine A_seq fun K96 hK96 => ?_
                      refine A_reg ?_
                      refine r_v (Value.pointer (some ⟨b2, 0, none⟩)) rfl rfl rfl rfl ?_
                      refine r_l (Value.int .i64 (a_0)) 7 _ _ _ _ rfl rfl rfl rfl rfl ?_
                      refine r_v (Value.int .i64 (n)) rfl rfl rfl rfl ?_
                      replace hM := bind_sm hM; obtain ⟨r97, hr98, hM⟩ := hM
                      refine r_c (Value.tuple #[Value.agg #[Value.int .i64 (r97.1), U (hi (r97.2.1)), U (lo (r97.2.1))], Value.int .i64 (r97.2.2)]) rfl _ _ (ev_callF rfl call_35 rfl) (vec_Prefix_g N (a_0) (n) _ hr98) ?_
                      refine r_v (Value.tuple #[Value.agg #[Value.int .i64 (r97.1), U (hi (r97.2.1)), U (lo (r97.2.1))], Value.int .i64 (r97.2.2)]) rfl rfl rfl rfl ?_
                      refine r_v (Value.agg #[Value.int .i64 (r97.1), U (hi (r97.2.1)), U (lo (r97.2.1))]) rfl rfl rfl rfl ?_
                      refine r_v (Value.int .i64 (r97.2.2)) rfl rfl rfl rfl ?_
                      refine r_a (24, #[Value.int .i64 (0), U (0#64), U (0#64)]) rfl rfl rfl (fun b99 => ?_) (.inr rfl)
                      refine r_s (List.flatten [[(b99, 24, #[Value.int .i64 (r97.1), U (hi (r97.2.1)), U (lo (r97.2.1))])], [(b88, 24, #[Value.int .i64 (r86.1), U (hi (r86.2.1)), U (lo (r86.2.1))])], [(b75, 24, #[Value.int .i64 (r73.1), U (hi (r73.2.1)), U (lo (r73.2.1))])], [(b62, 24, #[Value.int .i64 (r60.1), U (hi (r60.2.1)), U (lo (r60.2.1))])], [(b49, 24, #[Value.int .i64 (r47.1), U (hi (r47.2.1)), U (lo (r47.2.1))])], [(b36, 24, #[Value.int .i64 (r34.1), U (hi (r34.2.1)), U (lo (r34.2.1))])], [(b6, 46, #[Value.int .i64 (r8.2.2), Value.int .i64 (r11.2.2), Value.int .i64 (r14.2.2), Value.int .i64 (r17.2.2), Value.int .i64 (r20.2.2)])], [(b4, 45, #[Value.int .i64 (r8.1), U (hi (r8.2.1)), U (lo (r8.2.1)), Value.int .i64 (r11.1), U (hi (r11.2.1)), U (lo (r11.2.1)), Value.int .i64 (r14.1), U (hi (r14.2.1)), U (lo (r14.2.1)), Value.int .i64 (r17.1), U (hi (r17.2.1)), U (lo (r17.2.1)), Value.int .i64 (r20.1), U (hi (r20.2.1)), U (lo (r20.2.1))])], [(b2, 24, #[Value.int .i64 (a_0), U (hi (a_1)), U (lo (a_1))])], S24]) 0 _ _ _ (#[Value.int .i64 (0), U (0#64), U (0#64)]) (#[Value.int .i64 (r97.1), U (hi (r97.2.1)), U (lo (r97.2.1))]) (#[Value.int .i64 (r97.1), U (hi (r97.2.1)), U (lo (r97.2.1))]) rfl rfl rfl rfl (.of rfl rfl) rfl rfl ?_
                      refine r_v (Value.int .i64 (r97.2.2)) rfl rfl rfl rfl ?_
                      refine lx_nil ?_
                      refine hK96 _ _ ?_; try clear hK96 K96
                      refine A_seq fun K100 hK100 => ?_
                      refine A_reg ?_
                      refine r_v (Value.pointer (some ⟨b2, 0, none⟩)) rfl rfl rfl rfl ?_
                      refine r_l (Value.int .i64 (a_0)) 8 _ _ _ _ rfl rfl rfl rfl rfl ?_
                      refine r_v (Value.int .i64 (n)) rfl rfl rfl rfl ?_
                      replace hM := bind_sm hM; obtain ⟨r101, hr102, hM⟩ := hM
                      refine r_c (Value.tuple #[Value.agg #[Value.int .i64 (r101.1), U (hi (r101.2.1)), U (lo (r101.2.1))], Value.int .i64 (r101.2.2)]) rfl _ _ (ev_callF rfl call_36 rfl) (shunterref02_Prefix_g N (a_0) (n) _ hr102) ?_
                      refine r_v (Value.tuple #[Value.agg #[Value.int .i64 (r101.1), U (hi (r101.2.1)), U (lo (r101.2.1))], Value.int .i64 (r101.2.2)]) rfl rfl rfl rfl ?_
                      refine r_v (Value.agg #[Value.int .i64 (r101.1), U (hi (r101.2.1)), U (lo (r101.2.1))]) rfl rfl rfl rfl ?_
                      refine r_v (Value.int .i64 (r101.2.2)) rfl rfl rfl rfl ?_
                      refine r_a (24, #[Value.int .i64 (0), U (0#64), U (0#64)]) rfl rfl rfl (fun b103 => ?_) (.inr rfl)
                      refine r_s (List.flatten [[(b103, 24, #[Value.int .i64 (r101.1), U (hi (r101.2.1)), U (lo (r101.2.1))])], [(b99, 24, #[Value.int .i64 (r97.1), U (hi (r97.2.1)), U (lo (r97.2.1))])], [(b88, 24, #[Value.int .i64 (r86.1), U (hi (r86.2.1)), U (lo (r86.2.1))])], [(b75, 24, #[Value.int .i64 (r73.1), U (hi (r73.2.1)), U (lo (r73.2.1))])], [(b62, 24, #[Value.int .i64 (r60.1), U (hi (r60.2.1)), U (lo (r60.2.1))])], [(b49, 24, #[Value.int .i64 (r47.1), U (hi (r47.2.1)), U (lo (r47.2.1))])], [(b36, 24, #[Value.int .i64 (r34.1), U (hi (r34.2.1)), U (lo (r34.2.1))])], [(b6, 46, #[Value.int .i64 (r8.2.2), Value.int .i64 (r11.2.2), Value.int .i64 (r14.2.2), Value.int .i64 (r17.2.2), Value.int .i64 (r20.2.2)])], [(b4, 45, #[Value.int .i64 (r8.1), U (hi (r8.2.1)), U (lo (r8.2.1)), Value.int .i64 (r11.1), U (hi (r11.2.1)), U (lo (r11.2.1)), Value.int .i64 (r14.1), U (hi (r14.2.1)), U (lo (r14.2.1)), Value.int .i64 (r17.1), U (hi (r17.2.1)), U (lo (r17.2.1)), Value.int .i64 (r20.1), U (hi (r20.2.1)), U (lo (r20.2.1))])], [(b2, 24, #[Value.int .i64 (a_0), U (hi (a_1)), U (lo (a_1))])], S24]) 0 _ _ _ (#[Value.int .i64 (0), U (0#64), U (0#64)]) (#[Value.int .i64 (r101.1), U (hi (r101.2.1)), U (lo (r101.2.1))]) (#[Value.int .i64 (r101.1), U (hi (r101.2.1)), U (lo (r101.2.1))]) rfl rfl rfl rfl (.of rfl rfl) rfl rfl ?_
                      refine r_v (Value.int .i64 (r101.2.2)) rfl rfl rfl rfl ?_
                      refine lx_nil ?_
                      refine hK100 _ _ ?_; try clear hK100 K100
                      refine A_seq fun K104 hK104 => ?_
                      refine A_reg ?_
                      refine r_l (Value.agg #[Value.int .i64 (r97.1), U (hi (r97.2.1)), U (lo (r97.2.1))]) 1 _ _ _ _ rfl rfl rfl rfl rfl ?_
                      refine r_l (Value.agg #[Value.int .i64 (r101.1), U (hi (r101.2.1)), U (lo (r101.2.1))]) 0 _ _ _ _ rfl rfl rfl rfl rfl ?_
                      refine r_v (Value.bool (((r97.1) == (r101.1)) && ((r97.2.1) == (r101.2.1)))) rfl rfl rfl (ev_binEq rfl rfl eg_24 (eqst_24 (r97.1) (r101.1) (r97.2.1) (r101.2.1))) ?_
                      refine r_v (Value.bool (((r97.1) == (r101.1)) && ((r97.2.1) == (r101.2.1)))) rfl rfl rfl rfl ?_
                      rcases hg105 : (((r97.1) == (r101.1)) && ((r97.2.1) == (r101.2.1))) with _ | _
                      · replace hM := ifn (Bool.eq_false_iff.1 hg105) hM
                        refine r_n false rfl (by decide) rfl ?_
                        refine r_n false rfl (by decide) rfl ?_
                        refine r_n false rfl (by decide) rfl ?_
                        refine r_v (Value.bool (false)) rfl rfl rfl rfl ?_
                        refine r_v (Value.bool (false)) rfl rfl rfl rfl ?_
                        refine r_n false rfl (by decide) rfl ?_
                        refine r_v (Value.bool (false)) rfl rfl rfl rfl ?_
                        refine r_v (Value.bool (false)) rfl rfl rfl rfl ?_
                        refine lx_nil ?_
                        refine hK104 _ _ ?_; try clear hK104 K104
                        refine A_gen [(4, Value.bool (false))] rfl (fun T => ?_)
                        obtain rfl := Option.some.inj hM
                        refine A_ret (fun hn => ends_eq (v0 := Value.bool (false)) rfl (res1 rfl))
                      · replace hM := ifp hg105 hM
                        refine r_y rfl ?_
                        refine r_v (Value.int .i64 (r97.2.2)) rfl rfl rfl rfl ?_
                        refine r_y rfl ?_
                        refine r_v (Value.int .i64 (r101.2.2)) rfl rfl rfl rfl ?_
                        refine r_y rfl ?_
                        refine r_v (Value.bool (((r97.2.2 : Int) == r101.2.2))) rfl rfl rfl rfl ?_
                        refine r_v (Value.bool (((r97.2.2 : Int) == r101.2.2))) rfl rfl rfl rfl ?_
                        refine r_v (Value.bool (((r97.2.2 : Int) == r101.2.2))) rfl rfl rfl rfl ?_
                        rcases hg106 : (((r97.2.2 : Int) == r101.2.2)) with _ | _
                        · replace hM := ifn (ne_of_beq_false hg106) hM
                          refine r_n false rfl (by decide) rfl ?_
                          refine r_v (Value.bool (false)) rfl rfl rfl rfl ?_
                          refine r_v (Value.bool (false)) rfl rfl rfl rfl ?_
                          refine lx_nil ?_
                          refine hK104 _ _ ?_; try clear hK104 K104
                          refine A_gen [(4, Value.bool (false))] rfl (fun T => ?_)
                          obtain rfl := Option.some.inj hM
                          refine A_ret (fun hn => ends_eq (v0 := Value.bool (false)) rfl (res1 rfl))
                        · replace hM := ifp (eq_of_beq hg106) hM
                          refine r_y rfl ?_
                          replace hM := bind_sm hM; obtain ⟨r107, hr108, hM⟩ := hM
                          refine r_c (Value.bool (r107)) rfl _ _ (ev_callF rfl call_16 rfl) (shunterlaw02_lives_g N  _ hr108) ?_
                          refine r_v (Value.bool (r107)) rfl rfl rfl rfl ?_
                          refine r_v (Value.bool (r107)) rfl rfl rfl rfl ?_
                          refine lx_nil ?_
                          refine hK104 _ _ ?_; try clear hK104 K104
                          refine A_gen [(4, Value.bool (r107))] rfl (fun T => ?_)
                          obtain rfl := Option.some.inj hM
                          refine A_ret (fun hn => ends_eq (v0 := Value.bool (r107)) rfl (res1 rfl))
                  · replace hM := ifn (Bool.eq_false_iff.1 (not_t hg90)) hM
                    refine r_n true rfl (by decide) rfl ?_
                    refine r_n true rfl (by decide) rfl ?_
                    refine r_n true rfl (by decide) rfl ?_
                    refine r_n true rfl (by decide) rfl ?_
                    refine r_n true rfl (by decide) rfl ?_
                    refine r_v (Value.bool (true)) rfl rfl rfl rfl ?_
                    refine lx_nil ?_
                    refine hK89 _ _ ?_; try clear hK89 K89
                    refine A_gen [(1, Value.int .i64 (n)), (2, Value.pointer (some ⟨b2, 0, none⟩)), (5, Value.pointer (some ⟨b4, 0, none⟩)), (6, Value.pointer (some ⟨b6, 0, none⟩)), (7, s23), (8, Value.int .i64 (4)), (79, Value.bool (true))] rfl (fun T => ?_)
                    refine A_cond true rfl (fun _ => ?_) (fun h_ => nomatch h_)
                    refine A_seq fun K109 hK109 => ?_
                    refine A_reg ?_
                    refine r_v (Value.bool (false)) rfl rfl rfl rfl ?_
                    refine lx_nil ?_
                    refine hK109 _ _ ?_; try clear hK109 K109
                    obtain rfl := Option.some.inj hM
                    refine A_ret (fun hn => ends_eq (v0 := Value.bool (false)) rfl (res1 rfl))
              · replace hM := ifn (Bool.eq_false_iff.1 (not_t hg77)) hM
                refine r_n true rfl (by decide) rfl ?_
                refine r_n true rfl (by decide) rfl ?_
                refine r_n true rfl (by decide) rfl ?_
                refine r_n true rfl (by decide) rfl ?_
                refine r_n true rfl (by decide) rfl ?_
                refine r_v (Value.bool (true)) rfl rfl rfl rfl ?_
                refine lx_nil ?_
                refine hK76 _ _ ?_; try clear hK76 K76
                refine A_gen [(1, Value.int .i64 (n)), (2, Value.pointer (some ⟨b2, 0, none⟩)), (5, Value.pointer (some ⟨b4, 0, none⟩)), (6, Value.pointer (some ⟨b6, 0, none⟩)), (7, s23), (8, Value.int .i64 (3)), (79, Value.bool (true))] rfl (fun T => ?_)
                refine A_cond true rfl (fun _ => ?_) (fun h_ => nomatch h_)
                refine A_seq fun K110 hK110 => ?_
                refine A_reg ?_
                refine r_v (Value.bool (false)) rfl rfl rfl rfl ?_
                refine lx_nil ?_
                refine hK110 _ _ ?_; try clear hK110 K110
                obtain rfl := Option.some.inj hM
                refine A_ret (fun hn => ends_eq (v0 := Value.bool (false)) rfl (res1 rfl))
          · replace hM := ifn (Bool.eq_false_iff.1 (not_t hg64)) hM
            refine r_n true rfl (by decide) rfl ?_
            refine r_n true rfl (by decide) rfl ?_
            refine r_n true rfl (by decide) rfl ?_
            refine r_n true rfl (by decide) rfl ?_
            refine r_n true rfl (by decide) rfl ?_
            refine r_v (Value.bool (true)) rfl rfl rfl rfl ?_
            refine lx_nil ?_
            refine hK63 _ _ ?_; try clear hK63 K63
            refine A_gen [(1, Value.int .i64 (n)), (2, Value.pointer (some ⟨b2, 0, none⟩)), (5, Value.pointer (some ⟨b4, 0, none⟩)), (6, Value.pointer (some ⟨b6, 0, none⟩)), (7, s23), (8, Value.int .i64 (2)), (79, Value.bool (true))] rfl (fun T => ?_)
            refine A_cond true rfl (fun _ => ?_) (fun h_ => nomatch h_)
            refine A_seq fun K111 hK111 => ?_
            refine A_reg ?_
            refine r_v (Value.bool (false)) rfl rfl rfl rfl ?_
            refine lx_nil ?_
            refine hK111 _ _ ?_; try clear hK111 K111
            obtain rfl := Option.some.inj hM
            refine A_ret (fun hn => ends_eq (v0 := Value.bool (false)) rfl (res1 rfl))
      · replace hM := ifn (Bool.eq_false_iff.1 (not_t hg51)) hM
        refine r_n true rfl (by decide) rfl ?_
        refine r_n true rfl (by decide) rfl ?_
        refine r_n true rfl (by decide) rfl ?_
        refine r_n true rfl (by decide) rfl ?_
        refine r_n true rfl (by decide) rfl ?_
        refine r_v (Value.bool (true)) rfl rfl rfl rfl ?_
        refine lx_nil ?_
        refine hK50 _ _ ?_; try clear hK50 K50
        refine A_gen [(1, Value.int .i64 (n)), (2, Value.pointer (some ⟨b2, 0, none⟩)), (5, Value.pointer (some ⟨b4, 0, none⟩)), (6, Value.pointer (some ⟨b6, 0, none⟩)), (7, s23), (8, Value.int .i64 (1)), (79, Value.bool (true))] rfl (fun T => ?_)
        refine A_cond true rfl (fun _ => ?_) (fun h_ => nomatch h_)
        refine A_seq fun K112 hK112 => ?_
        refine A_reg ?_
        refine r_v (Value.bool (false)) rfl rfl rfl rfl ?_
        refine lx_nil ?_
        refine hK112 _ _ ?_; try clear hK112 K112
        obtain rfl := Option.some.inj hM
        refine A_ret (fun hn => ends_eq (v0 := Value.bool (false)) rfl (res1 rfl))
  · replace hM := ifn (Bool.eq_false_iff.1 (not_t hg38)) hM
    refine r_n true rfl (by decide) rfl ?_
    refine r_n true rfl (by decide) rfl ?_
    refine r_n true rfl (by decide) rfl ?_
    refine r_n true rfl (by decide) rfl ?_
    refine r_n true rfl (by decide) rfl ?_
    refine r_v (Value.bool (true)) rfl rfl rfl rfl ?_
    refine lx_nil ?_
    refine hK37 _ _ ?_; try clear hK37 K37
    refine A_gen [(1, Value.int .i64 (n)), (2, Value.pointer (some ⟨b2, 0, none⟩)), (5, Value.pointer (some ⟨b4, 0, none⟩)), (6, Value.pointer (some ⟨b6, 0, none⟩)), (7, s23), (8, Value.int .i64 (0)), (79, Value.bool (true))] rfl (fun T => ?_)
    refine A_cond true rfl (fun _ => ?_) (fun h_ => nomatch h_)
    refine A_seq fun K113 hK113 => ?_
    refine A_reg ?_
    refine r_v (Value.bool (false)) rfl rfl rfl rfl ?_
    refine lx_nil ?_
    refine hK113 _ _ ?_; try clear hK113 K113
    obtain rfl := Option.some.inj hM
    refine A_ret (fun hn => ends_eq (v0 := Value.bool (false)) rfl (res1 rfl))
end Go.Proofs.YtomcfndpnnjihaaDoor
