/- models of functions and their walks -/
import Derived.Test.YtomcfndpnnjihaaDoorVc
namespace Go.Proofs.YtomcfndpnnjihaaDoor
open Go Go.RowKit Go.Eng
def shunterlaw02_VecMeets_m (N : Nat) (a_0 : Int) (a_1 : BitVec 128) (b_0 : Int) (b_1 : BitVec 128) (c_0 : Int) (c_1 : BitVec 128) : Option (Bool) := (vec_Meets_m N (a_0) (a_1) (b_0) (b_1) (c_0) (c_1)).bind fun r6 => (shunterref02_Meets_m N (a_0) (a_1) (b_0) (b_1) (c_0) (c_1)).bind fun r8 => if (r6) = (r8) then (vec_Within_m N (a_0) (a_1) (b_0) (b_1) (c_0) (c_1)).bind fun r11 => (shunterref02_Within_m N (a_0) (a_1) (b_0) (b_1) (c_0) (c_1)).bind fun r13 => if (r11) = (r13) then (shunterlaw02_lives_m N ).bind fun r16 => some (r16) else some (false) else some (false)
set_option maxRecDepth 100000 in
set_option maxHeartbeats 400000 in
theorem shunterlaw02_VecMeets_g (N : Nat) (a_0 : Int) (a_1 : BitVec 128) (b_0 : Int) (b_1 : BitVec 128) (c_0 : Int) (c_1 : BitVec 128) (r : Bool) (hM : shunterlaw02_VecMeets_m N a_0 a_1 b_0 b_1 c_0 c_1 = some r) : Gives Tryd.prog 7 #[Value.agg #[Value.int .i64 (a_0), U (hi (a_1)), U (lo (a_1))], Value.agg #[Value.int .i64 (b_0), U (hi (b_1)), U (lo (b_1))], Value.agg #[Value.int .i64 (c_0), U (hi (c_1)), U (lo (c_1))]] (Value.bool (r)) := by
  unfold shunterlaw02_VecMeets_m at hM
  refine gives_of_A follows Tryd.func7 rfl 30 rfl (upd (upd (upd (fun _ => undef) 2 (Value.agg #[Value.int .i64 (c_0), U (hi (c_1)), U (lo (c_1))])) 1 (Value.agg #[Value.int .i64 (b_0), U (hi (b_1)), U (lo (b_1))])) 0 (Value.agg #[Value.int .i64 (a_0), U (hi (a_1)), U (lo (a_1))])) (by funext k; match k with | 0 => rfl | 1 => rfl | 2 => rfl | k + 3 => rfl) (fun base0_ => ?_)
  refine A_seq fun K1 hK1 => ?_
  refine A_reg ?_
  refine r_a (24, #[Value.int .i64 (a_0), U (hi (a_1)), U (lo (a_1))]) rfl rfl rfl (fun b2 => ?_) (.inr rfl)
  refine r_a (24, #[Value.int .i64 (b_0), U (hi (b_1)), U (lo (b_1))]) rfl rfl rfl (fun b3 => ?_) (.inr rfl)
  refine r_a (24, #[Value.int .i64 (c_0), U (hi (c_1)), U (lo (c_1))]) rfl rfl rfl (fun b4 => ?_) (.inr rfl)
  refine r_v (Value.bool (false)) rfl rfl rfl rfl ?_
  refine lx_nil ?_
  refine hK1 _ _ ?_; try clear hK1 K1
  refine A_seq fun K5 hK5 => ?_
  refine A_draw [] (by decide +kernel) (fun hn => sep_nil) ?_
  refine r_l (Value.agg #[Value.int .i64 (a_0), U (hi (a_1)), U (lo (a_1))]) 2 _ _ _ _ rfl rfl rfl rfl rfl ?_
  refine r_l (Value.agg #[Value.int .i64 (b_0), U (hi (b_1)), U (lo (b_1))]) 1 _ _ _ _ rfl rfl rfl rfl rfl ?_
  refine r_l (Value.agg #[Value.int .i64 (c_0), U (hi (c_1)), U (lo (c_1))]) 0 _ _ _ _ rfl rfl rfl rfl rfl ?_
  replace hM := bind_sm hM; obtain ⟨r6, hr7, hM⟩ := hM
  refine r_c (Value.bool (r6)) rfl _ _ (ev_callF rfl call_41 rfl) (vec_Meets_g N (a_0) (a_1) (b_0) (b_1) (c_0) (c_1) _ hr7) ?_
  refine r_l (Value.agg #[Value.int .i64 (a_0), U (hi (a_1)), U (lo (a_1))]) 2 _ _ _ _ rfl rfl rfl rfl rfl ?_
  refine r_l (Value.agg #[Value.int .i64 (b_0), U (hi (b_1)), U (lo (b_1))]) 1 _ _ _ _ rfl rfl rfl rfl rfl ?_
  refine r_l (Value.agg #[Value.int .i64 (c_0), U (hi (c_1)), U (lo (c_1))]) 0 _ _ _ _ rfl rfl rfl rfl rfl ?_
  replace hM := bind_sm hM; obtain ⟨r8, hr9, hM⟩ := hM
  refine r_c (Value.bool (r8)) rfl _ _ (ev_callF rfl call_42 rfl) (shunterref02_Meets_g N (a_0) (a_1) (b_0) (b_1) (c_0) (c_1) _ hr9) ?_
  refine r_v (Value.bool ((r6) == (r8))) rfl rfl rfl (ev_binB rfl rfl rfl) ?_
  refine r_v (Value.bool ((r6) == (r8))) rfl rfl rfl rfl ?_
  rcases hg10 : ((r6) == (r8)) with _ | _
  · replace hM := ifn (ne_of_beq_false hg10) hM
    refine r_n false rfl (by decide) rfl ?_
    refine r_n false rfl (by decide) rfl ?_
    refine r_n false rfl (by decide) rfl ?_
    refine r_n false rfl (by decide) rfl ?_
    refine r_n false rfl (by decide) rfl ?_
    refine r_n false rfl (by decide) rfl ?_
    refine r_n false rfl (by decide) rfl ?_
    refine r_n false rfl (by decide) rfl ?_
    refine r_n false rfl (by decide) rfl ?_
    refine r_v (Value.bool (false)) rfl rfl rfl rfl ?_
    refine r_v (Value.bool (false)) rfl rfl rfl rfl ?_
    refine r_n false rfl (by decide) rfl ?_
    refine r_v (Value.bool (false)) rfl rfl rfl rfl ?_
    refine r_v (Value.bool (false)) rfl rfl rfl rfl ?_
    refine lx_nil ?_
    refine hK5 _ _ ?_; try clear hK5 K5
    refine A_gen [(6, Value.bool (false))] rfl (fun T => ?_)
    obtain rfl := Option.some.inj hM
    refine A_ret (fun hn => ends_eq (v0 := Value.bool (false)) rfl (res1 rfl))
  · replace hM := ifp (eq_of_beq hg10) hM
    refine r_y rfl ?_
    refine r_l (Value.agg #[Value.int .i64 (a_0), U (hi (a_1)), U (lo (a_1))]) 2 _ _ _ _ rfl rfl rfl rfl rfl ?_
    refine r_y rfl ?_
    refine r_l (Value.agg #[Value.int .i64 (b_0), U (hi (b_1)), U (lo (b_1))]) 1 _ _ _ _ rfl rfl rfl rfl rfl ?_
    refine r_y rfl ?_
    refine r_l (Value.agg #[Value.int .i64 (c_0), U (hi (c_1)), U (lo (c_1))]) 0 _ _ _ _ rfl rfl rfl rfl rfl ?_
    refine r_y rfl ?_
    replace hM := bind_sm hM; obtain ⟨r11, hr12, hM⟩ := hM
    refine r_c (Value.bool (r11)) rfl _ _ (ev_callF rfl call_43 rfl) (vec_Within_g N (a_0) (a_1) (b_0) (b_1) (c_0) (c_1) _ hr12) ?_
    refine r_y rfl ?_
    refine r_l (Value.agg #[Value.int .i64 (a_0), U (hi (a_1)), U (lo (a_1))]) 2 _ _ _ _ rfl rfl rfl rfl rfl ?_
    refine r_y rfl ?_
    refine r_l (Value.agg #[Value.int .i64 (b_0), U (hi (b_1)), U (lo (b_1))]) 1 _ _ _ _ rfl rfl rfl rfl rfl ?_
    refine r_y rfl ?_
    refine r_l (Value.agg #[Value.int .i64 (c_0), U (hi (c_1)), U (lo (c_1))]) 0 _ _ _ _ rfl rfl rfl rfl rfl ?_
    refine r_y rfl ?_
    replace hM := bind_sm hM; obtain ⟨r13, hr14, hM⟩ := hM
    refine r_c (Value.bool (r13)) rfl _ _ (ev_callF rfl call_44 rfl) (shunterref02_Within_g N (a_0) (a_1) (b_0) (b_1) (c_0) (c_1) _ hr14) ?_
    refine r_y rfl ?_
    refine r_v (Value.bool ((r11) == (r13))) rfl rfl rfl (ev_binB rfl rfl rfl) ?_
    refine r_v (Value.bool ((r11) == (r13))) rfl rfl rfl rfl ?_
    refine r_v (Value.bool ((r11) == (r13))) rfl rfl rfl rfl ?_
    rcases hg15 : ((r11) == (r13)) with _ | _
    · replace hM := ifn (ne_of_beq_false hg15) hM
      refine r_n false rfl (by decide) rfl ?_
      refine r_v (Value.bool (false)) rfl rfl rfl rfl ?_
      refine r_v (Value.bool (false)) rfl rfl rfl rfl ?_
      refine lx_nil ?_
      refine hK5 _ _ ?_; try clear hK5 K5
      refine A_gen [(6, Value.bool (false))] rfl (fun T => ?_)
      obtain rfl := Option.some.inj hM
      refine A_ret (fun hn => ends_eq (v0 := Value.bool (false)) rfl (res1 rfl))
    · replace hM := ifp (eq_of_beq hg15) hM
      refine r_y rfl ?_
      replace hM := bind_sm hM; obtain ⟨r16, hr17, hM⟩ := hM
      refine r_c (Value.bool (r16)) rfl _ _ (ev_callF rfl call_16 rfl) (shunterlaw02_lives_g N  _ hr17) ?_
      refine r_v (Value.bool (r16)) rfl rfl rfl rfl ?_
      refine r_v (Value.bool (r16)) rfl rfl rfl rfl ?_
      refine lx_nil ?_
      refine hK5 _ _ ?_; try clear hK5 K5
      refine A_gen [(6, Value.bool (r16))] rfl (fun T => ?_)
      obtain rfl := Option.some.inj hM
      refine A_ret (fun hn => ends_eq (v0 := Value.bool (r16)) rfl (res1 rfl))
end Go.Proofs.YtomcfndpnnjihaaDoor
