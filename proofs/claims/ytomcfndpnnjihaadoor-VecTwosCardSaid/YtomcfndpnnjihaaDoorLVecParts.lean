/- models of functions and their walks -/
import Derived.Test.YtomcfndpnnjihaaDoorVc
namespace Go.Proofs.YtomcfndpnnjihaaDoor
open Go Go.RowKit Go.Eng
def shunterlaw02_VecParts_m (N : Nat) (a_0 : Int) (a_1 : BitVec 128) (b_0 : Int) (b_1 : BitVec 128) (at_0 : Int) (at_1 : Int) : Option (Bool) := (vec_Slice_m N (a_0) (a_1) (at_0) (at_1)).bind fun r6 => (shunterref02_Slice_m N (a_0) (a_1) (at_0) (at_1)).bind fun r10 => (vec_Cat_m N (a_0) (a_1) (b_0) (b_1)).bind fun r14 => (shunterref02_Cat_m N (a_0) (a_1) (b_0) (b_1)).bind fun r18 => if (((r6.1) == (r10.1)) && ((r6.2.1) == (r10.2.1))) = true then if (r6.2.2 : Int) = r10.2.2 then if (((r14.1) == (r18.1)) && ((r14.2.1) == (r18.2.1))) = true then if (r14.2.2 : Int) = r18.2.2 then (shunterlaw02_lives_m N ).bind fun r26 => some (r26) else some (false) else some (false) else some (false) else some (false)
set_option maxRecDepth 100000 in
set_option maxHeartbeats 400000 in
theorem shunterlaw02_VecParts_g (N : Nat) (a_0 : Int) (a_1 : BitVec 128) (b_0 : Int) (b_1 : BitVec 128) (at_0 : Int) (at_1 : Int) (r : Bool) (hM : shunterlaw02_VecParts_m N a_0 a_1 b_0 b_1 at_0 at_1 = some r) : Gives Tryd.prog 6 #[Value.agg #[Value.int .i64 (a_0), U (hi (a_1)), U (lo (a_1))], Value.agg #[Value.int .i64 (b_0), U (hi (b_1)), U (lo (b_1))], Value.agg #[Value.int .i64 (at_0), Value.int .i64 (at_1)]] (Value.bool (r)) := by
  unfold shunterlaw02_VecParts_m at hM
  refine gives_of_A follows Tryd.func6 rfl 66 rfl (upd (upd (upd (fun _ => undef) 2 (Value.agg #[Value.int .i64 (at_0), Value.int .i64 (at_1)])) 1 (Value.agg #[Value.int .i64 (b_0), U (hi (b_1)), U (lo (b_1))])) 0 (Value.agg #[Value.int .i64 (a_0), U (hi (a_1)), U (lo (a_1))])) (by funext k; match k with | 0 => rfl | 1 => rfl | 2 => rfl | k + 3 => rfl) (fun base0_ => ?_)
  refine A_seq fun K1 hK1 => ?_
  refine A_reg ?_
  refine r_a (24, #[Value.int .i64 (a_0), U (hi (a_1)), U (lo (a_1))]) rfl rfl rfl (fun b2 => ?_) (.inr rfl)
  refine r_a (24, #[Value.int .i64 (b_0), U (hi (b_1)), U (lo (b_1))]) rfl rfl rfl (fun b3 => ?_) (.inr rfl)
  refine r_a (52, #[Value.int .i64 (at_0), Value.int .i64 (at_1)]) rfl rfl rfl (fun b4 => ?_) (.inr rfl)
  refine r_v (Value.bool (false)) rfl rfl rfl rfl ?_
  refine lx_nil ?_
  refine hK1 _ _ ?_; try clear hK1 K1
  refine A_seq fun K5 hK5 => ?_
  refine A_reg ?_
  refine r_l (Value.agg #[Value.int .i64 (a_0), U (hi (a_1)), U (lo (a_1))]) 2 _ _ _ _ rfl rfl rfl rfl rfl ?_
  refine r_v (Value.pointer (some ⟨b4, 0, none⟩)) rfl rfl rfl rfl ?_
  refine r_l (Value.int .i64 (at_0)) 0 _ _ _ _ rfl rfl rfl rfl rfl ?_
  refine r_v (Value.pointer (some ⟨b4, 1, none⟩)) rfl rfl rfl rfl ?_
  refine r_l (Value.int .i64 (at_1)) 0 _ _ _ _ rfl rfl rfl rfl rfl ?_
  replace hM := bind_sm hM; obtain ⟨r6, hr7, hM⟩ := hM
  refine r_c (Value.tuple #[Value.agg #[Value.int .i64 (r6.1), U (hi (r6.2.1)), U (lo (r6.2.1))], Value.int .i64 (r6.2.2)]) rfl _ _ (ev_callF rfl call_37 rfl) (vec_Slice_g N (a_0) (a_1) (at_0) (at_1) _ hr7) ?_
  refine r_v (Value.tuple #[Value.agg #[Value.int .i64 (r6.1), U (hi (r6.2.1)), U (lo (r6.2.1))], Value.int .i64 (r6.2.2)]) rfl rfl rfl rfl ?_
  refine r_v (Value.agg #[Value.int .i64 (r6.1), U (hi (r6.2.1)), U (lo (r6.2.1))]) rfl rfl rfl rfl ?_
  refine r_v (Value.int .i64 (r6.2.2)) rfl rfl rfl rfl ?_
  refine r_a (24, #[Value.int .i64 (0), U (0#64), U (0#64)]) rfl rfl rfl (fun b8 => ?_) (.inr rfl)
  refine r_s [(b8, 24, #[Value.int .i64 (r6.1), U (hi (r6.2.1)), U (lo (r6.2.1))]), (b4, 52, #[Value.int .i64 (at_0), Value.int .i64 (at_1)]), (b3, 24, #[Value.int .i64 (b_0), U (hi (b_1)), U (lo (b_1))]), (b2, 24, #[Value.int .i64 (a_0), U (hi (a_1)), U (lo (a_1))])] 0 _ _ _ (#[Value.int .i64 (0), U (0#64), U (0#64)]) (#[Value.int .i64 (r6.1), U (hi (r6.2.1)), U (lo (r6.2.1))]) (#[Value.int .i64 (r6.1), U (hi (r6.2.1)), U (lo (r6.2.1))]) rfl rfl rfl rfl (.of rfl rfl) rfl rfl ?_
  refine r_v (Value.int .i64 (r6.2.2)) rfl rfl rfl rfl ?_
  refine lx_nil ?_
  refine hK5 _ _ ?_; try clear hK5 K5
  refine A_seq fun K9 hK9 => ?_
  refine A_reg ?_
  refine r_l (Value.agg #[Value.int .i64 (a_0), U (hi (a_1)), U (lo (a_1))]) 3 _ _ _ _ rfl rfl rfl rfl rfl ?_
  refine r_v (Value.pointer (some ⟨b4, 0, none⟩)) rfl rfl rfl rfl ?_
  refine r_l (Value.int .i64 (at_0)) 1 _ _ _ _ rfl rfl rfl rfl rfl ?_
  refine r_v (Value.pointer (some ⟨b4, 1, none⟩)) rfl rfl rfl rfl ?_
  refine r_l (Value.int .i64 (at_1)) 1 _ _ _ _ rfl rfl rfl rfl rfl ?_
  replace hM := bind_sm hM; obtain ⟨r10, hr11, hM⟩ := hM
  refine r_c (Value.tuple #[Value.agg #[Value.int .i64 (r10.1), U (hi (r10.2.1)), U (lo (r10.2.1))], Value.int .i64 (r10.2.2)]) rfl _ _ (ev_callF rfl call_38 rfl) (shunterref02_Slice_g N (a_0) (a_1) (at_0) (at_1) _ hr11) ?_
  refine r_v (Value.tuple #[Value.agg #[Value.int .i64 (r10.1), U (hi (r10.2.1)), U (lo (r10.2.1))], Value.int .i64 (r10.2.2)]) rfl rfl rfl rfl ?_
  refine r_v (Value.agg #[Value.int .i64 (r10.1), U (hi (r10.2.1)), U (lo (r10.2.1))]) rfl rfl rfl rfl ?_
  refine r_v (Value.int .i64 (r10.2.2)) rfl rfl rfl rfl ?_
  refine r_a (24, #[Value.int .i64 (0), U (0#64), U (0#64)]) rfl rfl rfl (fun b12 => ?_) (.inr rfl)
  refine r_s [(b12, 24, #[Value.int .i64 (r10.1), U (hi (r10.2.1)), U (lo (r10.2.1))]), (b8, 24, #[Value.int .i64 (r6.1), U (hi (r6.2.1)), U (lo (r6.2.1))]), (b4, 52, #[Value.int .i64 (at_0), Value.int .i64 (at_1)]), (b3, 24, #[Value.int .i64 (b_0), U (hi (b_1)), U (lo (b_1))]), (b2, 24, #[Value.int .i64 (a_0), U (hi (a_1)), U (lo (a_1))])] 0 _ _ _ (#[Value.int .i64 (0), U (0#64), U (0#64)]) (#[Value.int .i64 (r10.1), U (hi (r10.2.1)), U (lo (r10.2.1))]) (#[Value.int .i64 (r10.1), U (hi (r10.2.1)), U (lo (r10.2.1))]) rfl rfl rfl rfl (.of rfl rfl) rfl rfl ?_
  refine r_v (Value.int .i64 (r10.2.2)) rfl rfl rfl rfl ?_
  refine lx_nil ?_
  refine hK9 _ _ ?_; try clear hK9 K9
  refine A_seq fun K13 hK13 => ?_
  refine A_reg ?_
  refine r_l (Value.agg #[Value.int .i64 (a_0), U (hi (a_1)), U (lo (a_1))]) 4 _ _ _ _ rfl rfl rfl rfl rfl ?_
  refine r_l (Value.agg #[Value.int .i64 (b_0), U (hi (b_1)), U (lo (b_1))]) 3 _ _ _ _ rfl rfl rfl rfl rfl ?_
  replace hM := bind_sm hM; obtain ⟨r14, hr15, hM⟩ := hM
  refine r_c (Value.tuple #[Value.agg #[Value.int .i64 (r14.1), U (hi (r14.2.1)), U (lo (r14.2.1))], Value.int .i64 (r14.2.2)]) rfl _ _ (ev_callF rfl call_39 rfl) (vec_Cat_g N (a_0) (a_1) (b_0) (b_1) _ hr15) ?_
  refine r_v (Value.tuple #[Value.agg #[Value.int .i64 (r14.1), U (hi (r14.2.1)), U (lo (r14.2.1))], Value.int .i64 (r14.2.2)]) rfl rfl rfl rfl ?_
  refine r_v (Value.agg #[Value.int .i64 (r14.1), U (hi (r14.2.1)), U (lo (r14.2.1))]) rfl rfl rfl rfl ?_
  refine r_v (Value.int .i64 (r14.2.2)) rfl rfl rfl rfl ?_
  refine r_a (24, #[Value.int .i64 (0), U (0#64), U (0#64)]) rfl rfl rfl (fun b16 => ?_) (.inr rfl)
  refine r_s [(b16, 24, #[Value.int .i64 (r14.1), U (hi (r14.2.1)), U (lo (r14.2.1))]), (b12, 24, #[Value.int .i64 (r10.1), U (hi (r10.2.1)), U (lo (r10.2.1))]), (b8, 24, #[Value.int .i64 (r6.1), U (hi (r6.2.1)), U (lo (r6.2.1))]), (b4, 52, #[Value.int .i64 (at_0), Value.int .i64 (at_1)]), (b3, 24, #[Value.int .i64 (b_0), U (hi (b_1)), U (lo (b_1))]), (b2, 24, #[Value.int .i64 (a_0), U (hi (a_1)), U (lo (a_1))])] 0 _ _ _ (#[Value.int .i64 (0), U (0#64), U (0#64)]) (#[Value.int .i64 (r14.1), U (hi (r14.2.1)), U (lo (r14.2.1))]) (#[Value.int .i64 (r14.1), U (hi (r14.2.1)), U (lo (r14.2.1))]) rfl rfl rfl rfl (.of rfl rfl) rfl rfl ?_
  refine r_v (Value.int .i64 (r14.2.2)) rfl rfl rfl rfl ?_
  refine lx_nil ?_
  refine hK13 _ _ ?_; try clear hK13 K13
  refine A_gen [(3, Value.pointer (some ⟨b2, 0, none⟩)), (4, Value.pointer (some ⟨b3, 0, none⟩)), (7, Value.pointer (some ⟨b8, 0, none⟩)), (8, Value.int .i64 (r6.2.2)), (9, Value.pointer (some ⟨b12, 0, none⟩)), (10, Value.int .i64 (r10.2.2)), (11, Value.pointer (some ⟨b16, 0, none⟩)), (12, Value.int .i64 (r14.2.2))] rfl (fun T => ?_)
  refine A_seq fun K17 hK17 => ?_
  refine A_reg ?_
  refine r_l (Value.agg #[Value.int .i64 (a_0), U (hi (a_1)), U (lo (a_1))]) 5 _ _ _ _ rfl rfl rfl rfl rfl ?_
  refine r_l (Value.agg #[Value.int .i64 (b_0), U (hi (b_1)), U (lo (b_1))]) 4 _ _ _ _ rfl rfl rfl rfl rfl ?_
  replace hM := bind_sm hM; obtain ⟨r18, hr19, hM⟩ := hM
  refine r_c (Value.tuple #[Value.agg #[Value.int .i64 (r18.1), U (hi (r18.2.1)), U (lo (r18.2.1))], Value.int .i64 (r18.2.2)]) rfl _ _ (ev_callF rfl call_40 rfl) (shunterref02_Cat_g N (a_0) (a_1) (b_0) (b_1) _ hr19) ?_
  refine r_v (Value.tuple #[Value.agg #[Value.int .i64 (r18.1), U (hi (r18.2.1)), U (lo (r18.2.1))], Value.int .i64 (r18.2.2)]) rfl rfl rfl rfl ?_
  refine r_v (Value.agg #[Value.int .i64 (r18.1), U (hi (r18.2.1)), U (lo (r18.2.1))]) rfl rfl rfl rfl ?_
  refine r_v (Value.int .i64 (r18.2.2)) rfl rfl rfl rfl ?_
  refine r_a (24, #[Value.int .i64 (0), U (0#64), U (0#64)]) rfl rfl rfl (fun b20 => ?_) (.inr rfl)
  refine r_s [(b20, 24, #[Value.int .i64 (r18.1), U (hi (r18.2.1)), U (lo (r18.2.1))]), (b16, 24, #[Value.int .i64 (r14.1), U (hi (r14.2.1)), U (lo (r14.2.1))]), (b12, 24, #[Value.int .i64 (r10.1), U (hi (r10.2.1)), U (lo (r10.2.1))]), (b8, 24, #[Value.int .i64 (r6.1), U (hi (r6.2.1)), U (lo (r6.2.1))]), (b4, 52, #[Value.int .i64 (at_0), Value.int .i64 (at_1)]), (b3, 24, #[Value.int .i64 (b_0), U (hi (b_1)), U (lo (b_1))]), (b2, 24, #[Value.int .i64 (a_0), U (hi (a_1)), U (lo (a_1))])] 0 _ _ _ (#[Value.int .i64 (0), U (0#64), U (0#64)]) (#[Value.int .i64 (r18.1), U (hi (r18.2.1)), U (lo (r18.2.1))]) (#[Value.int .i64 (r18.1), U (hi (r18.2.1)), U (lo (r18.2.1))]) rfl rfl rfl rfl (.of rfl rfl) rfl rfl ?_
  refine r_v (Value.int .i64 (r18.2.2)) rfl rfl rfl rfl ?_
  refine lx_nil ?_
  refine hK17 _ _ ?_; try clear hK17 K17
  refine A_seq fun K21 hK21 => ?_
  refine A_reg ?_
  refine r_l (Value.agg #[Value.int .i64 (r6.1), U (hi (r6.2.1)), U (lo (r6.2.1))]) 3 _ _ _ _ rfl rfl rfl rfl rfl ?_
  refine r_l (Value.agg #[Value.int .i64 (r10.1), U (hi (r10.2.1)), U (lo (r10.2.1))]) 2 _ _ _ _ rfl rfl rfl rfl rfl ?_
  refine r_v (Value.bool (((r6.1) == (r10.1)) && ((r6.2.1) == (r10.2.1)))) rfl rfl rfl (ev_binEq rfl rfl eg_24 (eqst_24 (r6.1) (r10.1) (r6.2.1) (r10.2.1))) ?_
  refine r_v (Value.bool (((r6.1) == (r10.1)) && ((r6.2.1) == (r10.2.1)))) rfl rfl rfl rfl ?_
  rcases hg22 : (((r6.1) == (r10.1)) && ((r6.2.1) == (r10.2.1))) with _ | _
  · replace hM := ifn (Bool.eq_false_iff.1 hg22) hM
    refine r_n false rfl (by decide) rfl ?_
    refine r_n false rfl (by decide) rfl ?_
    refine r_n false rfl (by decide) rfl ?_
    refine r_v (Value.bool (false)) rfl rfl rfl rfl ?_
    refine r_v (Value.bool (false)) rfl rfl rfl rfl ?_
    refine r_n false rfl (by decide) rfl ?_
    refine r_n false rfl (by decide) rfl ?_
    refine r_n false rfl (by decide) rfl ?_
    refine r_v (Value.bool (false)) rfl rfl rfl rfl ?_
    refine r_v (Value.bool (false)) rfl rfl rfl rfl ?_
    refine r_n false rfl (by decide) rfl ?_
    refine r_n false rfl (by decide) rfl ?_
    refine r_n false rfl (by decide) rfl ?_
    refine r_v (Value.bool (false)) rfl rfl rfl rfl ?_
    refine r_v (Value.bool (false)) rfl rfl rfl rfl ?_
    refine r_n false rfl (by decide) rfl ?_
    refine r_v (Value.bool (false)) rfl rfl rfl rfl ?_
    refine r_v (Value.bool (false)) rfl rfl rfl rfl ?_
    refine lx_nil ?_
    refine hK21 _ _ ?_; try clear hK21 K21
    refine A_gen [(6, Value.bool (false))] rfl (fun T => ?_)
    obtain rfl := Option.some.inj hM
    refine A_ret (fun hn => ends_eq (v0 := Value.bool (false)) rfl (res1 rfl))
  · replace hM := ifp hg22 hM
    refine r_y rfl ?_
    refine r_v (Value.int .i64 (r6.2.2)) rfl rfl rfl rfl ?_
    refine r_y rfl ?_
    refine r_v (Value.int .i64 (r10.2.2)) rfl rfl rfl rfl ?_
    refine r_y rfl ?_
    refine r_v (Value.bool (((r6.2.2 : Int) == r10.2.2))) rfl rfl rfl rfl ?_
    refine r_v (Value.bool (((r6.2.2 : Int) == r10.2.2))) rfl rfl rfl rfl ?_
    refine r_v (Value.bool (((r6.2.2 : Int) == r10.2.2))) rfl rfl rfl rfl ?_
    rcases hg23 : (((r6.2.2 : Int) == r10.2.2)) with _ | _
    · replace hM := ifn (ne_of_beq_false hg23) hM
      refine r_n false rfl (by decide) rfl ?_
      refine r_n false rfl (by decide) rfl ?_
      refine r_n false rfl (by decide) rfl ?_
      refine r_v (Value.bool (false)) rfl rfl rfl rfl ?_
      refine r_v (Value.bool (false)) rfl rfl rfl rfl ?_
      refine r_n false rfl (by decide) rfl ?_
      refine r_n false rfl (by decide) rfl ?_
      refine r_n false rfl (by decide) rfl ?_
      refine r_v (Value.bool (false)) rfl rfl rfl rfl ?_
      refine r_v (Value.bool (false)) rfl rfl rfl rfl ?_
      refine r_n false rfl (by decide) rfl ?_
      refine r_v (Value.bool (false)) rfl rfl rfl rfl ?_
      refine r_v (Value.bool (false)) rfl rfl rfl rfl ?_
      refine lx_nil ?_
      refine hK21 _ _ ?_; try clear hK21 K21
      refine A_gen [(6, Value.bool (false))] rfl (fun T => ?_)
      obtain rfl := Option.some.inj hM
      refine A_ret (fun hn => ends_eq (v0 := Value.bool (false)) rfl (res1 rfl))
    · replace hM := ifp (eq_of_beq hg23) hM
      refine r_y rfl ?_
      refine r_l (Value.agg #[Value.int .i64 (r14.1), U (hi (r14.2.1)), U (lo (r14.2.1))]) 1 _ _ _ _ rfl rfl rfl rfl rfl ?_
      refine r_y rfl ?_
      refine r_l (Value.agg #[Value.int .i64 (r18.1), U (hi (r18.2.1)), U (lo (r18.2.1))]) 0 _ _ _ _ rfl rfl rfl rfl rfl ?_
      refine r_y rfl ?_
      refine r_v (Value.bool (((r14.1) == (r18.1)) && ((r14.2.1) == (r18.2.1)))) rfl rfl rfl (ev_binEq rfl rfl eg_24 (eqst_24 (r14.1) (r18.1) (r14.2.1) (r18.2.1))) ?_
      refine r_v (Value.bool (((r14.1) == (r18.1)) && ((r14.2.1) == (r18.2.1)))) rfl rfl rfl rfl ?_
      refine r_v (Value.bool (((r14.1) == (r18.1)) && ((r14.2.1) == (r18.2.1)))) rfl rfl rfl rfl ?_
      rcases hg24 : (((r14.1) == (r18.1)) && ((r14.2.1) == (r18.2.1))) with _ | _
      · replace hM := ifn (Bool.eq_false_iff.1 hg24) hM
        refine r_n false rfl (by decide) rfl ?_
        refine r_n false rfl (by decide) rfl ?_
        refine r_n false rfl (by decide) rfl ?_
        refine r_v (Value.bool (false)) rfl rfl rfl rfl ?_
        refine r_v (Value.bool (false)) rfl rfl rfl rfl ?_
        refine r_n false rfl (by decide) rfl ?_
        refine r_v (Value.bool (false)) rfl rfl rfl rfl ?_
        refine r_v (Value.bool (false)) rfl rfl rfl rfl ?_
        refine lx_nil ?_
        refine hK21 _ _ ?_; try clear hK21 K21
        refine A_gen [(6, Value.bool (false))] rfl (fun T => ?_)
        obtain rfl := Option.some.inj hM
        refine A_ret (fun hn => ends_eq (v0 := Value.bool (false)) rfl (res1 rfl))
      · replace hM := ifp hg24 hM
        refine r_y rfl ?_
        refine r_v (Value.int .i64 (r14.2.2)) rfl rfl rfl rfl ?_
        refine r_y rfl ?_
        refine r_v (Value.int .i64 (r18.2.2)) rfl rfl rfl rfl ?_
        refine r_y rfl ?_
        refine r_v (Value.bool (((r14.2.2 : Int) == r18.2.2))) rfl rfl rfl rfl ?_
        refine r_v (Value.bool (((r14.2.2 : Int) == r18.2.2))) rfl rfl rfl rfl ?_
        refine r_v (Value.bool (((r14.2.2 : Int) == r18.2.2))) rfl rfl rfl rfl ?_
        rcases hg25 : (((r14.2.2 : Int) == r18.2.2)) with _ | _
        · replace hM := ifn (ne_of_beq_false hg25) hM
          refine r_n false rfl (by decide) rfl ?_
          refine r_v (Value.bool (false)) rfl rfl rfl rfl ?_
          refine r_v (Value.bool (false)) rfl rfl rfl rfl ?_
          refine lx_nil ?_
          refine hK21 _ _ ?_; try clear hK21 K21
          refine A_gen [(6, Value.bool (false))] rfl (fun T => ?_)
          obtain rfl := Option.some.inj hM
          refine A_ret (fun hn => ends_eq (v0 := Value.bool (false)) rfl (res1 rfl))
        · replace hM := ifp (eq_of_beq hg25) hM
          refine r_y rfl ?_
          replace hM := bind_sm hM; obtain ⟨r26, hr27, hM⟩ := hM
          refine r_c (Value.bool (r26)) rfl _ _ (ev_callF rfl call_16 rfl) (shunterlaw02_lives_g N  _ hr27) ?_
          refine r_v (Value.bool (r26)) rfl rfl rfl rfl ?_
          refine r_v (Value.bool (r26)) rfl rfl rfl rfl ?_
          refine lx_nil ?_
          refine hK21 _ _ ?_; try clear hK21 K21
          refine A_gen [(6, Value.bool (r26))] rfl (fun T => ?_)
          obtain rfl := Option.some.inj hM
          refine A_ret (fun hn => ends_eq (v0 := Value.bool (r26)) rfl (res1 rfl))
end Go.Proofs.YtomcfndpnnjihaaDoor
