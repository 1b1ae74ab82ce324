/- models of functions and their walks -/
import Derived.Test.YtomcfndpnnjihaaDoorVt
namespace Go.Proofs.YtomcfndpnnjihaaDoor
open Go Go.RowKit Go.Eng
def shunterlaw02_VecTexts_m (N : Nat) (a_0 : Int) (a_1 : BitVec 128) (s : List UInt8) : Option (Bool) := if (((s).length : Int) : Int) > 300 then (shunterlaw02_lives_m N ).bind fun r7 => some (r7) else (vec_Parse_m N s).bind fun r10 => (shunterref02_Parse_m N (s)).bind fun r14 => (vec_TextI_m N a_0 a_1).bind fun r18 => (shunterref02_Text_m N (a_0) (a_1)).bind fun r20 => if (r18) = (r20) then if (((r10.1) == (r14.1)) && ((r10.2.1) == (r14.2.1))) = true then if (r10.2.2 : Int) = r14.2.2 then (shunterlaw02_lives_m N ).bind fun r25 => some (r25) else some (false) else some (false) else some (false)
set_option maxRecDepth 100000 in
set_option maxHeartbeats 400000 in
theorem shunterlaw02_VecTexts_g (N : Nat) (a_0 : Int) (a_1 : BitVec 128) (s : List UInt8) (r : Bool) (hM : shunterlaw02_VecTexts_m N a_0 a_1 s = some r) (ro : Addr → Option Value)  : DoesI Tryd.prog 8 #[Value.agg #[Value.int .i64 (a_0), U (hi (a_1)), U (lo (a_1))], Value.string (⟨(s).toArray⟩)] MemI ro [] (pV (Value.bool (r))) := by
  unfold shunterlaw02_VecTexts_m at hM
  refine doesI_of_A follows Tryd.func8 rfl 41 rfl (upd (upd (fun _ => undef) 1 (Value.string (⟨(s).toArray⟩))) 0 (Value.agg #[Value.int .i64 (a_0), U (hi (a_1)), U (lo (a_1))])) (by funext k; match k with | 0 => rfl | 1 => rfl | k + 2 => rfl) memI_kept (fun base0_ => ?_)
  refine A_seq fun K1 hK1 => ?_
  refine A_reg ?_
  refine r_a (24, #[Value.int .i64 (a_0), U (hi (a_1)), U (lo (a_1))]) rfl rfl rfl (fun b2 => ?_) (.inr rfl)
  refine r_v (Value.bool (false)) rfl rfl rfl rfl ?_
  refine lx_nil ?_
  refine hK1 _ _ ?_; try clear hK1 K1
  refine A_seq fun K3 hK3 => ?_
  refine A_seq fun K4 hK4 => ?_
  refine A_reg ?_
  refine r_v (Value.string (⟨(s).toArray⟩)) rfl rfl rfl rfl ?_
  refine r_v (Value.int .i64 (((s).length : Int))) rfl rfl rfl (ev_lenS rfl rfl rfl) ?_
  refine r_v (Value.bool (decide ((((s).length : Int) : Int) > 300))) rfl rfl rfl rfl ?_
  refine lx_nil ?_
  refine hK4 _ _ ?_; try clear hK4 K4
  refine A_cond (decide ((((s).length : Int) : Int) > 300)) rfl (fun hc5 => ?_) (fun hc5 => ?_)
  · replace hM := ifp (of_decide_eq_true hc5) hM
    refine A_seq fun K6 hK6 => ?_
    refine A_reg ?_
    replace hM := bind_sm hM; obtain ⟨r7, hr8, hM⟩ := hM
    refine r_c (Value.bool (r7)) rfl _ _ (ev_callF rfl call_16 rfl) (shunterlaw02_lives_g N  _ hr8) ?_
    refine r_v (Value.bool (r7)) rfl rfl rfl rfl ?_
    refine lx_nil ?_
    refine hK6 _ _ ?_; try clear hK6 K6
    obtain rfl := Option.some.inj hM
    refine A_ret (fun hn => endsV (v0 := Value.bool (r7)) rfl (res1 rfl))
  · replace hM := ifn (of_decide_eq_false hc5) hM
    refine A_skip ?_
    refine hK3 _ _ ?_; try clear hK3 K3
    refine A_seq fun K9 hK9 => ?_
    refine A_regC [(some 15, false)] (conG Tryd.prog [(15, fun v_ L_ U_ => ∀ u0_, vec_Parse_m N s = some u0_ → (pV (Value.tuple #[Value.agg #[Value.int .i64 (u0_.1), U (hi (u0_.2.1)), U (lo (u0_.2.1))], Value.int .i64 (u0_.2.2)])) v_ L_ U_)]) ?_
    refine r_v (Value.string (⟨(s).toArray⟩)) rfl rfl rfl rfl ?_
    replace hM := bind_sm hM; obtain ⟨r10, hr11, hM⟩ := hM
    refine r_gv (Value.tuple #[Value.agg #[Value.int .i64 (r10.1), U (hi (r10.2.1)), U (lo (r10.2.1))], Value.int .i64 (r10.2.2)]) 45 _ rfl rfl rfl (ev_callF rfl call_45 rfl) (fun own_ nw_ hs_ => vec_Parse_g N s _ hr11 hs_.view ) (fun _ _ v_ L_ U_ => ⟨fun h_ => h_ _ hr11, fun h_ => by intro _ e_; cases Option.some.inj (e_.symm.trans hr11); exact h_⟩) ?_
    refine r_v (Value.tuple #[Value.agg #[Value.int .i64 (r10.1), U (hi (r10.2.1)), U (lo (r10.2.1))], Value.int .i64 (r10.2.2)]) rfl rfl rfl rfl ?_
    refine r_v (Value.agg #[Value.int .i64 (r10.1), U (hi (r10.2.1)), U (lo (r10.2.1))]) rfl rfl rfl rfl ?_
    refine r_v (Value.int .i64 (r10.2.2)) rfl rfl rfl rfl ?_
    refine r_a (24, #[Value.int .i64 (0), U (0#64), U (0#64)]) rfl rfl rfl (fun b12 => ?_) (.inr rfl)
    refine r_s [(b12, 24, #[Value.int .i64 (r10.1), U (hi (r10.2.1)), U (lo (r10.2.1))]), (b2, 24, #[Value.int .i64 (a_0), U (hi (a_1)), U (lo (a_1))])] 0 _ _ _ (#[Value.int .i64 (0), U (0#64), U (0#64)]) (#[Value.int .i64 (r10.1), U (hi (r10.2.1)), U (lo (r10.2.1))]) (#[Value.int .i64 (r10.1), U (hi (r10.2.1)), U (lo (r10.2.1))]) rfl rfl rfl rfl (.of rfl rfl) rfl rfl ?_
    refine r_v (Value.int .i64 (r10.2.2)) rfl rfl rfl rfl ?_
    refine lx_nil ?_
    refine hK9 _ _ ?_; try clear hK9 K9
    refine A_seq fun K13 hK13 => ?_
    refine A_reg ?_
    refine r_v (Value.string (⟨(s).toArray⟩)) rfl rfl rfl rfl ?_
    replace hM := bind_sm hM; obtain ⟨r14, hr15, hM⟩ := hM
    refine r_c (Value.tuple #[Value.agg #[Value.int .i64 (r14.1), U (hi (r14.2.1)), U (lo (r14.2.1))], Value.int .i64 (r14.2.2)]) rfl _ _ (ev_callF rfl call_46 rfl) (shunterref02_Parse_g N (s) _ hr15) ?_
    refine r_v (Value.tuple #[Value.agg #[Value.int .i64 (r14.1), U (hi (r14.2.1)), U (lo (r14.2.1))], Value.int .i64 (r14.2.2)]) rfl rfl rfl rfl ?_
    refine r_v (Value.agg #[Value.int .i64 (r14.1), U (hi (r14.2.1)), U (lo (r14.2.1))]) rfl rfl rfl rfl ?_
    refine r_v (Value.int .i64 (r14.2.2)) rfl rfl rfl rfl ?_
    refine r_a (24, #[Value.int .i64 (0), U (0#64), U (0#64)]) rfl rfl rfl (fun b16 => ?_) (.inr rfl)
    refine r_s [(b16, 24, #[Value.int .i64 (r14.1), U (hi (r14.2.1)), U (lo (r14.2.1))]), (b12, 24, #[Value.int .i64 (r10.1), U (hi (r10.2.1)), U (lo (r10.2.1))]), (b2, 24, #[Value.int .i64 (a_0), U (hi (a_1)), U (lo (a_1))])] 0 _ _ _ (#[Value.int .i64 (0), U (0#64), U (0#64)]) (#[Value.int .i64 (r14.1), U (hi (r14.2.1)), U (lo (r14.2.1))]) (#[Value.int .i64 (r14.1), U (hi (r14.2.1)), U (lo (r14.2.1))]) rfl rfl rfl rfl (.of rfl rfl) rfl rfl ?_
    refine r_v (Value.int .i64 (r14.2.2)) rfl rfl rfl rfl ?_
    refine lx_nil ?_
    refine hK13 _ _ ?_; try clear hK13 K13
    refine A_seq fun K17 hK17 => ?_
    refine A_drawR [(some 24, false)] (conG Tryd.prog [(24, fun v_ L_ U_ => ∀ u0_, vec_TextI_m N a_0 a_1 = some u0_ → (pV (Value.string (⟨(u0_).toArray⟩))) v_ L_ U_)]) [] (by decide +kernel) (fun hn => sep_nil) ?_
    refine r_l (Value.agg #[Value.int .i64 (a_0), U (hi (a_1)), U (lo (a_1))]) 2 _ _ _ _ rfl rfl rfl rfl rfl ?_
    replace hM := bind_sm hM; obtain ⟨r18, hr19, hM⟩ := hM
    refine r_gv (Value.string (⟨(r18).toArray⟩)) 47 _ rfl rfl rfl (ev_callF rfl call_47 rfl) (fun own_ nw_ hs_ => vec_TextI_g N a_0 a_1 _ hr19 hs_.view ) (fun _ _ v_ L_ U_ => ⟨fun h_ => h_ _ hr19, fun h_ => by intro _ e_; cases Option.some.inj (e_.symm.trans hr19); exact h_⟩) ?_
    refine r_l (Value.agg #[Value.int .i64 (a_0), U (hi (a_1)), U (lo (a_1))]) 2 _ _ _ _ rfl rfl rfl rfl rfl ?_
    replace hM := bind_sm hM; obtain ⟨r20, hr21, hM⟩ := hM
    refine r_c (Value.string (⟨(r20).toArray⟩)) rfl _ _ (ev_callF rfl call_48 rfl) (shunterref02_Text_g N (a_0) (a_1) _ hr21) ?_
    refine r_v (Value.bool ((r18) == (r20))) rfl rfl rfl (ev_eqS rfl rfl) ?_
    refine r_v (Value.bool ((r18) == (r20))) rfl rfl rfl rfl ?_
    rcases hg22 : ((r18) == (r20)) with _ | _
    · replace hM := ifn (ne_of_beq_false hg22) hM
      refine r_n false rfl (by decide) rfl ?_
      refine r_n false rfl (by decide) rfl ?_
      refine r_n false rfl (by decide) rfl ?_
      refine r_v (Value.bool (false)) rfl rfl rfl rfl ?_
      refine r_v (Value.bool (false)) rfl rfl rfl rfl ?_
      refine r_n false rfl (by decide) rfl ?_
      refine r_n false rfl (by decide) rfl ?_
      refine r_n false rfl (by decide) rfl ?_
      refine r_v (Value.bool (false)) rfl rfl rfl rfl ?_
      refine r_v (Value.bool (false)) rfl rfl rfl rfl ?_
      refine r_n false rfl (by decide) rfl ?_
      refine r_v (Value.bool (false)) rfl rfl rfl rfl ?_
      refine r_v (Value.bool (false)) rfl rfl rfl rfl ?_
      refine lx_nil ?_
      refine hK17 _ _ ?_; try clear hK17 K17
      refine A_gen [(4, Value.bool (false))] rfl (fun T => ?_)
      obtain rfl := Option.some.inj hM
      refine A_ret (fun hn => endsV (v0 := Value.bool (false)) rfl (res1 rfl))
    · replace hM := ifp (eq_of_beq hg22) hM
      refine r_y rfl ?_
      refine r_l (Value.agg #[Value.int .i64 (r10.1), U (hi (r10.2.1)), U (lo (r10.2.1))]) 1 _ _ _ _ rfl rfl rfl rfl rfl ?_
      refine r_y rfl ?_
      refine r_l (Value.agg #[Value.int .i64 (r14.1), U (hi (r14.2.1)), U (lo (r14.2.1))]) 0 _ _ _ _ rfl rfl rfl rfl rfl ?_
      refine r_y rfl ?_
      refine r_v (Value.bool (((r10.1) == (r14.1)) && ((r10.2.1) == (r14.2.1)))) rfl rfl rfl (ev_binEq rfl rfl eg_24 (eqst_24 (r10.1) (r14.1) (r10.2.1) (r14.2.1))) ?_
      refine r_v (Value.bool (((r10.1) == (r14.1)) && ((r10.2.1) == (r14.2.1)))) rfl rfl rfl rfl ?_
      refine r_v (Value.bool (((r10.1) == (r14.1)) && ((r10.2.1) == (r14.2.1)))) rfl rfl rfl rfl ?_
      rcases hg23 : (((r10.1) == (r14.1)) && ((r10.2.1) == (r14.2.1))) with _ | _
      · replace hM := ifn (Bool.eq_false_iff.1 hg23) hM
        refine r_n false rfl (by decide) rfl ?_
        refine r_n false rfl (by decide) rfl ?_
        refine r_n false rfl (by decide) rfl ?_
        refine r_v (Value.bool (false)) rfl rfl rfl rfl ?_
        refine r_v (Value.bool (false)) rfl rfl rfl rfl ?_
        refine r_n false rfl (by decide) rfl ?_
        refine r_v (Value.bool (false)) rfl rfl rfl rfl ?_
        refine r_v (Value.bool (false)) rfl rfl rfl rfl ?_
        refine lx_nil ?_
        refine hK17 _ _ ?_; try clear hK17 K17
        refine A_gen [(4, Value.bool (false))] rfl (fun T => ?_)
        obtain rfl := Option.some.inj hM
        refine A_ret (fun hn => endsV (v0 := Value.bool (false)) rfl (res1 rfl))
      · replace hM := ifp hg23 hM
        refine r_y rfl ?_
        refine r_v (Value.int .i64 (r10.2.2)) rfl rfl rfl rfl ?_
        refine r_y rfl ?_
        refine r_v (Value.int .i64 (r14.2.2)) rfl rfl rfl rfl ?_
        refine r_y rfl ?_
        refine r_v (Value.bool (((r10.2.2 : Int) == r14.2.2))) rfl rfl rfl rfl ?_
        refine r_v (Value.bool (((r10.2.2 : Int) == r14.2.2))) rfl rfl rfl rfl ?_
        refine r_v (Value.bool (((r10.2.2 : Int) == r14.2.2))) rfl rfl rfl rfl ?_
        rcases hg24 : (((r10.2.2 : Int) == r14.2.2)) with _ | _
        · replace hM := ifn (ne_of_beq_false hg24) hM
          refine r_n false rfl (by decide) rfl ?_
          refine r_v (Value.bool (false)) rfl rfl rfl rfl ?_
          refine r_v (Value.bool (false)) rfl rfl rfl rfl ?_
          refine lx_nil ?_
          refine hK17 _ _ ?_; try clear hK17 K17
          refine A_gen [(4, Value.bool (false))] rfl (fun T => ?_)
          obtain rfl := Option.some.inj hM
          refine A_ret (fun hn => endsV (v0 := Value.bool (false)) rfl (res1 rfl))
        · replace hM := ifp (eq_of_beq hg24) hM
          refine r_y rfl ?_
          replace hM := bind_sm hM; obtain ⟨r25, hr26, hM⟩ := hM
          refine r_c (Value.bool (r25)) rfl _ _ (ev_callF rfl call_16 rfl) (shunterlaw02_lives_g N  _ hr26) ?_
          refine r_v (Value.bool (r25)) rfl rfl rfl rfl ?_
          refine r_v (Value.bool (r25)) rfl rfl rfl rfl ?_
          refine lx_nil ?_
          refine hK17 _ _ ?_; try clear hK17 K17
          refine A_gen [(4, Value.bool (r25))] rfl (fun T => ?_)
          obtain rfl := Option.some.inj hM
          refine A_ret (fun hn => endsV (v0 := Value.bool (r25)) rfl (res1 rfl))
end Go.Proofs.YtomcfndpnnjihaaDoor
