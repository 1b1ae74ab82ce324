/- models of functions and their walks -/
import Derived.Test.YtmiabhodfcidcaaBb
namespace Go.Proofs.Ytmiabhodfcidcaa
open Go Go.RowKit Go.Eng
def shunterlaw03_BitsGets_m (N : Nat) (b : List UInt8) (at' : Int) (w : Int) : Option (Bool) := if (((b).length : Int) : Int) > 200 then (shunterlaw03_lives_m N ).bind fun r6 => some (r6) else (bits_Get_m N b at' w).bind fun r9 => (shunterref03_Get_m N b at' w).bind fun r13 => if (((r9.1) == (r13.1)) && ((r9.2.1) == (r13.2.1))) = true then if (r9.2.2 : Int) = r13.2.2 then (shunterlaw03_lives_m N ).bind fun r19 => some (r19) else some (false) else some (false)
set_option maxRecDepth 100000 in
set_option maxHeartbeats 400000 in
theorem shunterlaw03_BitsGets_g (N : Nat) (b : List UInt8) (at' : Int) (w : Int) (r : Bool) (hM : shunterlaw03_BitsGets_m N b at' w = some r) (ro : Addr → Option Value) (bv : Value) (hb : Rd encY ro bv b) : Does Try.prog 3 #[bv, Value.int .i64 (at'), Value.int .i64 (w)] ro [] (pV (Value.bool (r))) := by
  unfold shunterlaw03_BitsGets_m at hM
  refine does_of_A follows Try.func3 rfl 40 rfl (upd (upd (upd (fun _ => undef) 2 (Value.int .i64 (w))) 1 (Value.int .i64 (at'))) 0 (bv)) (by funext k; match k with | 0 => rfl | 1 => rfl | 2 => rfl | k + 3 => rfl) (fun base0_ => ?_)
  refine A_seq fun K1 hK1 => ?_
  refine A_reg ?_
  refine r_v (Value.bool (false)) rfl rfl rfl rfl ?_
  refine lx_nil ?_
  refine hK1 _ _ ?_; try clear hK1 K1
  refine A_seq fun K2 hK2 => ?_
  refine A_seq fun K3 hK3 => ?_
  refine A_reg ?_
  refine r_v (bv) rfl rfl rfl rfl ?_
  refine r_v (Value.int .i64 (((b).length : Int))) rfl rfl rfl (ev_lenSl rfl rfl rfl (Rd.shp hb)) ?_
  refine r_v (Value.bool (decide ((((b).length : Int) : Int) > 200))) rfl rfl rfl rfl ?_
  refine lx_nil ?_
  refine hK3 _ _ ?_; try clear hK3 K3
  refine A_cond (decide ((((b).length : Int) : Int) > 200)) rfl (fun hc4 => ?_) (fun hc4 => ?_)
  · replace hM := ifp (of_decide_eq_true hc4) hM
    refine A_seq fun K5 hK5 => ?_
    refine A_reg ?_
    replace hM := bind_sm hM; obtain ⟨r6, hr7, hM⟩ := hM
    refine r_c (Value.bool (r6)) rfl _ _ (ev_callF rfl call_9 rfl) (shunterlaw03_lives_g N  _ hr7) ?_
    refine r_v (Value.bool (r6)) rfl rfl rfl rfl ?_
    refine lx_nil ?_
    refine hK5 _ _ ?_; try clear hK5 K5
    obtain rfl := Option.some.inj hM
    refine A_ret (fun hn => endsV (v0 := Value.bool (r6)) rfl (res1 rfl))
  · replace hM := ifn (of_decide_eq_false hc4) hM
    refine A_skip ?_
    refine hK2 _ _ ?_; try clear hK2 K2
    refine A_seq fun K8 hK8 => ?_
    refine A_regC [(some 19, false)] (conG Try.prog [(19, fun v_ L_ U_ => ∀ u0_, bits_Get_m N b at' w = some u0_ → (pV (Value.tuple #[Value.agg #[Value.int .i64 (u0_.1), U (hi (u0_.2.1)), U (lo (u0_.2.1))], Value.int .i64 (u0_.2.2)])) v_ L_ U_)]) ?_
    refine r_v (bv) rfl rfl rfl rfl ?_
    refine r_v (Value.int .i64 (at')) rfl rfl rfl rfl ?_
    refine r_v (Value.int .i64 (w)) rfl rfl rfl rfl ?_
    replace hM := bind_sm hM; obtain ⟨r9, hr10, hM⟩ := hM
    refine r_gv (Value.tuple #[Value.agg #[Value.int .i64 (r9.1), U (hi (r9.2.1)), U (lo (r9.2.1))], Value.int .i64 (r9.2.2)]) 10 _ rfl rfl rfl (ev_callF rfl call_10 rfl) (fun own_ nw_ hs_ => bits_Get_g N b at' w _ hr10 hs_.view bv ((rd_ro hb) own_ nw_ hs_)) (fun _ _ v_ L_ U_ => ⟨fun h_ => h_ _ hr10, fun h_ => by intro _ e_; cases Option.some.inj (e_.symm.trans hr10); exact h_⟩) ?_
    refine r_v (Value.tuple #[Value.agg #[Value.int .i64 (r9.1), U (hi (r9.2.1)), U (lo (r9.2.1))], Value.int .i64 (r9.2.2)]) rfl rfl rfl rfl ?_
    refine r_v (Value.agg #[Value.int .i64 (r9.1), U (hi (r9.2.1)), U (lo (r9.2.1))]) rfl rfl rfl rfl ?_
    refine r_v (Value.int .i64 (r9.2.2)) rfl rfl rfl rfl ?_
    refine r_a (26, #[Value.int .i64 (0), U (0#64), U (0#64)]) rfl rfl rfl (fun b11 => ?_) (.inr rfl)
    refine r_s [(b11, 26, #[Value.int .i64 (r9.1), U (hi (r9.2.1)), U (lo (r9.2.1))])] 0 _ _ _ (#[Value.int .i64 (0), U (0#64), U (0#64)]) (#[Value.int .i64 (r9.1), U (hi (r9.2.1)), U (lo (r9.2.1))]) (#[Value.int .i64 (r9.1), U (hi (r9.2.1)), U (lo (r9.2.1))]) rfl rfl rfl rfl (.of rfl rfl) rfl rfl ?_
    refine r_v (Value.int .i64 (r9.2.2)) rfl rfl rfl rfl ?_
    refine lx_nil ?_
    refine hK8 _ _ ?_; try clear hK8 K8
    refine A_seq fun K12 hK12 => ?_
    refine A_regC [(some 26, false)] (conG Try.prog [(26, fun v_ L_ U_ => ∀ u0_, shunterref03_Get_m N b at' w = some u0_ → (pV (Value.tuple #[Value.agg #[Value.int .i64 (u0_.1), U (hi (u0_.2.1)), U (lo (u0_.2.1))], Value.int .i64 (u0_.2.2)])) v_ L_ U_)]) ?_
    refine r_v (bv) rfl rfl rfl rfl ?_
    refine r_v (Value.int .i64 (at')) rfl rfl rfl rfl ?_
    refine r_v (Value.int .i64 (w)) rfl rfl rfl rfl ?_
    replace hM := bind_sm hM; obtain ⟨r13, hr14, hM⟩ := hM
    refine r_gv (Value.tuple #[Value.agg #[Value.int .i64 (r13.1), U (hi (r13.2.1)), U (lo (r13.2.1))], Value.int .i64 (r13.2.2)]) 11 _ rfl rfl rfl (ev_callF rfl call_11 rfl) (fun own_ nw_ hs_ => shunterref03_Get_g N b at' w _ hr14 hs_.view bv ((rd_ro hb) own_ nw_ hs_)) (fun _ _ v_ L_ U_ => ⟨fun h_ => h_ _ hr14, fun h_ => by intro _ e_; cases Option.some.inj (e_.symm.trans hr14); exact h_⟩) ?_
    refine r_v (Value.tuple #[Value.agg #[Value.int .i64 (r13.1), U (hi (r13.2.1)), U (lo (r13.2.1))], Value.int .i64 (r13.2.2)]) rfl rfl rfl rfl ?_
    refine r_v (Value.agg #[Value.int .i64 (r13.1), U (hi (r13.2.1)), U (lo (r13.2.1))]) rfl rfl rfl rfl ?_
    refine r_v (Value.int .i64 (r13.2.2)) rfl rfl rfl rfl ?_
    refine r_a (26, #[Value.int .i64 (0), U (0#64), U (0#64)]) rfl rfl rfl (fun b15 => ?_) (.inr rfl)
    refine r_s [(b15, 26, #[Value.int .i64 (r13.1), U (hi (r13.2.1)), U (lo (r13.2.1))]), (b11, 26, #[Value.int .i64 (r9.1), U (hi (r9.2.1)), U (lo (r9.2.1))])] 0 _ _ _ (#[Value.int .i64 (0), U (0#64), U (0#64)]) (#[Value.int .i64 (r13.1), U (hi (r13.2.1)), U (lo (r13.2.1))]) (#[Value.int .i64 (r13.1), U (hi (r13.2.1)), U (lo (r13.2.1))]) rfl rfl rfl rfl (.of rfl rfl) rfl rfl ?_
    refine r_v (Value.int .i64 (r13.2.2)) rfl rfl rfl rfl ?_
    refine lx_nil ?_
    refine hK12 _ _ ?_; try clear hK12 K12
    refine A_seq fun K16 hK16 => ?_
    refine A_reg ?_
    refine r_l (Value.agg #[Value.int .i64 (r9.1), U (hi (r9.2.1)), U (lo (r9.2.1))]) 1 _ _ _ _ rfl rfl rfl rfl rfl ?_
    refine r_l (Value.agg #[Value.int .i64 (r13.1), U (hi (r13.2.1)), U (lo (r13.2.1))]) 0 _ _ _ _ rfl rfl rfl rfl rfl ?_
    refine r_v (Value.bool (((r9.1) == (r13.1)) && ((r9.2.1) == (r13.2.1)))) rfl rfl rfl (ev_binEq rfl rfl eg_26 (eqst_26 (r9.1) (r13.1) (r9.2.1) (r13.2.1))) ?_
    refine r_v (Value.bool (((r9.1) == (r13.1)) && ((r9.2.1) == (r13.2.1)))) rfl rfl rfl rfl ?_
    rcases hg17 : (((r9.1) == (r13.1)) && ((r9.2.1) == (r13.2.1))) with _ | _
    · replace hM := ifn (Bool.eq_false_iff.1 hg17) hM
      refine r_n false rfl (by decide) rfl ?_
      refine r_n false rfl (by decide) rfl ?_
      refine r_n false rfl (by decide) rfl ?_
      refine r_v (Value.bool (false)) rfl rfl rfl rfl ?_
      refine r_v (Value.bool (false)) rfl rfl rfl rfl ?_
      refine r_n false rfl (by decide) rfl ?_
      refine r_v (Value.bool (false)) rfl rfl rfl rfl ?_
      refine r_v (Value.bool (false)) rfl rfl rfl rfl ?_
      refine lx_nil ?_
      refine hK16 _ _ ?_; try clear hK16 K16
      refine A_gen [(6, Value.bool (false))] rfl (fun T => ?_)
      obtain rfl := Option.some.inj hM
      refine A_ret (fun hn => endsV (v0 := Value.bool (false)) rfl (res1 rfl))
    · replace hM := ifp hg17 hM
      refine r_y rfl ?_
      refine r_v (Value.int .i64 (r9.2.2)) rfl rfl rfl rfl ?_
      refine r_y rfl ?_
      refine r_v (Value.int .i64 (r13.2.2)) rfl rfl rfl rfl ?_
      refine r_y rfl ?_
      refine r_v (Value.bool (((r9.2.2 : Int) == r13.2.2))) rfl rfl rfl rfl ?_
      refine r_v (Value.bool (((r9.2.2 : Int) == r13.2.2))) rfl rfl rfl rfl ?_
      refine r_v (Value.bool (((r9.2.2 : Int) == r13.2.2))) rfl rfl rfl rfl ?_
      rcases hg18 : (((r9.2.2 : Int) == r13.2.2)) with _ | _
      · replace hM := ifn (ne_of_beq_false hg18) hM
        refine r_n false rfl (by decide) rfl ?_
        refine r_v (Value.bool (false)) rfl rfl rfl rfl ?_
        refine r_v (Value.bool (false)) rfl rfl rfl rfl ?_
        refine lx_nil ?_
        refine hK16 _ _ ?_; try clear hK16 K16
        refine A_gen [(6, Value.bool (false))] rfl (fun T => ?_)
        obtain rfl := Option.some.inj hM
        refine A_ret (fun hn => endsV (v0 := Value.bool (false)) rfl (res1 rfl))
      · replace hM := ifp (eq_of_beq hg18) hM
        refine r_y rfl ?_
        replace hM := bind_sm hM; obtain ⟨r19, hr20, hM⟩ := hM
        refine r_c (Value.bool (r19)) rfl _ _ (ev_callF rfl call_9 rfl) (shunterlaw03_lives_g N  _ hr20) ?_
        refine r_v (Value.bool (r19)) rfl rfl rfl rfl ?_
        refine r_v (Value.bool (r19)) rfl rfl rfl rfl ?_
        refine lx_nil ?_
        refine hK16 _ _ ?_; try clear hK16 K16
        refine A_gen [(6, Value.bool (r19))] rfl (fun T => ?_)
        obtain rfl := Option.some.inj hM
        refine A_ret (fun hn => endsV (v0 := Value.bool (r19)) rfl (res1 rfl))
end Go.Proofs.Ytmiabhodfcidcaa
