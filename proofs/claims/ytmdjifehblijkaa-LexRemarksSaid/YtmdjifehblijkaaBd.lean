/- models of functions and their walks -/
import Derived.Test.YtmdjifehblijkaaBc
namespace Go.Proofs.Ytmdjifehblijkaa
open Go Go.RowKit Go.Eng
def lex_Why_v1_m (_ : Nat) : Option (Int × Int) := some (0, 0)
set_option maxRecDepth 100000 in
set_option maxHeartbeats 8000000 in
theorem lex_Why_v1_g (N : Nat) (r : Int × Int) (hM : lex_Why_v1_m N = some r) : Gives Try.prog 8 #[Value.nilIface] (Value.tuple #[Value.int .i64 (r.1), Value.int .i64 (r.2)]) := by
  unfold lex_Why_v1_m at hM
  refine gives_of_A follows Try.func8 rfl 27 rfl (upd (fun _ => undef) 0 (Value.nilIface)) (by funext k; match k with | 0 => rfl | k + 1 => rfl) (fun base0_ => ?_)
  refine A_seq fun K1 hK1 => ?_
  refine A_reg ?_
  refine r_v (Value.int .i64 (0)) rfl rfl rfl rfl ?_
  refine r_v (Value.int .i64 (0)) rfl rfl rfl rfl ?_
  refine lx_nil ?_
  refine hK1 _ _ ?_; try clear hK1 K1
  refine A_seq fun K2 hK2 => ?_
  refine A_seq fun K3 hK3 => ?_
  refine A_reg ?_
  refine r_v (Value.nilIface) rfl rfl rfl rfl ?_
  refine r_v (Value.bool (true)) rfl rfl rfl rfl ?_
  refine lx_nil ?_
  refine hK3 _ _ ?_; try clear hK3 K3
  refine A_cond true rfl (fun _ => ?_) (fun h_ => nomatch h_)
  refine A_seq fun K4 hK4 => ?_
  refine A_reg ?_
  refine r_v (Value.int .i64 (0)) rfl rfl rfl rfl ?_
  refine r_v (Value.int .i64 (0)) rfl rfl rfl rfl ?_
  refine lx_nil ?_
  refine hK4 _ _ ?_; try clear hK4 K4
  obtain rfl := Option.some.inj hM
  refine A_ret (fun hn => ends_eq (v0 := Value.tuple #[Value.int .i64 (0), Value.int .i64 (0)]) rfl (res2 rfl rfl))
def shunterlaw06_alike_m (_ : Nat) (a_0 : Int) (a_1 : List UInt8) (a_2 : Int) (a_3 : Int) (a_4 : BitVec 128) (_ : Int) (b_0 : Int) (b_1 : List UInt8) (b_2 : Int) (b_3 : Int) (b_4 : BitVec 128) (_ : Int) : Option (Bool) := if (a_0 : Int) = b_0 then if (a_1) = (b_1) then if (a_2 : Int) = b_2 then some (((a_3) == (b_3)) && ((a_4) == (b_4))) else some (false) else some (false) else some (false)
set_option maxRecDepth 100000 in
set_option maxHeartbeats 8000000 in
theorem shunterlaw06_alike_g (N : Nat) (a_0 : Int) (a_1 : List UInt8) (a_2 : Int) (a_3 : Int) (a_4 : BitVec 128) (a_5 : Int) (b_0 : Int) (b_1 : List UInt8) (b_2 : Int) (b_3 : Int) (b_4 : BitVec 128) (b_5 : Int) (r : Bool) (hM : shunterlaw06_alike_m N a_0 a_1 a_2 a_3 a_4 a_5 b_0 b_1 b_2 b_3 b_4 b_5 = some r) : Gives Try.prog 9 #[Value.agg #[Value.int .i64 (a_0), Value.string (⟨(a_1).toArray⟩), Value.int .i64 (a_2), Value.int .i64 (a_3), U (hi (a_4)), U (lo (a_4)), Value.int .i64 (a_5)], Value.agg #[Value.int .i64 (b_0), Value.string (⟨(b_1).toArray⟩), Value.int .i64 (b_2), Value.int .i64 (b_3), U (hi (b_4)), U (lo (b_4)), Value.int .i64 (b_5)]] (Value.bool (r)) := by
  unfold shunterlaw06_alike_m at hM
  refine gives_of_A follows Try.func9 rfl 31 rfl (upd (upd (fun _ => undef) 1 (Value.agg #[Value.int .i64 (b_0), Value.string (⟨(b_1).toArray⟩), Value.int .i64 (b_2), Value.int .i64 (b_3), U (hi (b_4)), U (lo (b_4)), Value.int .i64 (b_5)])) 0 (Value.agg #[Value.int .i64 (a_0), Value.string (⟨(a_1).toArray⟩), Value.int .i64 (a_2), Value.int .i64 (a_3), U (hi (a_4)), U (lo (a_4)), Value.int .i64 (a_5)])) (by funext k; match k with | 0 => rfl | 1 => rfl | k + 2 => rfl) (fun base0_ => ?_)
  refine A_seq fun K1 hK1 => ?_
  refine A_reg ?_
  refine r_a (40, #[Value.int .i64 (a_0), Value.string (⟨(a_1).toArray⟩), Value.int .i64 (a_2), Value.int .i64 (a_3), U (hi (a_4)), U (lo (a_4)), Value.int .i64 (a_5)]) rfl rfl rfl (fun b2 => ?_) (.inr rfl)
  refine r_a (42, #[Value.int .i64 (b_0), Value.string (⟨(b_1).toArray⟩), Value.int .i64 (b_2), Value.int .i64 (b_3), U (hi (b_4)), U (lo (b_4)), Value.int .i64 (b_5)]) rfl rfl rfl (fun b3 => ?_) (.inr rfl)
  refine r_v (Value.bool (false)) rfl rfl rfl rfl ?_
  refine lx_nil ?_
  refine hK1 _ _ ?_; try clear hK1 K1
  refine A_seq fun K4 hK4 => ?_
  refine A_reg ?_
  refine r_v (Value.pointer (some ⟨b2, 0, none⟩)) rfl rfl rfl rfl ?_
  refine r_l (Value.int .i64 (a_0)) 1 _ _ _ _ rfl rfl rfl rfl rfl ?_
  refine r_v (Value.pointer (some ⟨b3, 0, none⟩)) rfl rfl rfl rfl ?_
  refine r_l (Value.int .i64 (b_0)) 0 _ _ _ _ rfl rfl rfl rfl rfl ?_
  refine r_v (Value.bool (((a_0 : Int) == b_0))) rfl rfl rfl rfl ?_
  refine r_v (Value.bool (((a_0 : Int) == b_0))) rfl rfl rfl rfl ?_
  rcases hg5 : (((a_0 : Int) == b_0)) with _ | _
  · replace hM := ifn (ne_of_beq_false hg5) hM
    refine r_n false rfl (by decide) rfl ?_
    refine r_n false rfl (by decide) rfl ?_
    refine r_n false rfl (by decide) rfl ?_
    refine r_n false rfl (by decide) rfl ?_
    refine r_n false rfl (by decide) rfl ?_
    refine r_v (Value.bool (false)) rfl rfl rfl rfl ?_
    refine r_v (Value.bool (false)) rfl rfl rfl rfl ?_
    refine r_n false rfl (by decide) rfl ?_
    refine r_n false rfl (by decide) rfl ?_
    refine r_n false rfl (by decide) rfl ?_
    refine r_n false rfl (by decide) rfl ?_
    refine r_n false rfl (by decide) rfl ?_
    refine r_v (Value.bool (false)) rfl rfl rfl rfl ?_
    refine r_v (Value.bool (false)) rfl rfl rfl rfl ?_
    refine r_n false rfl (by decide) rfl ?_
    refine r_n false rfl (by decide) rfl ?_
    refine r_n false rfl (by decide) rfl ?_
    refine r_n false rfl (by decide) rfl ?_
    refine r_n false rfl (by decide) rfl ?_
    refine r_v (Value.bool (false)) rfl rfl rfl rfl ?_
    refine r_v (Value.bool (false)) rfl rfl rfl rfl ?_
    refine lx_nil ?_
    refine hK4 _ _ ?_; try clear hK4 K4
    refine A_gen [(4, Value.bool (false))] rfl (fun T => ?_)
    obtain rfl := Option.some.inj hM
    refine A_ret (fun hn => ends_eq (v0 := Value.bool (false)) rfl (res1 rfl))
  · replace hM := ifp (eq_of_beq hg5) hM
    refine r_y rfl ?_
    refine r_v (Value.pointer (some ⟨b2, 1, none⟩)) rfl rfl rfl rfl ?_
    refine r_y rfl ?_
    refine r_l (Value.string (⟨(a_1).toArray⟩)) 1 _ _ _ _ rfl rfl rfl rfl rfl ?_
    refine r_y rfl ?_
    refine r_v (Value.pointer (some ⟨b3, 1, none⟩)) rfl rfl rfl rfl ?_
    refine r_y rfl ?_
    refine r_l (Value.string (⟨(b_1).toArray⟩)) 0 _ _ _ _ rfl rfl rfl rfl rfl ?_
    refine r_y rfl ?_
    refine r_v (Value.bool ((a_1) == (b_1))) rfl rfl rfl (ev_eqS rfl rfl) ?_
    refine r_v (Value.bool ((a_1) == (b_1))) rfl rfl rfl rfl ?_
    refine r_v (Value.bool ((a_1) == (b_1))) rfl rfl rfl rfl ?_
    rcases hg6 : ((a_1) == (b_1)) with _ | _
    · replace hM := ifn (ne_of_beq_false hg6) hM
      refine r_n false rfl (by decide) rfl ?_
      refine r_n false rfl (by decide) rfl ?_
      refine r_n false rfl (by decide) rfl ?_
      refine r_n false rfl (by decide) rfl ?_
      refine r_n false rfl (by decide) rfl ?_
      refine r_v (Value.bool (false)) rfl rfl rfl rfl ?_
      refine r_v (Value.bool (false)) rfl rfl rfl rfl ?_
      refine r_n false rfl (by decide) rfl ?_
      refine r_n false rfl (by decide) rfl ?_
      refine r_n false rfl (by decide) rfl ?_
      refine r_n false rfl (by decide) rfl ?_
      refine r_n false rfl (by decide) rfl ?_
      refine r_v (Value.bool (false)) rfl rfl rfl rfl ?_
      refine r_v (Value.bool (false)) rfl rfl rfl rfl ?_
      refine lx_nil ?_
      refine hK4 _ _ ?_; try clear hK4 K4
      refine A_gen [(4, Value.bool (false))] rfl (fun T => ?_)
      obtain rfl := Option.some.inj hM
      refine A_ret (fun hn => ends_eq (v0 := Value.bool (false)) rfl (res1 rfl))
    · replace hM := ifp (eq_of_beq hg6) hM
      refine r_y rfl ?_
      refine r_v (Value.pointer (some ⟨b2, 2, none⟩)) rfl rfl rfl rfl ?_
      refine r_y rfl ?_
      refine r_l (Value.int .i64 (a_2)) 1 _ _ _ _ rfl rfl rfl rfl rfl ?_
      refine r_y rfl ?_
      refine r_v (Value.pointer (some ⟨b3, 2, none⟩)) rfl rfl rfl rfl ?_
      refine r_y rfl ?_
      refine r_l (Value.int .i64 (b_2)) 0 _ _ _ _ rfl rfl rfl rfl rfl ?_
      refine r_y rfl ?_
      refine r_v (Value.bool (((a_2 : Int) == b_2))) rfl rfl rfl rfl ?_
      refine r_v (Value.bool (((a_2 : Int) == b_2))) rfl rfl rfl rfl ?_
      refine r_v (Value.bool (((a_2 : Int) == b_2))) rfl rfl rfl rfl ?_
      rcases hg7 : (((a_2 : Int) == b_2)) with _ | _
      · replace hM := ifn (ne_of_beq_false hg7) hM
        refine r_n false rfl (by decide) rfl ?_
        refine r_n false rfl (by decide) rfl ?_
        refine r_n false rfl (by decide) rfl ?_
        refine r_n false rfl (by decide) rfl ?_
        refine r_n false rfl (by decide) rfl ?_
        refine r_v (Value.bool (false)) rfl rfl rfl rfl ?_
        refine r_v (Value.bool (false)) rfl rfl rfl rfl ?_
        refine lx_nil ?_
        refine hK4 _ _ ?_; try clear hK4 K4
        refine A_gen [(4, Value.bool (false))] rfl (fun T => ?_)
        obtain rfl := Option.some.inj hM
        refine A_ret (fun hn => ends_eq (v0 := Value.bool (false)) rfl (res1 rfl))
      · replace hM := ifp (eq_of_beq hg7) hM
        refine r_y rfl ?_
        refine r_v (Value.pointer (some ⟨b2, 3, none⟩)) rfl rfl rfl rfl ?_
        refine r_y rfl ?_
        refine r_l (Value.agg #[Value.int .i64 (a_3), U (hi (a_4)), U (lo (a_4))]) 1 _ _ _ _ rfl rfl rfl rfl rfl ?_
        refine r_y rfl ?_
        refine r_v (Value.pointer (some ⟨b3, 3, none⟩)) rfl rfl rfl rfl ?_
        refine r_y rfl ?_
        refine r_l (Value.agg #[Value.int .i64 (b_3), U (hi (b_4)), U (lo (b_4))]) 0 _ _ _ _ rfl rfl rfl rfl rfl ?_
        refine r_y rfl ?_
        refine r_v (Value.bool (((a_3) == (b_3)) && ((a_4) == (b_4)))) rfl rfl rfl (ev_binEq rfl rfl eg_38 (eqst_38 (a_3) (b_3) (a_4) (b_4))) ?_
        refine r_v (Value.bool (((a_3) == (b_3)) && ((a_4) == (b_4)))) rfl rfl rfl rfl ?_
        refine r_v (Value.bool (((a_3) == (b_3)) && ((a_4) == (b_4)))) rfl rfl rfl rfl ?_
        refine lx_nil ?_
        refine hK4 _ _ ?_; try clear hK4 K4
        refine A_gen [(4, Value.bool (((a_3) == (b_3)) && ((a_4) == (b_4))))] rfl (fun T => ?_)
        obtain rfl := Option.some.inj hM
        refine A_ret (fun hn => ends_eq (v0 := Value.bool (((a_3) == (b_3)) && ((a_4) == (b_4)))) rfl (res1 rfl))
def lex_asFault_v1_m (_ : Nat) (_ : Int) (_ : Int) : Option (Bool) := some (true)
set_option maxRecDepth 100000 in
set_option maxHeartbeats 8000000 in
theorem lex_asFault_v1_g (N : Nat) (err_0 : Int) (err_1 : Int) (r : Bool) (hM : lex_asFault_v1_m N err_0 err_1 = some r) (ro : Addr → Option Value) (berr : Nat) (_hberr : Blk ro berr [Value.int .i64 (err_0), Value.int .i64 (err_1)]) : Does Try.prog 20 #[Value.iface 45 (Value.pointer (some ⟨berr, 0, none⟩))] ro [] (pV (Value.tuple #[Value.pointer (some ⟨berr, 0, none⟩), Value.bool (r)])) := by
  unfold lex_asFault_v1_m at hM
  refine does_of_A follows Try.func20 rfl 13 rfl (upd (fun _ => undef) 0 (Value.iface 45 (Value.pointer (some ⟨berr, 0, none⟩)))) (by funext k; match k with | 0 => rfl | k + 1 => rfl) (fun base0_ => ?_)
  refine A_seq fun K1 hK1 => ?_
  refine A_reg ?_
  refine r_v (Value.pointer none) rfl rfl rfl rfl ?_
  refine r_v (Value.bool (false)) rfl rfl rfl rfl ?_
  refine lx_nil ?_
  refine hK1 _ _ ?_; try clear hK1 K1
  refine A_seq fun K2 hK2 => ?_
  refine A_reg ?_
  refine r_v (Value.iface 45 (Value.pointer (some ⟨berr, 0, none⟩))) rfl rfl rfl rfl ?_
  refine r_v (Value.tuple #[Value.pointer (some ⟨berr, 0, none⟩), Value.bool (true)]) rfl rfl rfl rfl ?_
  refine r_v (Value.tuple #[Value.pointer (some ⟨berr, 0, none⟩), Value.bool (true)]) rfl rfl rfl rfl ?_
  refine r_v (Value.pointer (some ⟨berr, 0, none⟩)) rfl rfl rfl rfl ?_
  refine r_v (Value.bool (true)) rfl rfl rfl rfl ?_
  refine r_v (Value.pointer (some ⟨berr, 0, none⟩)) rfl rfl rfl rfl ?_
  refine r_v (Value.bool (true)) rfl rfl rfl rfl ?_
  refine lx_nil ?_
  refine hK2 _ _ ?_; try clear hK2 K2
  refine A_seq fun K3 hK3 => ?_
  refine A_reg ?_
  refine r_v (Value.pointer (some ⟨berr, 0, none⟩)) rfl rfl rfl rfl ?_
  refine r_v (Value.bool (true)) rfl rfl rfl rfl ?_
  refine r_v (Value.pointer (some ⟨berr, 0, none⟩)) rfl rfl rfl rfl ?_
  refine r_v (Value.bool (true)) rfl rfl rfl rfl ?_
  refine lx_nil ?_
  refine hK3 _ _ ?_; try clear hK3 K3
  obtain rfl := Option.some.inj hM
  refine A_ret (fun hn => endsV (v0 := Value.tuple #[Value.pointer (some ⟨berr, 0, none⟩), Value.bool (true)]) rfl (res2 rfl rfl))
def lex_Why_v2_m (N : Nat) (err_0 : Int) (err_1 : Int) : Option (Int × Int) := (lex_asFault_v1_m N err_0 err_1).bind fun r5 => if (r5) = true then some (err_0, err_1) else some (10, 0)
set_option maxRecDepth 100000 in
set_option maxHeartbeats 8000000 in
theorem lex_Why_v2_g (N : Nat) (err_0 : Int) (err_1 : Int) (r : Int × Int) (hM : lex_Why_v2_m N err_0 err_1 = some r) (ro : Addr → Option Value) (berr : Nat) (hberr : Blk ro berr [Value.int .i64 (err_0), Value.int .i64 (err_1)]) : Does Try.prog 8 #[Value.iface 45 (Value.pointer (some ⟨berr, 0, none⟩))] ro [] (pV (Value.tuple #[Value.int .i64 (r.1), Value.int .i64 (r.2)])) := by
  unfold lex_Why_v2_m at hM
  refine does_of_A follows Try.func8 rfl 27 rfl (upd (fun _ => undef) 0 (Value.iface 45 (Value.pointer (some ⟨berr, 0, none⟩)))) (by funext k; match k with | 0 => rfl | k + 1 => rfl) (fun base0_ => ?_)
  refine A_seq fun K1 hK1 => ?_
  refine A_reg ?_
  refine r_v (Value.int .i64 (0)) rfl rfl rfl rfl ?_
  refine r_v (Value.int .i64 (0)) rfl rfl rfl rfl ?_
  refine lx_nil ?_
  refine hK1 _ _ ?_; try clear hK1 K1
  refine A_seq fun K2 hK2 => ?_
  refine A_seq fun K3 hK3 => ?_
  refine A_reg ?_
  refine r_v (Value.iface 45 (Value.pointer (some ⟨berr, 0, none⟩))) rfl rfl rfl rfl ?_
  refine r_v (Value.bool (false)) rfl rfl rfl rfl ?_
  refine lx_nil ?_
  refine hK3 _ _ ?_; try clear hK3 K3
  refine A_cond false rfl (fun h_ => nomatch h_) (fun _ => ?_)
  refine A_skip ?_
  refine hK2 _ _ ?_; try clear hK2 K2
  refine A_seq fun K4 hK4 => ?_
  refine A_regC [(some 10, false)] (conG Try.prog [(10, fun v_ L_ U_ => ∀ u0_, lex_asFault_v1_m N err_0 err_1 = some u0_ → (pV (Value.tuple #[Value.pointer (some ⟨berr, 0, none⟩), Value.bool (u0_)])) v_ L_ U_)]) ?_
  refine r_v (Value.iface 45 (Value.pointer (some ⟨berr, 0, none⟩))) rfl rfl rfl rfl ?_
  replace hM := bind_sm hM; obtain ⟨r5, hr6, hM⟩ := hM
  refine r_gv (Value.tuple #[Value.pointer (some ⟨berr, 0, none⟩), Value.bool (r5)]) 20 _ rfl rfl rfl (ev_callF rfl call_20 rfl) (fun own_ nw_ hs_ => lex_asFault_v1_g N err_0 err_1 _ hr6 hs_.view berr (blk_ro hberr own_ nw_ hs_)) (fun _ _ v_ L_ U_ => ⟨fun h_ => h_ _ hr6, fun h_ => by intro _ e_; cases Option.some.inj (e_.symm.trans hr6); exact h_⟩) ?_
  refine r_v (Value.tuple #[Value.pointer (some ⟨berr, 0, none⟩), Value.bool (r5)]) rfl rfl rfl rfl ?_
  refine r_v (Value.pointer (some ⟨berr, 0, none⟩)) rfl rfl rfl rfl ?_
  refine r_v (Value.bool (r5)) rfl rfl rfl rfl ?_
  refine r_v (Value.pointer (some ⟨berr, 0, none⟩)) rfl rfl rfl rfl ?_
  refine r_v (Value.bool (r5)) rfl rfl rfl rfl ?_
  refine lx_nil ?_
  refine hK4 _ _ ?_; try clear hK4 K4
  refine A_seq fun K7 hK7 => ?_
  refine A_block ?_
  refine A_seq fun K8 hK8 => ?_
  refine A_reg ?_
  refine r_v (Value.bool (r5)) rfl rfl rfl rfl ?_
  refine r_v (Value.bool (!(r5))) rfl rfl rfl rfl ?_
  refine r_v (Value.bool (!(r5))) rfl rfl rfl rfl ?_
  refine lx_nil ?_
  refine hK8 _ _ ?_; try clear hK8 K8
  refine A_cond (!(r5)) rfl (fun hc9 => ?_) (fun hc9 => ?_)
  · replace hM := ifn (Bool.eq_false_iff.1 (not_t hc9)) hM
    refine A_seq fun K10 hK10 => ?_
    refine A_reg ?_
    refine r_v (Value.int .i64 (10)) rfl rfl rfl rfl ?_
    refine r_v (Value.int .i64 (0)) rfl rfl rfl rfl ?_
    refine lx_nil ?_
    refine hK10 _ _ ?_; try clear hK10 K10
    obtain rfl := Option.some.inj hM
    refine A_ret (fun hn => endsV (v0 := Value.tuple #[Value.int .i64 (10), Value.int .i64 (0)]) rfl (res2 rfl rfl))
  · replace hM := ifp (not_f hc9) hM
    refine A_seq fun K11 hK11 => ?_
    refine A_reg ?_
    refine r_v (Value.pointer (some ⟨berr, 0, none⟩)) rfl rfl rfl rfl ?_
    refine r_v (Value.bool (false)) rfl rfl rfl rfl ?_
    refine r_v (Value.bool (false)) rfl rfl rfl rfl ?_
    refine lx_nil ?_
    refine hK11 _ _ ?_; try clear hK11 K11
    refine A_cond false rfl (fun h_ => nomatch h_) (fun _ => ?_)
    refine A_skip ?_
    refine hK7 _ _ ?_; try clear hK7 K7
    refine A_seq fun K12 hK12 => ?_
    refine A_draw [] (by decide +kernel) (fun hn => sep_nil) ?_
    refine r_v (Value.pointer (some ⟨berr, 0, none⟩)) rfl rfl rfl rfl ?_
    refine r_v (Value.pointer (some ⟨berr, 0, none⟩)) rfl rfl rfl rfl ?_
    refine r_v (Value.pointer (some ⟨berr, 0, none⟩)) rfl rfl rfl rfl ?_
    refine r_lb (Value.int .i64 (err_0)) (vs := [Value.int .i64 (err_0), Value.int .i64 (err_1)]) (o := 0) rfl rfl (blk_ro hberr) rfl ?_
    refine r_v (Value.pointer (some ⟨berr, 0, none⟩)) rfl rfl rfl rfl ?_
    refine r_v (Value.pointer (some ⟨berr, 0, none⟩)) rfl rfl rfl rfl ?_
    refine r_v (Value.pointer (some ⟨berr, 1, none⟩)) rfl rfl rfl rfl ?_
    refine r_lb (Value.int .i64 (err_1)) (vs := [Value.int .i64 (err_0), Value.int .i64 (err_1)]) (o := 1) rfl rfl (blk_ro hberr) rfl ?_
    refine r_v (Value.int .i64 (err_0)) rfl rfl rfl rfl ?_
    refine r_v (Value.int .i64 (err_1)) rfl rfl rfl rfl ?_
    refine lx_nil ?_
    refine hK12 _ _ ?_; try clear hK12 K12
    obtain rfl := Option.some.inj hM
    refine A_ret (fun hn => endsV (v0 := Value.tuple #[Value.int .i64 (err_0), Value.int .i64 (err_1)]) rfl (res2 rfl rfl))
end Go.Proofs.Ytmdjifehblijkaa
