/- models of functions and their walks -/
import Derived.Test.YtmdjifehblijkaaDoorBc
namespace Go.Proofs.YtmdjifehblijkaaDoor
open Go Go.RowKit Go.Eng
def shunterlaw06_LexFaults_k3 (N : Nat) (s : List UInt8) (x9_0 : Int) (x10_1 : Int) : Option (Bool) := (lex_Only_v1_m N x9_0 x10_1).bind fun r17 => (lex_Why_v2_m N x9_0 x10_1).bind fun r20 => if (x9_0 : Int) = r20.1 then if (x10_1 : Int) = r20.2 then if (r20.1 : Int) ≠ 0 then if (r20.2 : Int) ≥ 0 then if (r20.2 : Int) ≤ ((s).length : Int) then (shunterlaw06_lives_m N ).bind fun r28 => some (r28) else some (false) else some (false) else some (false) else some (false) else some (false)
def shunterlaw06_LexFaults_k2 (N : Nat) (s : List UInt8) (x9_0 : Int) (x10_1 : Int) : Option (Bool) := (lex_Fault_Error_v1_m N ).bind fun r31 => if (r31) ≠ ([]) then some (false) else (lex_Fault_Error_v2_m N x9_0 x10_1).bind fun r34 => (shunterlaw06_digits_m N x9_0).bind fun r36 => ck (((([102, 97, 117, 108, 116, 32] : List UInt8)).length : Int) + ((r36).length : Int) ≤ 9223372036854775807) (ck ((((([102, 97, 117, 108, 116, 32] : List UInt8)) ++ (r36)).length : Int) + ((([32, 97, 116, 32] : List UInt8)).length : Int) ≤ 9223372036854775807) ((shunterlaw06_digits_m N x10_1).bind fun r40 => ck (((((([102, 97, 117, 108, 116, 32] : List UInt8)) ++ (r36)) ++ (([32, 97, 116, 32] : List UInt8))).length : Int) + ((r40).length : Int) ≤ 9223372036854775807) (if (r34) ≠ ((((([102, 97, 117, 108, 116, 32] : List UInt8)) ++ (r36)) ++ (([32, 97, 116, 32] : List UInt8))) ++ (r40)) then some (false) else shunterlaw06_LexFaults_k3 N s x9_0 x10_1 )))
def shunterlaw06_LexFaults_k1 (N : Nat) (s : List UInt8) : Option (Bool) := (lex_Scan_m N s).bind fun r3 => Sum25.on r3.2 ((lex_Why_v1_m N ).bind fun r14 => if (r14.1 : Int) = 0 then if (r14.2 : Int) = 0 then (shunterlaw06_lives_m N ).bind fun r19 => some (r19) else some (false) else some (false)) (fun x9_0 x10_1 => shunterlaw06_LexFaults_k2 N s x9_0 x10_1 )
def shunterlaw06_LexFaults_m (N : Nat) (s : List UInt8) : Option (Bool) := if (((s).length : Int) : Int) > 1500 then if (((s).length : Int) : Int) ≤ 16384 then (shunterlaw06_lives_m N ).bind fun r59 => some (r59) else if (((s).length : Int) : Int) > 20000 then (shunterlaw06_lives_m N ).bind fun r56 => some (r56) else shunterlaw06_LexFaults_k1 N s  else if (((s).length : Int) : Int) > 20000 then (shunterlaw06_lives_m N ).bind fun r51 => some (r51) else shunterlaw06_LexFaults_k1 N s 
set_option maxRecDepth 100000 in
set_option maxHeartbeats 8000000 in
theorem shunterlaw06_LexFaults_g (N : Nat) (s : List UInt8) (r : Bool) (hM : shunterlaw06_LexFaults_m N s = some r) (ro : Addr → Option Value)  : DoesI Tryd.prog 3 #[Value.string (⟨(s).toArray⟩)] MemI ro [] (pV (Value.bool (r))) := by
  unfold shunterlaw06_LexFaults_m at hM
  refine doesI_of_A follows Tryd.func3 rfl 122 rfl (upd (fun _ => undef) 0 (Value.string (⟨(s).toArray⟩))) (by funext k; match k with | 0 => rfl | k + 1 => rfl) memI_kept (fun base0_ => ?_)
  refine A_seq fun K1 hK1 => ?_
  refine A_reg ?_
  refine r_v (Value.bool (false)) rfl rfl rfl rfl ?_
  refine lx_nil ?_
  refine hK1 _ _ ?_; try clear hK1 K1
  refine A_cut (fun tt ll => (shunterlaw06_LexFaults_k1 N s  = some r) ∧ Is [(0, Value.string (⟨(s).toArray⟩))] [] tt ll) ?_ ?_
  · refine A_seq fun K47 hK47 => ?_
    refine A_reg ?_
    refine r_v (Value.string (⟨(s).toArray⟩)) rfl rfl rfl rfl ?_
    refine r_v (Value.int .i64 (((s).length : Int))) rfl rfl rfl (ev_lenS rfl rfl rfl) ?_
    refine r_v (Value.bool (decide ((((s).length : Int) : Int) > 1500))) rfl rfl rfl rfl ?_
    refine r_v (Value.bool (decide ((((s).length : Int) : Int) > 1500))) rfl rfl rfl rfl ?_
    rcases hg48 : (decide ((((s).length : Int) : Int) > 1500)) with _ | _
    · replace hM := ifn (of_decide_eq_false hg48) hM
      refine r_n false rfl (by decide) rfl ?_
      refine r_n false rfl (by decide) rfl ?_
      refine r_n false rfl (by decide) rfl ?_
      refine r_v (Value.bool (false)) rfl rfl rfl rfl ?_
      refine r_v (Value.bool (false)) rfl rfl rfl rfl ?_
      refine r_y rfl ?_
      refine r_v (Value.string (⟨(s).toArray⟩)) rfl rfl rfl rfl ?_
      refine r_y rfl ?_
      refine r_v (Value.int .i64 (((s).length : Int))) rfl rfl rfl (ev_lenS rfl rfl rfl) ?_
      refine r_y rfl ?_
      refine r_v (Value.bool (decide ((((s).length : Int) : Int) > 20000))) rfl rfl rfl rfl ?_
      refine r_v (Value.bool (decide ((((s).length : Int) : Int) > 20000))) rfl rfl rfl rfl ?_
      refine lx_nil ?_
      refine hK47 _ _ ?_; try clear hK47 K47
      refine A_cond (decide ((((s).length : Int) : Int) > 20000)) rfl (fun hc49 => ?_) (fun hc49 => ?_)
      · replace hM := ifp (of_decide_eq_true hc49) hM
        refine A_seq fun K50 hK50 => ?_
        refine A_reg ?_
        replace hM := bind_sm hM; obtain ⟨r51, hr52, hM⟩ := hM
        refine r_c (Value.bool (r51)) rfl _ _ (ev_callF rfl call_6 rfl) (shunterlaw06_lives_g N  _ hr52) ?_
        refine r_v (Value.bool (r51)) rfl rfl rfl rfl ?_
        refine lx_nil ?_
        refine hK50 _ _ ?_; try clear hK50 K50
        obtain rfl := Option.some.inj hM
        refine A_ret (fun hn => endsV (v0 := Value.bool (r51)) rfl (res1 rfl))
      · replace hM := ifn (of_decide_eq_false hc49) hM
        refine A_skip ?_
        refine fg _ (Sub.of (List.Sublist.slnil)) ?_
        exact ⟨hM, is_mk rfl rfl⟩
    · replace hM := ifp (of_decide_eq_true hg48) hM
      refine r_y rfl ?_
      refine r_v (Value.string (⟨(s).toArray⟩)) rfl rfl rfl rfl ?_
      refine r_y rfl ?_
      refine r_v (Value.int .i64 (((s).length : Int))) rfl rfl rfl (ev_lenS rfl rfl rfl) ?_
      refine r_y rfl ?_
      refine r_v (Value.bool (decide ((((s).length : Int) : Int) ≤ 16384))) rfl rfl rfl rfl ?_
      refine r_v (Value.bool (decide ((((s).length : Int) : Int) ≤ 16384))) rfl rfl rfl rfl ?_
      refine r_v (Value.bool (decide ((((s).length : Int) : Int) ≤ 16384))) rfl rfl rfl rfl ?_
      rcases hg53 : (decide ((((s).length : Int) : Int) ≤ 16384)) with _ | _
      · replace hM := ifn (of_decide_eq_false hg53) hM
        refine r_y rfl ?_
        refine r_v (Value.string (⟨(s).toArray⟩)) rfl rfl rfl rfl ?_
        refine r_y rfl ?_
        refine r_v (Value.int .i64 (((s).length : Int))) rfl rfl rfl (ev_lenS rfl rfl rfl) ?_
        refine r_y rfl ?_
        refine r_v (Value.bool (decide ((((s).length : Int) : Int) > 20000))) rfl rfl rfl rfl ?_
        refine r_v (Value.bool (decide ((((s).length : Int) : Int) > 20000))) rfl rfl rfl rfl ?_
        refine lx_nil ?_
        refine hK47 _ _ ?_; try clear hK47 K47
        refine A_cond (decide ((((s).length : Int) : Int) > 20000)) rfl (fun hc54 => ?_) (fun hc54 => ?_)
        · replace hM := ifp (of_decide_eq_true hc54) hM
          refine A_seq fun K55 hK55 => ?_
          refine A_reg ?_
          replace hM := bind_sm hM; obtain ⟨r56, hr57, hM⟩ := hM
          refine r_c (Value.bool (r56)) rfl _ _ (ev_callF rfl call_6 rfl) (shunterlaw06_lives_g N  _ hr57) ?_
          refine r_v (Value.bool (r56)) rfl rfl rfl rfl ?_
          refine lx_nil ?_
          refine hK55 _ _ ?_; try clear hK55 K55
          obtain rfl := Option.some.inj hM
          refine A_ret (fun hn => endsV (v0 := Value.bool (r56)) rfl (res1 rfl))
        · replace hM := ifn (of_decide_eq_false hc54) hM
          refine A_skip ?_
          refine fg _ (Sub.of (List.Sublist.slnil)) ?_
          exact ⟨hM, is_mk rfl rfl⟩
      · replace hM := ifp (of_decide_eq_true hg53) hM
        refine r_n true rfl (by decide) rfl ?_
        refine r_n true rfl (by decide) rfl ?_
        refine r_n true rfl (by decide) rfl ?_
        refine r_v (Value.bool (true)) rfl rfl rfl rfl ?_
        refine lx_nil ?_
        refine hK47 _ _ ?_; try clear hK47 K47
        refine A_cond true rfl (fun _ => ?_) (fun h_ => nomatch h_)
        refine A_seq fun K58 hK58 => ?_
        refine A_reg ?_
        replace hM := bind_sm hM; obtain ⟨r59, hr60, hM⟩ := hM
        refine r_c (Value.bool (r59)) rfl _ _ (ev_callF rfl call_6 rfl) (shunterlaw06_lives_g N  _ hr60) ?_
        refine r_v (Value.bool (r59)) rfl rfl rfl rfl ?_
        refine lx_nil ?_
        refine hK58 _ _ ?_; try clear hK58 K58
        obtain rfl := Option.some.inj hM
        refine A_ret (fun hn => endsV (v0 := Value.bool (r59)) rfl (res1 rfl))
  · clear hM; rintro t l ⟨hM, ⟨T, rfl⟩, rfl⟩
    unfold shunterlaw06_LexFaults_k1 at hM
    refine A_seq fun K2 hK2 => ?_
    refine A_regC [(some 29, true)] (conG Tryd.prog [(29, fun v_ L_ U_ => ∀ u0_, lex_Scan_m N s = some u0_ → (pO (List.flatten []) (oS 47 enc_47 u0_.1 fun s_0 => (Sum25.onP u0_.2 (oE (Value.tuple #[s_0, Value.nilIface]) []) (fun y0_0 y0_1 => (oB 36 #[Value.int .i64 (y0_0), Value.int .i64 (y0_1)] fun bs_0 => (oE (Value.tuple #[s_0, Value.iface 31 (Value.pointer (some ⟨bs_0, 0, none⟩))]) [])))))) v_ L_ U_)]) ?_
    refine r_v (Value.string (⟨(s).toArray⟩)) rfl rfl rfl rfl ?_
    replace hM := bind_sm hM; obtain ⟨r3, hr4, hM⟩ := hM
    refine r_gm (Ls := []) (FL := []) (RL := []) [] (oS 47 enc_47 r3.1 fun s_0 => (Sum25.onP r3.2 (oE (Value.tuple #[s_0, Value.nilIface]) []) (fun y0_0 y0_1 => (oB 36 #[Value.int .i64 (y0_0), Value.int .i64 (y0_1)] fun bs_0 => (oE (Value.tuple #[s_0, Value.iface 31 (Value.pointer (some ⟨bs_0, 0, none⟩))]) []))))) (some 29) 7 _ rfl rfl rfl rfl rfl (ev_callF rfl call_7 rfl) (fun own_ nw_ hn_ hs_ => (Does.inv (lex_Scan_g N s _ hr4 _ ) _)) (fun _ _ v_ L_ U_ => ⟨fun h_ => h_ _ hr4, fun h_ => by intro _ e_; cases Option.some.inj (e_.symm.trans hr4); exact h_⟩) (fun h_ => nomatch h_) ?_
    rintro _ _ ⟨s5, S6, _, H7, hp_, rfl⟩
    rcases Sum25.cases r3.2 with hx8 | ⟨x9_0, x10_1, hx8⟩
    · obtain ⟨rfl, rfl⟩ := Sum25.onP_nil hx8 hp_
      replace hM := Sum25.on_nil hx8 hM
      refine lx_perm (Ls := [S6]) (Ls' := [S6]) [0] rfl rfl ?_
      refine r_v (Value.tuple #[s5, Value.nilIface]) rfl rfl rfl rfl ?_
      refine r_v (s5) rfl rfl rfl rfl ?_
      refine r_v (Value.nilIface) rfl rfl rfl rfl ?_
      refine r_v (s5) rfl rfl rfl rfl ?_
      refine r_v (Value.nilIface) rfl rfl rfl rfl ?_
      refine lx_nil ?_
      refine hK2 _ _ ?_; try clear hK2 K2
      refine A_seq fun K11 hK11 => ?_
      refine A_seq fun K12 hK12 => ?_
      refine A_reg ?_
      refine r_v (Value.nilIface) rfl rfl rfl rfl ?_
      refine r_v (Value.bool (true)) rfl rfl rfl rfl ?_
      refine lx_nil ?_
      refine hK12 _ _ ?_; try clear hK12 K12
      refine A_cond true rfl (fun _ => ?_) (fun h_ => nomatch h_)
      refine A_seq fun K13 hK13 => ?_
      refine A_reg ?_
      replace hM := bind_sm hM; obtain ⟨r14, hr15, hM⟩ := hM
      refine r_c (Value.tuple #[Value.int .i64 (r14.1), Value.int .i64 (r14.2)]) rfl _ _ (ev_callF rfl call_8 rfl) (lex_Why_v1_g N  _ hr15) ?_
      refine r_v (Value.tuple #[Value.int .i64 (r14.1), Value.int .i64 (r14.2)]) rfl rfl rfl rfl ?_
      refine r_v (Value.int .i64 (r14.1)) rfl rfl rfl rfl ?_
      refine r_v (Value.int .i64 (r14.2)) rfl rfl rfl rfl ?_
      refine r_v (Value.int .i64 (r14.1)) rfl rfl rfl rfl ?_
      refine r_v (Value.int .i64 (r14.2)) rfl rfl rfl rfl ?_
      refine lx_nil ?_
      refine hK13 _ _ ?_; try clear hK13 K13
      refine A_seq fun K16 hK16 => ?_
      refine A_reg ?_
      refine r_v (Value.int .i64 (r14.1)) rfl rfl rfl rfl ?_
      refine r_v (Value.bool (((r14.1 : Int) == 0))) rfl rfl rfl rfl ?_
      refine r_v (Value.bool (((r14.1 : Int) == 0))) rfl rfl rfl rfl ?_
      rcases hg17 : (((r14.1 : Int) == 0)) with _ | _
      · replace hM := ifn (ne_of_beq_false hg17) hM
        refine r_n false rfl (by decide) rfl ?_
        refine r_n false rfl (by decide) rfl ?_
        refine r_v (Value.bool (false)) rfl rfl rfl rfl ?_
        refine r_v (Value.bool (false)) rfl rfl rfl rfl ?_
        refine r_n false rfl (by decide) rfl ?_
        refine r_v (Value.bool (false)) rfl rfl rfl rfl ?_
        refine r_v (Value.bool (false)) rfl rfl rfl rfl ?_
        refine lx_nil ?_
        refine hK16 _ _ ?_; try clear hK16 K16
        obtain rfl := Option.some.inj hM
        refine A_ret (fun hn => endsV (v0 := Value.bool (false)) rfl (res1 rfl))
      · replace hM := ifp (eq_of_beq hg17) hM
        refine r_y rfl ?_
        refine r_v (Value.int .i64 (r14.2)) rfl rfl rfl rfl ?_
        refine r_y rfl ?_
        refine r_v (Value.bool (((r14.2 : Int) == 0))) rfl rfl rfl rfl ?_
        refine r_v (Value.bool (((r14.2 : Int) == 0))) rfl rfl rfl rfl ?_
        refine r_v (Value.bool (((r14.2 : Int) == 0))) rfl rfl rfl rfl ?_
        rcases hg18 : (((r14.2 : Int) == 0)) with _ | _
        · replace hM := ifn (ne_of_beq_false hg18) hM
          refine r_n false rfl (by decide) rfl ?_
          refine r_v (Value.bool (false)) rfl rfl rfl rfl ?_
          refine r_v (Value.bool (false)) rfl rfl rfl rfl ?_
          refine lx_nil ?_
          refine hK16 _ _ ?_; try clear hK16 K16
          obtain rfl := Option.some.inj hM
          refine A_ret (fun hn => endsV (v0 := Value.bool (false)) rfl (res1 rfl))
        · replace hM := ifp (eq_of_beq hg18) hM
          refine r_y rfl ?_
          replace hM := bind_sm hM; obtain ⟨r19, hr20, hM⟩ := hM
          refine r_c (Value.bool (r19)) rfl _ _ (ev_callF rfl call_6 rfl) (shunterlaw06_lives_g N  _ hr20) ?_
          refine r_v (Value.bool (r19)) rfl rfl rfl rfl ?_
          refine r_v (Value.bool (r19)) rfl rfl rfl rfl ?_
          refine lx_nil ?_
          refine hK16 _ _ ?_; try clear hK16 K16
          obtain rfl := Option.some.inj hM
          refine A_ret (fun hn => endsV (v0 := Value.bool (r19)) rfl (res1 rfl))
    · obtain ⟨b11, _, ⟨rfl, rfl⟩, rfl⟩ := Sum25.onP_t31 hx8 hp_
      replace hM := Sum25.on_t31 hx8 hM
      refine lx_perm (Ls := [S6, [(b11, 36, #[Value.int .i64 (x9_0), Value.int .i64 (x10_1)])]]) (Ls' := [[(b11, 36, #[Value.int .i64 (x9_0), Value.int .i64 (x10_1)])], S6]) [1, 0] rfl rfl ?_
      refine r_v (Value.tuple #[s5, Value.iface 31 (Value.pointer (some ⟨b11, 0, none⟩))]) rfl rfl rfl rfl ?_
      refine r_v (s5) rfl rfl rfl rfl ?_
      refine r_v (Value.iface 31 (Value.pointer (some ⟨b11, 0, none⟩))) rfl rfl rfl rfl ?_
      refine r_v (s5) rfl rfl rfl rfl ?_
      refine r_v (Value.iface 31 (Value.pointer (some ⟨b11, 0, none⟩))) rfl rfl rfl rfl ?_
      refine lx_nil ?_
      refine hK2 _ _ ?_; try clear hK2 K2
      refine A_seq fun K12 hK12 => ?_
      refine A_seq fun K13 hK13 => ?_
      refine A_reg ?_
      refine r_v (Value.iface 31 (Value.pointer (some ⟨b11, 0, none⟩))) rfl rfl rfl rfl ?_
      refine r_v (Value.bool (false)) rfl rfl rfl rfl ?_
      refine lx_nil ?_
      refine hK13 _ _ ?_; try clear hK13 K13
      refine A_cond false rfl (fun h_ => nomatch h_) (fun _ => ?_)
      refine A_skip ?_
      refine hK12 _ _ ?_; try clear hK12 K12
      refine A_seq fun K14 hK14 => ?_
      refine A_reg ?_
      refine r_v (Value.iface 31 (Value.pointer (some ⟨b11, 0, none⟩))) rfl rfl rfl rfl ?_
      refine r_v (Value.tuple #[Value.pointer (some ⟨b11, 0, none⟩), Value.bool (true)]) rfl rfl rfl rfl ?_
      refine r_v (Value.tuple #[Value.pointer (some ⟨b11, 0, none⟩), Value.bool (true)]) rfl rfl rfl rfl ?_
      refine r_v (Value.pointer (some ⟨b11, 0, none⟩)) rfl rfl rfl rfl ?_
      refine r_v (Value.bool (true)) rfl rfl rfl rfl ?_
      refine r_v (Value.pointer (some ⟨b11, 0, none⟩)) rfl rfl rfl rfl ?_
      refine r_v (Value.bool (true)) rfl rfl rfl rfl ?_
      refine lx_nil ?_
      refine hK14 _ _ ?_; try clear hK14 K14
      refine A_cut (fun tt ll => (shunterlaw06_LexFaults_k2 N s x9_0 x10_1  = some r) ∧ Is [(0, Value.string (⟨(s).toArray⟩)), (4, Value.iface 31 (Value.pointer (some ⟨b11, 0, none⟩))), (7, Value.pointer (some ⟨b11, 0, none⟩))] [(b11, 36, #[Value.int .i64 (x9_0), Value.int .i64 (x10_1)])] tt ll) ?_ ?_
      · refine A_seq fun K46 hK46 => ?_
        refine A_reg ?_
        refine r_v (Value.bool (true)) rfl rfl rfl rfl ?_
        refine r_v (Value.bool (false)) rfl rfl rfl rfl ?_
        refine r_v (Value.bool (false)) rfl rfl rfl rfl ?_
        refine r_y rfl ?_
        refine r_v (Value.pointer (some ⟨b11, 0, none⟩)) rfl rfl rfl rfl ?_
        refine r_y rfl ?_
        refine r_v (Value.bool (false)) rfl rfl rfl rfl ?_
        refine r_v (Value.bool (false)) rfl rfl rfl rfl ?_
        refine lx_nil ?_
        refine hK46 _ _ ?_; try clear hK46 K46
        refine A_cond false rfl (fun h_ => nomatch h_) (fun _ => ?_)
        refine A_skip ?_
        refine fg _ (Sub.pick [[(b11, 36, #[Value.int .i64 (x9_0), Value.int .i64 (x10_1)])], S6] [0] rfl) ?_
        exact ⟨hM, is_mk rfl rfl⟩
      · clear hM; rintro t l ⟨hM, ⟨T, rfl⟩, rfl⟩
        unfold shunterlaw06_LexFaults_k2 at hM
        refine A_seq fun K15 hK15 => ?_
        refine A_reg ?_
        refine r_v (Value.pointer none) rfl rfl rfl rfl ?_
        refine lx_nil ?_
        refine hK15 _ _ ?_; try clear hK15 K15
        refine A_cut (fun tt ll => (shunterlaw06_LexFaults_k3 N s x9_0 x10_1  = some r) ∧ Is [(0, Value.string (⟨(s).toArray⟩)), (4, Value.iface 31 (Value.pointer (some ⟨b11, 0, none⟩))), (7, Value.pointer (some ⟨b11, 0, none⟩))] [(b11, 36, #[Value.int .i64 (x9_0), Value.int .i64 (x10_1)])] tt ll) ?_ ?_
        · refine A_seq fun K30 hK30 => ?_
          refine A_drawR [(some 59, false), (some 63, false)] (conG Tryd.prog [(59, fun v_ L_ U_ => ∀ u0_, lex_Fault_Error_v1_m N  = some u0_ → (pV (Value.string (⟨(u0_).toArray⟩))) v_ L_ U_), (63, fun v_ L_ U_ => ∀ u0_, lex_Fault_Error_v2_m N x9_0 x10_1 = some u0_ → (pV (Value.string (⟨(u0_).toArray⟩))) v_ L_ U_)]) [] (by decide +kernel) (fun hn => sep_nil) ?_
          refine r_v (Value.pointer none) rfl rfl rfl rfl ?_
          replace hM := bind_sm hM; obtain ⟨r31, hr32, hM⟩ := hM
          refine r_gv (Value.string (⟨(r31).toArray⟩)) 9 _ rfl rfl rfl (ev_callF rfl call_9 rfl) (fun own_ nw_ hs_ => lex_Fault_Error_v1_g N  _ hr32 hs_.view ) (fun _ _ v_ L_ U_ => ⟨fun h_ => h_ _ hr32, fun h_ => by intro _ e_; cases Option.some.inj (e_.symm.trans hr32); exact h_⟩) ?_
          refine r_v (Value.bool ((r31) != ([]))) rfl rfl rfl (ev_neS rfl rfl) ?_
          refine r_v (Value.bool ((r31) != ([]))) rfl rfl rfl rfl ?_
          rcases hg33 : ((r31) != ([])) with _ | _
          · replace hM := ifn (bne_f hg33) hM
            refine r_y rfl ?_
            refine r_v (Value.pointer (some ⟨b11, 0, none⟩)) rfl rfl rfl rfl ?_
            refine r_y rfl ?_
            replace hM := bind_sm hM; obtain ⟨r34, hr35, hM⟩ := hM
            refine r_gv (Value.string (⟨(r34).toArray⟩)) 9 _ rfl rfl rfl (ev_callF rfl call_9 rfl) (fun own_ nw_ hs_ => lex_Fault_Error_v2_g N x9_0 x10_1 _ hr35 hs_.view b11 (blk_own 0 rfl rfl own_ nw_ hs_)) (fun _ _ v_ L_ U_ => ⟨fun h_ => h_ _ hr35, fun h_ => by intro _ e_; cases Option.some.inj (e_.symm.trans hr35); exact h_⟩) ?_
            refine r_y rfl ?_
            refine r_v (Value.pointer (some ⟨b11, 0, none⟩)) rfl rfl rfl rfl ?_
            refine r_y rfl ?_
            refine r_v (Value.pointer (some ⟨b11, 0, none⟩)) rfl rfl rfl rfl ?_
            refine r_y rfl ?_
            refine r_v (Value.pointer (some ⟨b11, 0, none⟩)) rfl rfl rfl rfl ?_
            refine r_y rfl ?_
            refine r_l (Value.int .i64 (x9_0)) 0 _ _ _ _ rfl rfl rfl rfl rfl ?_
            refine r_y rfl ?_
            replace hM := bind_sm hM; obtain ⟨r36, hr37, hM⟩ := hM
            refine r_c (Value.string (⟨(r36).toArray⟩)) rfl _ _ (ev_callF rfl call_10 rfl) (shunterlaw06_digits_g N x9_0 _ hr37) ?_
            refine r_y rfl ?_
            replace hM := ck_some hM; obtain ⟨ck38, hM⟩ := hM
            refine r_v (Value.string (⟨((([102, 97, 117, 108, 116, 32] : List UInt8)) ++ (r36)).toArray⟩)) rfl rfl rfl (ev_addS ck38 rfl rfl) ?_
            refine r_y rfl ?_
            replace hM := ck_some hM; obtain ⟨ck39, hM⟩ := hM
            refine r_v (Value.string (⟨(((([102, 97, 117, 108, 116, 32] : List UInt8)) ++ (r36)) ++ (([32, 97, 116, 32] : List UInt8))).toArray⟩)) rfl rfl rfl (ev_addS ck39 rfl rfl) ?_
            refine r_y rfl ?_
            refine r_v (Value.pointer (some ⟨b11, 0, none⟩)) rfl rfl rfl rfl ?_
            refine r_y rfl ?_
            refine r_v (Value.pointer (some ⟨b11, 0, none⟩)) rfl rfl rfl rfl ?_
            refine r_y rfl ?_
            refine r_v (Value.pointer (some ⟨b11, 1, none⟩)) rfl rfl rfl rfl ?_
            refine r_y rfl ?_
            refine r_l (Value.int .i64 (x10_1)) 0 _ _ _ _ rfl rfl rfl rfl rfl ?_
            refine r_y rfl ?_
            replace hM := bind_sm hM; obtain ⟨r40, hr41, hM⟩ := hM
            refine r_c (Value.string (⟨(r40).toArray⟩)) rfl _ _ (ev_callF rfl call_10 rfl) (shunterlaw06_digits_g N x10_1 _ hr41) ?_
            refine r_y rfl ?_
            replace hM := ck_some hM; obtain ⟨ck42, hM⟩ := hM
            refine r_v (Value.string (⟨((((([102, 97, 117, 108, 116, 32] : List UInt8)) ++ (r36)) ++ (([32, 97, 116, 32] : List UInt8))) ++ (r40)).toArray⟩)) rfl rfl rfl (ev_addS ck42 rfl rfl) ?_
            refine r_y rfl ?_
            refine r_v (Value.bool ((r34) != ((((([102, 97, 117, 108, 116, 32] : List UInt8)) ++ (r36)) ++ (([32, 97, 116, 32] : List UInt8))) ++ (r40)))) rfl rfl rfl (ev_neS rfl rfl) ?_
            refine r_v (Value.bool ((r34) != ((((([102, 97, 117, 108, 116, 32] : List UInt8)) ++ (r36)) ++ (([32, 97, 116, 32] : List UInt8))) ++ (r40)))) rfl rfl rfl rfl ?_
            refine lx_nil ?_
            refine hK30 _ _ ?_; try clear hK30 K30
            refine A_cond ((r34) != ((((([102, 97, 117, 108, 116, 32] : List UInt8)) ++ (r36)) ++ (([32, 97, 116, 32] : List UInt8))) ++ (r40))) rfl (fun hc43 => ?_) (fun hc43 => ?_)
            · replace hM := ifp (bne_iff_ne.1 hc43) hM
              refine A_seq fun K44 hK44 => ?_
              refine A_reg ?_
              refine r_v (Value.bool (false)) rfl rfl rfl rfl ?_
              refine lx_nil ?_
              refine hK44 _ _ ?_; try clear hK44 K44
              obtain rfl := Option.some.inj hM
              refine A_ret (fun hn => endsV (v0 := Value.bool (false)) rfl (res1 rfl))
            · replace hM := ifn (bne_f hc43) hM
              refine A_skip ?_
              refine fg _ (Sub.of (List.Sublist.cons_cons _ (List.Sublist.slnil))) ?_
              exact ⟨hM, is_mk rfl rfl⟩
          · replace hM := ifp (bne_iff_ne.1 hg33) hM
            refine r_n true rfl (by decide) rfl ?_
            refine r_n true rfl (by decide) rfl ?_
            refine r_n true rfl (by decide) rfl ?_
            refine r_n true rfl (by decide) rfl ?_
            refine r_n true rfl (by decide) rfl ?_
            refine r_n true rfl (by decide) rfl ?_
            refine r_n true rfl (by decide) rfl ?_
            refine r_n true rfl (by decide) rfl ?_
            refine r_n true rfl (by decide) rfl ?_
            refine r_n true rfl (by decide) rfl ?_
            refine r_n true rfl (by decide) rfl ?_
            refine r_n true rfl (by decide) rfl ?_
            refine r_n true rfl (by decide) rfl ?_
            refine r_n true rfl (by decide) rfl ?_
            refine r_n true rfl (by decide) rfl ?_
            refine r_n true rfl (by decide) rfl ?_
            refine r_v (Value.bool (true)) rfl rfl rfl rfl ?_
            refine lx_nil ?_
            refine hK30 _ _ ?_; try clear hK30 K30
            refine A_cond true rfl (fun _ => ?_) (fun h_ => nomatch h_)
            refine A_seq fun K45 hK45 => ?_
            refine A_reg ?_
            refine r_v (Value.bool (false)) rfl rfl rfl rfl ?_
            refine lx_nil ?_
            refine hK45 _ _ ?_; try clear hK45 K45
            obtain rfl := Option.some.inj hM
            refine A_ret (fun hn => endsV (v0 := Value.bool (false)) rfl (res1 rfl))
        · clear hM; rintro t l ⟨hM, ⟨T, rfl⟩, rfl⟩
          unfold shunterlaw06_LexFaults_k3 at hM
          refine A_seq fun K16 hK16 => ?_
          refine A_regC [(some 80, false)] (conG Tryd.prog [(80, fun v_ L_ U_ => (pV (Value.pointer (some ⟨b11, 0, none⟩))) v_ L_ U_)]) ?_
          refine r_v (Value.iface 31 (Value.pointer (some ⟨b11, 0, none⟩))) rfl rfl rfl rfl ?_
          replace hM := bind_sm hM; obtain ⟨r17, hr18, hM⟩ := hM
          refine r_gv (Value.pointer (some ⟨b11, 0, none⟩)) 11 _ rfl rfl rfl (ev_callF rfl call_11 rfl) (fun own_ nw_ hs_ => (Does.inv (lex_Only_v1_g N x9_0 x10_1 _ hr18 hs_.view b11 (blk_own 0 rfl rfl own_ nw_ hs_)) _)) (fun _ _ _ _ _ => Iff.rfl) ?_
          refine r_v (Value.pointer (some ⟨b11, 0, none⟩)) rfl rfl rfl rfl ?_
          refine lx_nil ?_
          refine hK16 _ _ ?_; try clear hK16 K16
          refine A_seq fun K19 hK19 => ?_
          refine A_regC [(some 83, false)] (conG Tryd.prog [(83, fun v_ L_ U_ => ∀ u0_, lex_Why_v2_m N x9_0 x10_1 = some u0_ → (pV (Value.tuple #[Value.int .i64 (u0_.1), Value.int .i64 (u0_.2)])) v_ L_ U_)]) ?_
          refine r_v (Value.iface 31 (Value.pointer (some ⟨b11, 0, none⟩))) rfl rfl rfl rfl ?_
          replace hM := bind_sm hM; obtain ⟨r20, hr21, hM⟩ := hM
          refine r_gv (Value.tuple #[Value.int .i64 (r20.1), Value.int .i64 (r20.2)]) 8 _ rfl rfl rfl (ev_callF rfl call_8 rfl) (fun own_ nw_ hs_ => (Does.inv (lex_Why_v2_g N x9_0 x10_1 _ hr21 hs_.view b11 (blk_own 0 rfl rfl own_ nw_ hs_)) _)) (fun _ _ v_ L_ U_ => ⟨fun h_ => h_ _ hr21, fun h_ => by intro _ e_; cases Option.some.inj (e_.symm.trans hr21); exact h_⟩) ?_
          refine r_v (Value.tuple #[Value.int .i64 (r20.1), Value.int .i64 (r20.2)]) rfl rfl rfl rfl ?_
          refine r_v (Value.int .i64 (r20.1)) rfl rfl rfl rfl ?_
          refine r_v (Value.int .i64 (r20.2)) rfl rfl rfl rfl ?_
          refine r_v (Value.int .i64 (r20.1)) rfl rfl rfl rfl ?_
          refine r_v (Value.int .i64 (r20.2)) rfl rfl rfl rfl ?_
          refine lx_nil ?_
          refine hK19 _ _ ?_; try clear hK19 K19
          refine A_seq fun K22 hK22 => ?_
          refine A_reg ?_
          refine r_v (Value.pointer (some ⟨b11, 0, none⟩)) rfl rfl rfl rfl ?_
          refine r_v (Value.pointer (some ⟨b11, 0, none⟩)) rfl rfl rfl rfl ?_
          refine r_v (Value.bool (true)) rfl rfl rfl (ev_eqlP rfl rfl rfl rfl rfl) ?_
          refine r_v (Value.bool (true)) rfl rfl rfl rfl ?_
          refine r_y rfl ?_
          refine r_v (Value.pointer (some ⟨b11, 0, none⟩)) rfl rfl rfl rfl ?_
          refine r_y rfl ?_
          refine r_v (Value.pointer (some ⟨b11, 0, none⟩)) rfl rfl rfl rfl ?_
          refine r_y rfl ?_
          refine r_v (Value.pointer (some ⟨b11, 0, none⟩)) rfl rfl rfl rfl ?_
          refine r_y rfl ?_
          refine r_l (Value.int .i64 (x9_0)) 0 _ _ _ _ rfl rfl rfl rfl rfl ?_
          refine r_y rfl ?_
          refine r_v (Value.int .i64 (r20.1)) rfl rfl rfl rfl ?_
          refine r_y rfl ?_
          refine r_v (Value.bool (((x9_0 : Int) == r20.1))) rfl rfl rfl rfl ?_
          refine r_v (Value.bool (((x9_0 : Int) == r20.1))) rfl rfl rfl rfl ?_
          refine r_v (Value.bool (((x9_0 : Int) == r20.1))) rfl rfl rfl rfl ?_
          rcases hg23 : (((x9_0 : Int) == r20.1)) with _ | _
          · replace hM := ifn (ne_of_beq_false hg23) hM
            refine r_n false rfl (by decide) rfl ?_
            refine r_n false rfl (by decide) rfl ?_
            refine r_n false rfl (by decide) rfl ?_
            refine r_n false rfl (by decide) rfl ?_
            refine r_n false rfl (by decide) rfl ?_
            refine r_n false rfl (by decide) rfl ?_
            refine r_v (Value.bool (false)) rfl rfl rfl rfl ?_
            refine r_v (Value.bool (false)) rfl rfl rfl rfl ?_
            refine r_n false rfl (by decide) rfl ?_
            refine r_n false rfl (by decide) rfl ?_
            refine r_v (Value.bool (false)) rfl rfl rfl rfl ?_
            refine r_v (Value.bool (false)) rfl rfl rfl rfl ?_
            refine r_n false rfl (by decide) rfl ?_
            refine r_n false rfl (by decide) rfl ?_
            refine r_v (Value.bool (false)) rfl rfl rfl rfl ?_
            refine r_v (Value.bool (false)) rfl rfl rfl rfl ?_
            refine r_n false rfl (by decide) rfl ?_
            refine r_n false rfl (by decide) rfl ?_
            refine r_n false rfl (by decide) rfl ?_
            refine r_n false rfl (by decide) rfl ?_
            refine r_v (Value.bool (false)) rfl rfl rfl rfl ?_
            refine r_v (Value.bool (false)) rfl rfl rfl rfl ?_
            refine r_n false rfl (by decide) rfl ?_
            refine r_v (Value.bool (false)) rfl rfl rfl rfl ?_
            refine r_v (Value.bool (false)) rfl rfl rfl rfl ?_
            refine lx_nil ?_
            refine hK22 _ _ ?_; try clear hK22 K22
            refine A_gen [(2, Value.bool (false))] rfl (fun T => ?_)
            obtain rfl := Option.some.inj hM
            refine A_ret (fun hn => endsV (v0 := Value.bool (false)) rfl (res1 rfl))
          · replace hM := ifp (eq_of_beq hg23) hM
            refine r_y rfl ?_
            refine r_v (Value.pointer (some ⟨b11, 0, none⟩)) rfl rfl rfl rfl ?_
            refine r_y rfl ?_
            refine r_v (Value.pointer (some ⟨b11, 0, none⟩)) rfl rfl rfl rfl ?_
            refine r_y rfl ?_
            refine r_v (Value.pointer (some ⟨b11, 1, none⟩)) rfl rfl rfl rfl ?_
            refine r_y rfl ?_
            refine r_l (Value.int .i64 (x10_1)) 0 _ _ _ _ rfl rfl rfl rfl rfl ?_
            refine r_y rfl ?_
            refine r_v (Value.int .i64 (r20.2)) rfl rfl rfl rfl ?_
            refine r_y rfl ?_
            refine r_v (Value.bool (((x10_1 : Int) == r20.2))) rfl rfl rfl rfl ?_
            refine r_v (Value.bool (((x10_1 : Int) == r20.2))) rfl rfl rfl rfl ?_
            refine r_v (Value.bool (((x10_1 : Int) == r20.2))) rfl rfl rfl rfl ?_
            rcases hg24 : (((x10_1 : Int) == r20.2)) with _ | _
            · replace hM := ifn (ne_of_beq_false hg24) hM
              refine r_n false rfl (by decide) rfl ?_
              refine r_n false rfl (by decide) rfl ?_
              refine r_v (Value.bool (false)) rfl rfl rfl rfl ?_
              refine r_v (Value.bool (false)) rfl rfl rfl rfl ?_
              refine r_n false rfl (by decide) rfl ?_
              refine r_n false rfl (by decide) rfl ?_
              refine r_v (Value.bool (false)) rfl rfl rfl rfl ?_
              refine r_v (Value.bool (false)) rfl rfl rfl rfl ?_
              refine r_n false rfl (by decide) rfl ?_
              refine r_n false rfl (by decide) rfl ?_
              refine r_n false rfl (by decide) rfl ?_
              refine r_n false rfl (by decide) rfl ?_
              refine r_v (Value.bool (false)) rfl rfl rfl rfl ?_
              refine r_v (Value.bool (false)) rfl rfl rfl rfl ?_
              refine r_n false rfl (by decide) rfl ?_
              refine r_v (Value.bool (false)) rfl rfl rfl rfl ?_
              refine r_v (Value.bool (false)) rfl rfl rfl rfl ?_
              refine lx_nil ?_
              refine hK22 _ _ ?_; try clear hK22 K22
              refine A_gen [(2, Value.bool (false))] rfl (fun T => ?_)
              obtain rfl := Option.some.inj hM
              refine A_ret (fun hn => endsV (v0 := Value.bool (false)) rfl (res1 rfl))
            · replace hM := ifp (eq_of_beq hg24) hM
              refine r_y rfl ?_
              refine r_v (Value.int .i64 (r20.1)) rfl rfl rfl rfl ?_
              refine r_y rfl ?_
              refine r_v (Value.bool (((r20.1 : Int) != 0))) rfl rfl rfl rfl ?_
              refine r_v (Value.bool (((r20.1 : Int) != 0))) rfl rfl rfl rfl ?_
              refine r_v (Value.bool (((r20.1 : Int) != 0))) rfl rfl rfl rfl ?_
              rcases hg25 : (((r20.1 : Int) != 0)) with _ | _
              · replace hM := ifn (bne_f hg25) hM
                refine r_n false rfl (by decide) rfl ?_
                refine r_n false rfl (by decide) rfl ?_
                refine r_v (Value.bool (false)) rfl rfl rfl rfl ?_
                refine r_v (Value.bool (false)) rfl rfl rfl rfl ?_
                refine r_n false rfl (by decide) rfl ?_
                refine r_n false rfl (by decide) rfl ?_
                refine r_n false rfl (by decide) rfl ?_
                refine r_n false rfl (by decide) rfl ?_
                refine r_v (Value.bool (false)) rfl rfl rfl rfl ?_
                refine r_v (Value.bool (false)) rfl rfl rfl rfl ?_
                refine r_n false rfl (by decide) rfl ?_
                refine r_v (Value.bool (false)) rfl rfl rfl rfl ?_
                refine r_v (Value.bool (false)) rfl rfl rfl rfl ?_
                refine lx_nil ?_
                refine hK22 _ _ ?_; try clear hK22 K22
                refine A_gen [(2, Value.bool (false))] rfl (fun T => ?_)
                obtain rfl := Option.some.inj hM
                refine A_ret (fun hn => endsV (v0 := Value.bool (false)) rfl (res1 rfl))
              · replace hM := ifp (bne_iff_ne.1 hg25) hM
                refine r_y rfl ?_
                refine r_v (Value.int .i64 (r20.2)) rfl rfl rfl rfl ?_
                refine r_y rfl ?_
                refine r_v (Value.bool (decide ((r20.2 : Int) ≥ 0))) rfl rfl rfl rfl ?_
                refine r_v (Value.bool (decide ((r20.2 : Int) ≥ 0))) rfl rfl rfl rfl ?_
                refine r_v (Value.bool (decide ((r20.2 : Int) ≥ 0))) rfl rfl rfl rfl ?_
                rcases hg26 : (decide ((r20.2 : Int) ≥ 0)) with _ | _
                · replace hM := ifn (of_decide_eq_false hg26) hM
                  refine r_n false rfl (by decide) rfl ?_
                  refine r_n false rfl (by decide) rfl ?_
                  refine r_n false rfl (by decide) rfl ?_
                  refine r_n false rfl (by decide) rfl ?_
                  refine r_v (Value.bool (false)) rfl rfl rfl rfl ?_
                  refine r_v (Value.bool (false)) rfl rfl rfl rfl ?_
                  refine r_n false rfl (by decide) rfl ?_
                  refine r_v (Value.bool (false)) rfl rfl rfl rfl ?_
                  refine r_v (Value.bool (false)) rfl rfl rfl rfl ?_
                  refine lx_nil ?_
                  refine hK22 _ _ ?_; try clear hK22 K22
                  refine A_gen [(2, Value.bool (false))] rfl (fun T => ?_)
                  obtain rfl := Option.some.inj hM
                  refine A_ret (fun hn => endsV (v0 := Value.bool (false)) rfl (res1 rfl))
                · replace hM := ifp (of_decide_eq_true hg26) hM
                  refine r_y rfl ?_
                  refine r_v (Value.int .i64 (r20.2)) rfl rfl rfl rfl ?_
                  refine r_y rfl ?_
                  refine r_v (Value.string (⟨(s).toArray⟩)) rfl rfl rfl rfl ?_
                  refine r_y rfl ?_
                  refine r_v (Value.int .i64 (((s).length : Int))) rfl rfl rfl (ev_lenS rfl rfl rfl) ?_
                  refine r_y rfl ?_
                  refine r_v (Value.bool (decide ((r20.2 : Int) ≤ ((s).length : Int)))) rfl rfl rfl rfl ?_
                  refine r_v (Value.bool (decide ((r20.2 : Int) ≤ ((s).length : Int)))) rfl rfl rfl rfl ?_
                  refine r_v (Value.bool (decide ((r20.2 : Int) ≤ ((s).length : Int)))) rfl rfl rfl rfl ?_
                  rcases hg27 : (decide ((r20.2 : Int) ≤ ((s).length : Int))) with _ | _
                  · replace hM := ifn (of_decide_eq_false hg27) hM
                    refine r_n false rfl (by decide) rfl ?_
                    refine r_v (Value.bool (false)) rfl rfl rfl rfl ?_
                    refine r_v (Value.bool (false)) rfl rfl rfl rfl ?_
                    refine lx_nil ?_
                    refine hK22 _ _ ?_; try clear hK22 K22
                    refine A_gen [(2, Value.bool (false))] rfl (fun T => ?_)
                    obtain rfl := Option.some.inj hM
                    refine A_ret (fun hn => endsV (v0 := Value.bool (false)) rfl (res1 rfl))
                  · replace hM := ifp (of_decide_eq_true hg27) hM
                    refine r_y rfl ?_
                    replace hM := bind_sm hM; obtain ⟨r28, hr29, hM⟩ := hM
                    refine r_c (Value.bool (r28)) rfl _ _ (ev_callF rfl call_6 rfl) (shunterlaw06_lives_g N  _ hr29) ?_
                    refine r_v (Value.bool (r28)) rfl rfl rfl rfl ?_
                    refine r_v (Value.bool (r28)) rfl rfl rfl rfl ?_
                    refine lx_nil ?_
                    refine hK22 _ _ ?_; try clear hK22 K22
                    refine A_gen [(2, Value.bool (r28))] rfl (fun T => ?_)
                    obtain rfl := Option.some.inj hM
                    refine A_ret (fun hn => endsV (v0 := Value.bool (r28)) rfl (res1 rfl))
end Go.Proofs.YtmdjifehblijkaaDoor
