/- models of functions and their walks -/
import Derived.Test.YtdgejbbelmhbdaaDoorBb
namespace Go.Proofs.YtdgejbbelmhbdaaDoor
open Go Go.RowKit Go.Eng
theorem eg_35 : Tryd.prog.eqGuardType Tryd.prog.depth 35 = false := by kernel_rfl
theorem si_35 : Tryd.prog.stoodInHeld 35 = false := by kernel_rfl
set_option maxRecDepth 100000 in
theorem eqst_35 {c : Addr → Option Value} (x0 y0 : Int) (x1 y1 : BitVec 128) : ev Tryd.prog c (Op.equal 35 (.agg #[Value.int .i64 (x0), U (hi (x1)), U (lo (x1))]) (.agg #[Value.int .i64 (y0), U (hi (y1)), U (lo (y1))])) = some ((x0 == y0) && (x1 == y1)) := by
  have h := ev_eqStruct (P := Tryd.prog) (c := c) 9999 (t := 35) #[Value.int .i64 (x0), U (hi (x1)), U (lo (x1))] #[Value.int .i64 (y0), U (hi (y1)), U (lo (y1))] rfl si_35 (fun f => if f.offset = 0 then ((x0 : Int) == y0) else if f.offset = 1 then (((hi (x1)).toNat : Int) == ((hi (y1)).toNat : Int)) else (((lo (x1)).toNat : Int) == ((lo (y1)).toNat : Int)))
    (fun f hf => by
      simp only [List.mem_cons, List.not_mem_nil, or_false] at hf
      rcases hf with rfl | rfl | rfl
      · exact ⟨by decide, _, _, ev_partS (P := Tryd.prog) (t := 3) rfl (by intro fs h; cases h) (by intro n e h; cases h) _ _ rfl, ev_partS (P := Tryd.prog) (t := 3) rfl (by intro fs h; cases h) (by intro n e h; cases h) _ _ rfl, ev_eqInt _ _ _ rfl⟩
      · exact ⟨by decide, _, _, ev_partS (P := Tryd.prog) (t := 33) rfl (by intro fs h; cases h) (by intro n e h; cases h) _ _ rfl, ev_partS (P := Tryd.prog) (t := 33) rfl (by intro fs h; cases h) (by intro n e h; cases h) _ _ rfl, ev_eqInt _ _ _ rfl⟩
      · exact ⟨by decide, _, _, ev_partS (P := Tryd.prog) (t := 33) rfl (by intro fs h; cases h) (by intro n e h; cases h) _ _ rfl, ev_partS (P := Tryd.prog) (t := 33) rfl (by intro fs h; cases h) (by intro n e h; cases h) _ _ rfl, ev_eqInt _ _ _ rfl⟩)
  rw [← word_beq x1 y1]; rw [show Op.equal 35 (.agg #[Value.int .i64 (x0), U (hi (x1)), U (lo (x1))]) (.agg #[Value.int .i64 (y0), U (hi (y1)), U (lo (y1))]) = Op.equalIn (9999 + 1) 35 (.agg #[Value.int .i64 (x0), U (hi (x1)), U (lo (x1))]) (.agg #[Value.int .i64 (y0), U (hi (y1)), U (lo (y1))]) from rfl, h]
  first | (simp; done) | simp [Bool.and_assoc]
def shunterlaw07_WireFaults_k3 (N : Nat) (b : List UInt8) (n : Int) (r42 : Int) (r45 : (List UInt8) × Int × Int) (x54_0 : Int) (x55_1 : Int) : Option (Bool) := (wire_Only_v1_m N x54_0 x55_1).bind fun r60 => if (((b).length : Int) : Int) = 0 then if (x54_0 : Int) = 3 then if (x55_1 : Int) = 0 then if (x54_0 : Int) = x54_0 then (shunterlaw07_lives_m N ).bind fun r69 => some (r69) else some (false) else some (false) else some (false) else if (x54_0 : Int) = 5 then if (x55_1 : Int) = r42 then if (x54_0 : Int) = x54_0 then if (x55_1 : Int) = x55_1 then (wire_Reader_Byte_v2_m N r45.1 r45.2.1 r45.2.2 n).bind fun r76 => ck ((r76.2.1).length = (r45.1).length) (if (r76.1 : Int) = 0 then (wire_Reader_At_v2_m N r76.2.1 r76.2.2.1 r76.2.2.2).bind fun r82 => if (r82 : Int) = r42 then (shunterlaw07_lives_m N ).bind fun r85 => some (r85) else some (false) else some (false)) else some (false) else some (false) else some (false) else some (false)
def shunterlaw07_WireFaults_k2 (N : Nat) (b : List UInt8) (n : Int) (r42 : Int) (r45 : (List UInt8) × Int × Int) (x54_0 : Int) (x55_1 : Int) : Option (Bool) := (wire_Fault_Error_v1_m N ).bind fun r88 => if (r88) ≠ ([]) then some (false) else (wire_Fault_Error_v2_m N x54_0 x55_1).bind fun r91 => (shunterlaw07_digits_m N x54_0).bind fun r93 => ck (((([102, 97, 117, 108, 116, 32] : List UInt8)).length : Int) + ((r93).length : Int) ≤ 9223372036854775807) (ck ((((([102, 97, 117, 108, 116, 32] : List UInt8)) ++ (r93)).length : Int) + ((([32, 97, 116, 32, 98, 121, 116, 101, 32] : List UInt8)).length : Int) ≤ 9223372036854775807) ((shunterlaw07_digits_m N x55_1).bind fun r97 => ck (((((([102, 97, 117, 108, 116, 32] : List UInt8)) ++ (r93)) ++ (([32, 97, 116, 32, 98, 121, 116, 101, 32] : List UInt8))).length : Int) + ((r97).length : Int) ≤ 9223372036854775807) (if (r91) ≠ ((((([102, 97, 117, 108, 116, 32] : List UInt8)) ++ (r93)) ++ (([32, 97, 116, 32, 98, 121, 116, 101, 32] : List UInt8))) ++ (r97)) then some (false) else shunterlaw07_WireFaults_k3 N b n r42 r45 x54_0 x55_1 )))
def shunterlaw07_WireFaults_k1 (N : Nat) (b : List UInt8) (n : Int) : Option (Bool) := (wire_Read_m N b).bind fun r27 => (wire_Reader_Byte_v2_m N r27.1 r27.2.1 r27.2.2 255).bind fun r36 => ck ((r36.2.1).length = (r27.1).length) ((wire_Reader_At_v2_m N r36.2.1 r36.2.2.1 r36.2.2.2).bind fun r42 => (wire_Reader_Fail_v2_m N r36.2.1 r36.2.2.1 r36.2.2.2 5).bind fun r45 => ck ((r45.1).length = (r36.2.1).length) ((wire_Reader_End_v2_m N r45.1 r45.2.1 r45.2.2).bind fun r51 => Sum30.on r51 (some (false)) (fun x54_0 x55_1 => shunterlaw07_WireFaults_k2 N b n r42 r45 x54_0 x55_1 )))
def shunterlaw07_WireFaults_k6 (N : Nat) (b : List UInt8) (n : Int) (r43 : Int) (r46 : (List UInt8) × Int × Int) (x55_0 : Int) (x56_1 : Int) : Option (Bool) := (wire_Only_v1_m N x55_0 x56_1).bind fun r61 => if (((b).length : Int) : Int) = 0 then if (x55_0 : Int) = 3 then if (x56_1 : Int) = 0 then if (x55_0 : Int) = x55_0 then (shunterlaw07_lives_m N ).bind fun r70 => some (r70) else some (false) else some (false) else some (false) else if (x55_0 : Int) = 5 then if (x56_1 : Int) = r43 then if (x55_0 : Int) = x55_0 then if (x56_1 : Int) = x56_1 then (wire_Reader_Byte_v2_m N r46.1 r46.2.1 r46.2.2 n).bind fun r77 => ck ((r77.2.1).length = (r46.1).length) (if (r77.1 : Int) = 0 then (wire_Reader_At_v2_m N r77.2.1 r77.2.2.1 r77.2.2.2).bind fun r83 => if (r83 : Int) = r43 then (shunterlaw07_lives_m N ).bind fun r86 => some (r86) else some (false) else some (false)) else some (false) else some (false) else some (false) else some (false)
def shunterlaw07_WireFaults_k5 (N : Nat) (b : List UInt8) (n : Int) (r43 : Int) (r46 : (List UInt8) × Int × Int) (x55_0 : Int) (x56_1 : Int) : Option (Bool) := (wire_Fault_Error_v1_m N ).bind fun r89 => if (r89) ≠ ([]) then some (false) else (wire_Fault_Error_v2_m N x55_0 x56_1).bind fun r92 => (shunterlaw07_digits_m N x55_0).bind fun r94 => ck (((([102, 97, 117, 108, 116, 32] : List UInt8)).length : Int) + ((r94).length : Int) ≤ 9223372036854775807) (ck ((((([102, 97, 117, 108, 116, 32] : List UInt8)) ++ (r94)).length : Int) + ((([32, 97, 116, 32, 98, 121, 116, 101, 32] : List UInt8)).length : Int) ≤ 9223372036854775807) ((shunterlaw07_digits_m N x56_1).bind fun r98 => ck (((((([102, 97, 117, 108, 116, 32] : List UInt8)) ++ (r94)) ++ (([32, 97, 116, 32, 98, 121, 116, 101, 32] : List UInt8))).length : Int) + ((r98).length : Int) ≤ 9223372036854775807) (if (r92) ≠ ((((([102, 97, 117, 108, 116, 32] : List UInt8)) ++ (r94)) ++ (([32, 97, 116, 32, 98, 121, 116, 101, 32] : List UInt8))) ++ (r98)) then some (false) else shunterlaw07_WireFaults_k6 N b n r43 r46 x55_0 x56_1 )))
def shunterlaw07_WireFaults_k4 (N : Nat) (b : List UInt8) (n : Int) : Option (Bool) := (wire_Read_m N b).bind fun r28 => (wire_Reader_Byte_v2_m N r28.1 r28.2.1 r28.2.2 255).bind fun r37 => ck ((r37.2.1).length = (r28.1).length) ((wire_Reader_At_v2_m N r37.2.1 r37.2.2.1 r37.2.2.2).bind fun r43 => (wire_Reader_Fail_v2_m N r37.2.1 r37.2.2.1 r37.2.2.2 5).bind fun r46 => ck ((r46.1).length = (r37.2.1).length) ((wire_Reader_End_v2_m N r46.1 r46.2.1 r46.2.2).bind fun r52 => Sum30.on r52 (some (false)) (fun x55_0 x56_1 => shunterlaw07_WireFaults_k5 N b n r43 r46 x55_0 x56_1 )))
def shunterlaw07_WireFaults_m (N : Nat) (b : List UInt8) (n : Int) : Option (Bool) := if (((b).length : Int) : Int) > 500 then (shunterlaw07_lives_m N ).bind fun r6 => some (r6) else (wire_Reader_Fail_v1_m N 4).bind fun r10 => (wire_Reader_Bad_v1_m N ).bind fun r14 => if (r14) = true then (wire_Reader_End_v1_m N ).bind fun r19 => Sum30.on r19 ((wire_Why_v1_m N ).bind fun r24 => (wire_Reader_Byte_v1_m N 9).bind fun r105 => if (r105 : Int) ≠ 0 then some (false) else (wire_Reader_Two_v1_m N 9).bind fun r108 => if (r108 : Int) ≠ 0 then some (false) else (wire_Reader_Four_v1_m N 9).bind fun r111 => if (r111 : Int) ≠ 0 then some (false) else (wire_Reader_Vec_v1_m N ).bind fun r114 => if (((r114.1) == (0)) && ((r114.2) == ((0#64) ++ (0#64)))) = true then (wire_Reader_Name_v1_m N ).bind fun r117 => if (r117) ≠ ([]) then some (false) else (wire_Reader_Vecs_v1_m N 9).bind fun r120 => (wire_Reader_Numbers_v1_m N 9 9).bind fun r125 => ck ((-9223372036854775808 ≤ (((r120).length : Int) + ((r125).length : Int)) ∧ (((r120).length : Int) + ((r125).length : Int)) ≤ 9223372036854775807)) ((wire_Reader_At_v1_m N ).bind fun r131 => ck ((-9223372036854775808 ≤ ((((r120).length : Int) + ((r125).length : Int)) + r131) ∧ ((((r120).length : Int) + ((r125).length : Int)) + r131) ≤ 9223372036854775807)) ((wire_Reader_Left_v1_m N ).bind fun r134 => ck ((-9223372036854775808 ≤ (((((r120).length : Int) + ((r125).length : Int)) + r131) + r134) ∧ (((((r120).length : Int) + ((r125).length : Int)) + r131) + r134) ≤ 9223372036854775807)) (if ((((((r120).length : Int) + ((r125).length : Int)) + r131) + r134) : Int) ≠ 0 then some (false) else if (r24.1 : Int) ≠ 1 then some (false) else if (r24.2 : Int) ≠ 0 then some (false) else shunterlaw07_WireFaults_k1 N b n ))) else some (false)) (fun x22_0 x23_1 => (wire_Why_v2_m N x22_0 x23_1).bind fun r25 => (wire_Reader_Byte_v1_m N 9).bind fun r106 => if (r106 : Int) ≠ 0 then some (false) else (wire_Reader_Two_v1_m N 9).bind fun r109 => if (r109 : Int) ≠ 0 then some (false) else (wire_Reader_Four_v1_m N 9).bind fun r112 => if (r112 : Int) ≠ 0 then some (false) else (wire_Reader_Vec_v1_m N ).bind fun r115 => if (((r115.1) == (0)) && ((r115.2) == ((0#64) ++ (0#64)))) = true then (wire_Reader_Name_v1_m N ).bind fun r118 => if (r118) ≠ ([]) then some (false) else (wire_Reader_Vecs_v1_m N 9).bind fun r121 => (wire_Reader_Numbers_v1_m N 9 9).bind fun r126 => ck ((-9223372036854775808 ≤ (((r121).length : Int) + ((r126).length : Int)) ∧ (((r121).length : Int) + ((r126).length : Int)) ≤ 9223372036854775807)) ((wire_Reader_At_v1_m N ).bind fun r132 => ck ((-9223372036854775808 ≤ ((((r121).length : Int) + ((r126).length : Int)) + r132) ∧ ((((r121).length : Int) + ((r126).length : Int)) + r132) ≤ 9223372036854775807)) ((wire_Reader_Left_v1_m N ).bind fun r135 => ck ((-9223372036854775808 ≤ (((((r121).length : Int) + ((r126).length : Int)) + r132) + r135) ∧ (((((r121).length : Int) + ((r126).length : Int)) + r132) + r135) ≤ 9223372036854775807)) (if ((((((r121).length : Int) + ((r126).length : Int)) + r132) + r135) : Int) ≠ 0 then some (false) else if (r25.1 : Int) ≠ 1 then some (false) else if (r25.2 : Int) ≠ 0 then some (false) else shunterlaw07_WireFaults_k4 N b n ))) else some (false)) else some (false)
set_option maxRecDepth 100000 in
set_option maxHeartbeats 8000000 in
theorem shunterlaw07_WireFaults_g (N : Nat) (b : List UInt8) (n : Int) (r : Bool) (hM : shunterlaw07_WireFaults_m N b n = some r) (ro : Addr → Option Value) (bv : Value) (hb : Rd encY ro bv b) : DoesI Tryd.prog 3 #[bv, Value.int .i64 (n)] MemI ro [] (pV (Value.bool (r))) := by
  unfold shunterlaw07_WireFaults_m at hM
  refine doesI_of_A follows Tryd.func3 rfl 203 rfl (upd (upd (fun _ => undef) 1 (Value.int .i64 (n))) 0 (bv)) (by funext k; match k with | 0 => rfl | 1 => rfl | k + 2 => rfl) memI_kept (fun base0_ => ?_)
  refine A_seq fun K1 hK1 => ?_
  refine A_reg ?_
  refine r_v (Value.bool (false)) rfl rfl rfl rfl ?_
  refine lx_nil ?_
  refine hK1 _ _ ?_; try clear hK1 K1
  refine A_seq fun K2 hK2 => ?_
  refine A_seq fun K3 hK3 => ?_
  refine A_reg ?_
  refine r_v (bv) rfl rfl rfl rfl ?_
  refine r_v (Value.int .i64 (((b).length : Int))) rfl rfl rfl (ev_lenSl rfl rfl rfl (Rd.shp hb)) ?_
  refine r_v (Value.bool (decide ((((b).length : Int) : Int) > 500))) rfl rfl rfl rfl ?_
  refine lx_nil ?_
  refine hK3 _ _ ?_; try clear hK3 K3
  refine A_cond (decide ((((b).length : Int) : Int) > 500)) rfl (fun hc4 => ?_) (fun hc4 => ?_)
  · replace hM := ifp (of_decide_eq_true hc4) hM
    refine A_seq fun K5 hK5 => ?_
    refine A_reg ?_
    replace hM := bind_sm hM; obtain ⟨r6, hr7, hM⟩ := hM
    refine r_c (Value.bool (r6)) rfl _ _ (ev_callF rfl call_4 rfl) (shunterlaw07_lives_g N  _ hr7) ?_
    refine r_v (Value.bool (r6)) rfl rfl rfl rfl ?_
    refine lx_nil ?_
    refine hK5 _ _ ?_; try clear hK5 K5
    obtain rfl := Option.some.inj hM
    refine A_ret (fun hn => endsV (v0 := Value.bool (r6)) rfl (res1 rfl))
  · replace hM := ifn (of_decide_eq_false hc4) hM
    refine A_skip ?_
    refine hK2 _ _ ?_; try clear hK2 K2
    refine A_seq fun K8 hK8 => ?_
    refine A_reg ?_
    refine r_v (Value.pointer none) rfl rfl rfl rfl ?_
    refine lx_nil ?_
    refine hK8 _ _ ?_; try clear hK8 K8
    refine A_seq fun K9 hK9 => ?_
    refine A_regC [(some 20, true)] (conG Tryd.prog [(20, fun _ _ v_ L_ U_ => (pO (List.flatten []) (oE (Value.tuple #[]) [])) v_ L_ U_)]) ?_
    refine r_v (Value.pointer none) rfl rfl rfl rfl ?_
    replace hM := bind_sm hM; obtain ⟨r10, hr11, hM⟩ := hM
    refine r_gm (Ls := []) (FL := []) (RL := []) [] (oE (Value.tuple #[]) []) (some 20) 5 _ rfl rfl rfl rfl rfl (ev_callF rfl call_5 rfl) (fun own_ nw_ hn_ hs_ => (Does.inv (wire_Reader_Fail_v1_g N 4 _ hr11 _ ) _)) (fun _ _ _ _ _ => Iff.rfl) (fun h_ => nomatch h_) ?_
    rintro _ _ ⟨rfl, rfl⟩
    refine lx_perm (Ls := []) (Ls' := []) [] rfl rfl ?_
    refine lx_nil ?_
    refine hK9 _ _ ?_; try clear hK9 K9
    refine A_seq fun K12 hK12 => ?_
    refine A_seq fun K13 hK13 => ?_
    refine A_reg ?_
    refine r_v (Value.pointer none) rfl rfl rfl rfl ?_
    replace hM := bind_sm hM; obtain ⟨r14, hr15, hM⟩ := hM
    refine r_c (Value.bool (r14)) rfl _ _ (ev_callF rfl call_6 rfl) (wire_Reader_Bad_v1_g N  _ hr15) ?_
    refine r_v (Value.bool (!(r14))) rfl rfl rfl rfl ?_
    refine lx_nil ?_
    refine hK13 _ _ ?_; try clear hK13 K13
    refine A_cond (!(r14)) rfl (fun hc16 => ?_) (fun hc16 => ?_)
    · replace hM := ifn (Bool.eq_false_iff.1 (not_t hc16)) hM
      refine A_seq fun K17 hK17 => ?_
      refine A_reg ?_
      refine r_v (Value.bool (false)) rfl rfl rfl rfl ?_
      refine lx_nil ?_
      refine hK17 _ _ ?_; try clear hK17 K17
      obtain rfl := Option.some.inj hM
      refine A_ret (fun hn => endsV (v0 := Value.bool (false)) rfl (res1 rfl))
    · replace hM := ifp (not_f hc16) hM
      refine A_skip ?_
      refine hK12 _ _ ?_; try clear hK12 K12
      refine A_seq fun K18 hK18 => ?_
      refine A_regC [(some 26, true), (some 27, false)] (conG Tryd.prog [(26, fun _ _ v_ L_ U_ => ∀ u0_, wire_Reader_End_v1_m N  = some u0_ → (pO (List.flatten []) (Sum30.onP u0_ (oE (Value.nilIface) []) (fun y0_0 y0_1 => (oB 48 #[Value.int .i64 (y0_0), Value.int .i64 (y0_1)] fun bs_0 => (oE (Value.iface 44 (Value.pointer (some ⟨bs_0, 0, none⟩))) []))))) v_ L_ U_), (27, fun _ _ v_ L_ U_ => (∀ u0_, wire_Reader_End_v1_m N  = some u0_ → u0_ = .nil → ∀ u2_, wire_Why_v1_m N  = some u2_ → (pV (Value.tuple #[Value.int .i64 (u2_.1), Value.int .i64 (u2_.2)])) v_ L_ U_) ∧ (∀ u0_, wire_Reader_End_v1_m N  = some u0_ → ∀ u1_0 u1_1, u0_ = .t44 u1_0 u1_1 → ∀ u2_, wire_Why_v2_m N u1_0 u1_1 = some u2_ → (pV (Value.tuple #[Value.int .i64 (u2_.1), Value.int .i64 (u2_.2)])) v_ L_ U_))]) ?_
      refine r_v (Value.pointer none) rfl rfl rfl rfl ?_
      replace hM := bind_sm hM; obtain ⟨r19, hr20, hM⟩ := hM
      refine r_gm (Ls := []) (FL := []) (RL := []) [] (Sum30.onP r19 (oE (Value.nilIface) []) (fun y0_0 y0_1 => (oB 48 #[Value.int .i64 (y0_0), Value.int .i64 (y0_1)] fun bs_0 => (oE (Value.iface 44 (Value.pointer (some ⟨bs_0, 0, none⟩))) [])))) (some 26) 8 _ rfl rfl rfl rfl rfl (ev_callF rfl call_8 rfl) (fun own_ nw_ hn_ hs_ => (Does.inv (wire_Reader_End_v1_g N  _ hr20 _ ) _)) (fun _ _ v_ L_ U_ => ⟨fun h_ => h_ _ hr20, fun h_ => by intro _ e_; cases Option.some.inj (e_.symm.trans hr20); exact h_⟩) (fun h_ => nomatch h_) ?_
      rintro _ _ hp_
      rcases Sum30.cases r19 with hx21 | ⟨x22_0, x23_1, hx21⟩
      · obtain ⟨rfl, rfl⟩ := Sum30.onP_nil hx21 hp_
        replace hM := Sum30.on_nil hx21 hM
        refine lx_perm (Ls := []) (Ls' := []) [] rfl rfl ?_
        replace hM := bind_sm hM; obtain ⟨r24, hr25, hM⟩ := hM
        refine r_gv (Value.tuple #[Value.int .i64 (r24.1), Value.int .i64 (r24.2)]) 7 _ rfl rfl rfl (ev_callF rfl call_7 rfl) (fun own_ nw_ hs_ => Does.inv (Gives.doesV (wire_Why_v1_g N  _ hr25) _) _) (fun _ _ v_ L_ U_ => ⟨fun h_ => h_.1 _ hr20 hx21 _ hr25, fun h_ => ⟨by intro _ e_; cases Option.some.inj (e_.symm.trans hr20); intro e_; first | (cases (e_.symm.trans hx21); done) | (cases (e_.symm.trans hx21); intro _ e_; cases Option.some.inj (e_.symm.trans hr25); exact h_), by intro _ e_; cases Option.some.inj (e_.symm.trans hr20); intro _ _ e_; first | (cases (e_.symm.trans hx21); done) | (cases (e_.symm.trans hx21); intro _ e_; cases Option.some.inj (e_.symm.trans hr26); exact h_)⟩⟩) ?_
        refine r_v (Value.tuple #[Value.int .i64 (r24.1), Value.int .i64 (r24.2)]) rfl rfl rfl rfl ?_
        refine r_v (Value.int .i64 (r24.1)) rfl rfl rfl rfl ?_
        refine r_v (Value.int .i64 (r24.2)) rfl rfl rfl rfl ?_
        refine r_v (Value.int .i64 (r24.1)) rfl rfl rfl rfl ?_
        refine r_v (Value.int .i64 (r24.2)) rfl rfl rfl rfl ?_
        refine lx_nil ?_
        refine hK18 _ _ ?_; try clear hK18 K18
        refine A_cut (fun tt ll => (shunterlaw07_WireFaults_k1 N b n  = some r) ∧ Is [(0, bv), (1, Value.int .i64 (n))] [] tt ll) ?_ ?_
        · refine A_seq fun K104 hK104 => ?_
          refine A_regC [(some 56, false), (some 59, false)] (conG Tryd.prog [(56, fun _ _ v_ L_ U_ => ∀ u0_, wire_Reader_Vecs_v1_m N 9 = some u0_ → (p1 (fun s_ => s_) 35 enc_35 (u0_)) v_ L_ U_), (59, fun _ _ v_ L_ U_ => ∀ u0_, wire_Reader_Numbers_v1_m N 9 9 = some u0_ → (p1 (fun s_ => s_) 3 encI (u0_)) v_ L_ U_)]) ?_
          refine r_v (Value.pointer none) rfl rfl rfl rfl ?_
          replace hM := bind_sm hM; obtain ⟨r105, hr106, hM⟩ := hM
          refine r_c (Value.int .i64 (r105)) rfl _ _ (ev_callF rfl call_9 rfl) (wire_Reader_Byte_v1_g N 9 _ hr106) ?_
          refine r_v (Value.bool (((r105 : Int) != 0))) rfl rfl rfl rfl ?_
          refine r_v (Value.bool (((r105 : Int) != 0))) rfl rfl rfl rfl ?_
          rcases hg107 : (((r105 : Int) != 0)) with _ | _
          · replace hM := ifn (bne_f hg107) hM
            refine r_y rfl ?_
            refine r_v (Value.pointer none) rfl rfl rfl rfl ?_
            refine r_y rfl ?_
            replace hM := bind_sm hM; obtain ⟨r108, hr109, hM⟩ := hM
            refine r_c (Value.int .i64 (r108)) rfl _ _ (ev_callF rfl call_10 rfl) (wire_Reader_Two_v1_g N 9 _ hr109) ?_
            refine r_y rfl ?_
            refine r_v (Value.bool (((r108 : Int) != 0))) rfl rfl rfl rfl ?_
            refine r_v (Value.bool (((r108 : Int) != 0))) rfl rfl rfl rfl ?_
            refine r_v (Value.bool (((r108 : Int) != 0))) rfl rfl rfl rfl ?_
            rcases hg110 : (((r108 : Int) != 0)) with _ | _
            · replace hM := ifn (bne_f hg110) hM
              refine r_y rfl ?_
              refine r_v (Value.pointer none) rfl rfl rfl rfl ?_
              refine r_y rfl ?_
              replace hM := bind_sm hM; obtain ⟨r111, hr112, hM⟩ := hM
              refine r_c (Value.int .i64 (r111)) rfl _ _ (ev_callF rfl call_11 rfl) (wire_Reader_Four_v1_g N 9 _ hr112) ?_
              refine r_y rfl ?_
              refine r_v (Value.bool (((r111 : Int) != 0))) rfl rfl rfl rfl ?_
              refine r_v (Value.bool (((r111 : Int) != 0))) rfl rfl rfl rfl ?_
              refine r_v (Value.bool (((r111 : Int) != 0))) rfl rfl rfl rfl ?_
              rcases hg113 : (((r111 : Int) != 0)) with _ | _
              · replace hM := ifn (bne_f hg113) hM
                refine r_y rfl ?_
                refine r_v (Value.pointer none) rfl rfl rfl rfl ?_
                refine r_y rfl ?_
                replace hM := bind_sm hM; obtain ⟨r114, hr115, hM⟩ := hM
                refine r_c (Value.agg #[Value.int .i64 (r114.1), U (hi (r114.2)), U (lo (r114.2))]) rfl _ _ (ev_callF rfl call_12 rfl) (wire_Reader_Vec_v1_g N  _ hr115) ?_
                refine r_y rfl ?_
                refine r_v (Value.agg #[Value.int .i64 (0), U (0#64), U (0#64)]) rfl rfl rfl (ev_buildS rfl rfl rfl rfl) ?_
                refine r_y rfl ?_
                refine r_v (Value.bool (!(((r114.1) == (0)) && ((r114.2) == ((0#64) ++ (0#64)))))) rfl rfl rfl (ev_binNe rfl rfl eg_35 (by have h_ := fun c => eqst_35 (c := c) (r114.1) (0) (r114.2) ((0#64) ++ (0#64)); simp only [app_hl] at h_; exact h_ _)) ?_
                refine r_v (Value.bool (!(((r114.1) == (0)) && ((r114.2) == ((0#64) ++ (0#64)))))) rfl rfl rfl rfl ?_
                refine r_v (Value.bool (!(((r114.1) == (0)) && ((r114.2) == ((0#64) ++ (0#64)))))) rfl rfl rfl rfl ?_
                rcases hg116 : (!(((r114.1) == (0)) && ((r114.2) == ((0#64) ++ (0#64))))) with _ | _
                · replace hM := ifp (not_f hg116) hM
                  refine r_y rfl ?_
                  refine r_v (Value.pointer none) rfl rfl rfl rfl ?_
                  refine r_y rfl ?_
                  replace hM := bind_sm hM; obtain ⟨r117, hr118, hM⟩ := hM
                  refine r_c (Value.string (⟨(r117).toArray⟩)) rfl _ _ (ev_callF rfl call_13 rfl) (wire_Reader_Name_v1_g N  _ hr118) ?_
                  refine r_y rfl ?_
                  refine r_v (Value.bool ((r117) != ([]))) rfl rfl rfl (ev_neS rfl rfl) ?_
                  refine r_v (Value.bool ((r117) != ([]))) rfl rfl rfl rfl ?_
                  refine r_v (Value.bool ((r117) != ([]))) rfl rfl rfl rfl ?_
                  rcases hg119 : ((r117) != ([])) with _ | _
                  · replace hM := ifn (bne_f hg119) hM
                    refine r_y rfl ?_
                    refine r_v (Value.pointer none) rfl rfl rfl rfl ?_
                    refine r_y rfl ?_
                    replace hM := bind_sm hM; obtain ⟨r120, hr121, hM⟩ := hM
                    refine r_g1 (Ls := []) (fun s122 => s122) 35 enc_35 (r120) 14 _ rfl rfl rfl (ev_callF rfl call_14 rfl) (fun own_ nw_ hs_ => (Does.inv (wire_Reader_Vecs_v1_g N 9 _ hr121 hs_.view ) _)) (fun _ _ v_ L_ U_ => ⟨fun h_ => h_ _ hr121, fun h_ => by intro _ e_; cases Option.some.inj (e_.symm.trans hr121); exact h_⟩) (fun s122 S123 H124 => ?_)
                    refine r_y rfl ?_
                    refine r_v (Value.int .i64 (((r120).length : Int))) rfl rfl rfl (ev_lenSl rfl rfl rfl (Sl.shp H124)) ?_
                    refine r_y rfl ?_
                    refine r_v (Value.pointer none) rfl rfl rfl rfl ?_
                    refine r_y rfl ?_
                    replace hM := bind_sm hM; obtain ⟨r125, hr126, hM⟩ := hM
                    refine r_g1 (Ls := [S123]) (fun s127 => s127) 3 encI (r125) 15 _ rfl rfl rfl (ev_callF rfl call_15 rfl) (fun own_ nw_ hs_ => (Does.inv (wire_Reader_Numbers_v1_g N 9 9 _ hr126 hs_.view ) _)) (fun _ _ v_ L_ U_ => ⟨fun h_ => h_ _ hr126, fun h_ => by intro _ e_; cases Option.some.inj (e_.symm.trans hr126); exact h_⟩) (fun s127 S128 H129 => ?_)
                    refine r_y rfl ?_
                    refine r_v (Value.int .i64 (((r125).length : Int))) rfl rfl rfl (ev_lenSl rfl rfl rfl (Sl.shp H129)) ?_
                    refine r_y rfl ?_
                    replace hM := ck_some hM; obtain ⟨ck130, hM⟩ := hM
                    refine r_v (Value.int .i64 ((((r120).length : Int) + ((r125).length : Int)))) rfl rfl (wi64 rfl ck130.1 ck130.2) rfl ?_
                    refine r_y rfl ?_
                    refine r_v (Value.pointer none) rfl rfl rfl rfl ?_
                    refine r_y rfl ?_
                    replace hM := bind_sm hM; obtain ⟨r131, hr132, hM⟩ := hM
                    refine r_c (Value.int .i64 (r131)) rfl _ _ (ev_callF rfl call_16 rfl) (wire_Reader_At_v1_g N  _ hr132) ?_
                    refine r_y rfl ?_
                    replace hM := ck_some hM; obtain ⟨ck133, hM⟩ := hM
                    refine r_v (Value.int .i64 (((((r120).length : Int) + ((r125).length : Int)) + r131))) rfl rfl (wi64 rfl ck133.1 ck133.2) rfl ?_
                    refine r_y rfl ?_
                    refine r_v (Value.pointer none) rfl rfl rfl rfl ?_
                    refine r_y rfl ?_
                    replace hM := bind_sm hM; obtain ⟨r134, hr135, hM⟩ := hM
                    refine r_c (Value.int .i64 (r134)) rfl _ _ (ev_callF rfl call_17 rfl) (wire_Reader_Left_v1_g N  _ hr135) ?_
                    refine r_y rfl ?_
                    replace hM := ck_some hM; obtain ⟨ck136, hM⟩ := hM
                    refine r_v (Value.int .i64 ((((((r120).length : Int) + ((r125).length : Int)) + r131) + r134))) rfl rfl (wi64 rfl ck136.1 ck136.2) rfl ?_
                    refine r_y rfl ?_
                    refine r_v (Value.bool ((((((((r120).length : Int) + ((r125).length : Int)) + r131) + r134) : Int) != 0))) rfl rfl rfl rfl ?_
                    refine r_v (Value.bool ((((((((r120).length : Int) + ((r125).length : Int)) + r131) + r134) : Int) != 0))) rfl rfl rfl rfl ?_
                    refine r_v (Value.bool ((((((((r120).length : Int) + ((r125).length : Int)) + r131) + r134) : Int) != 0))) rfl rfl rfl rfl ?_
                    rcases hg137 : ((((((((r120).length : Int) + ((r125).length : Int)) + r131) + r134) : Int) != 0)) with _ | _
                    · replace hM := ifn (bne_f hg137) hM
                      refine r_y rfl ?_
                      refine r_v (Value.int .i64 (r24.1)) rfl rfl rfl rfl ?_
                      refine r_y rfl ?_
                      refine r_v (Value.bool (((r24.1 : Int) != 1))) rfl rfl rfl rfl ?_
                      refine r_v (Value.bool (((r24.1 : Int) != 1))) rfl rfl rfl rfl ?_
                      refine r_v (Value.bool (((r24.1 : Int) != 1))) rfl rfl rfl rfl ?_
                      rcases hg138 : (((r24.1 : Int) != 1)) with _ | _
                      · replace hM := ifn (bne_f hg138) hM
                        refine r_y rfl ?_
                        refine r_v (Value.int .i64 (r24.2)) rfl rfl rfl rfl ?_
                        refine r_y rfl ?_
                        refine r_v (Value.bool (((r24.2 : Int) != 0))) rfl rfl rfl rfl ?_
                        refine r_v (Value.bool (((r24.2 : Int) != 0))) rfl rfl rfl rfl ?_
                        refine lx_nil ?_
                        refine hK104 _ _ ?_; try clear hK104 K104
                        refine A_gen [(0, bv), (1, Value.int .i64 (n)), (77, Value.bool (((r24.2 : Int) != 0)))] rfl (fun T => ?_)
                        refine A_cond (((r24.2 : Int) != 0)) rfl (fun hc139 => ?_) (fun hc139 => ?_)
                        · replace hM := ifp (bne_iff_ne.1 hc139) hM
                          refine A_seq fun K140 hK140 => ?_
                          refine A_reg ?_
                          refine r_v (Value.bool (false)) rfl rfl rfl rfl ?_
                          refine lx_nil ?_
                          refine hK140 _ _ ?_; try clear hK140 K140
                          obtain rfl := Option.some.inj hM
                          refine A_ret (fun hn => endsV (v0 := Value.bool (false)) rfl (res1 rfl))
                        · replace hM := ifn (bne_f hc139) hM
                          refine A_skip ?_
                          refine fg _ (Sub.pick [S123, S128] [] rfl) ?_
                          exact ⟨hM, is_mk rfl rfl⟩
                      · replace hM := ifp (bne_iff_ne.1 hg138) hM
                        refine r_n true rfl (by decide) rfl ?_
                        refine r_n true rfl (by decide) rfl ?_
                        refine r_v (Value.bool (true)) rfl rfl rfl rfl ?_
                        refine lx_nil ?_
                        refine hK104 _ _ ?_; try clear hK104 K104
                        refine A_gen [(0, bv), (1, Value.int .i64 (n)), (77, Value.bool (true))] rfl (fun T => ?_)
                        refine A_cond true rfl (fun _ => ?_) (fun h_ => nomatch h_)
                        refine A_seq fun K141 hK141 => ?_
                        refine A_reg ?_
                        refine r_v (Value.bool (false)) rfl rfl rfl rfl ?_
                        refine lx_nil ?_
                        refine hK141 _ _ ?_; try clear hK141 K141
                        obtain rfl := Option.some.inj hM
                        refine A_ret (fun hn => endsV (v0 := Value.bool (false)) rfl (res1 rfl))
                    · replace hM := ifp (bne_iff_ne.1 hg137) hM
                      refine r_n true rfl (by decide) rfl ?_
                      refine r_n true rfl (by decide) rfl ?_
                      refine r_v (Value.bool (true)) rfl rfl rfl rfl ?_
                      refine r_v (Value.bool (true)) rfl rfl rfl rfl ?_
                      refine r_n true rfl (by decide) rfl ?_
                      refine r_n true rfl (by decide) rfl ?_
                      refine r_v (Value.bool (true)) rfl rfl rfl rfl ?_
                      refine lx_nil ?_
                      refine hK104 _ _ ?_; try clear hK104 K104
                      refine A_gen [(0, bv), (1, Value.int .i64 (n)), (77, Value.bool (true))] rfl (fun T => ?_)
                      refine A_cond true rfl (fun _ => ?_) (fun h_ => nomatch h_)
                      refine A_seq fun K142 hK142 => ?_
                      refine A_reg ?_
                      refine r_v (Value.bool (false)) rfl rfl rfl rfl ?_
                      refine lx_nil ?_
                      refine hK142 _ _ ?_; try clear hK142 K142
                      obtain rfl := Option.some.inj hM
                      refine A_ret (fun hn => endsV (v0 := Value.bool (false)) rfl (res1 rfl))
                  · replace hM := ifp (bne_iff_ne.1 hg119) hM
                    refine r_n true rfl (by decide) rfl ?_
                    refine r_n true rfl (by decide) rfl ?_
                    refine r_n true rfl (by decide) rfl ?_
                    refine r_n true rfl (by decide) rfl ?_
                    refine r_n true rfl (by decide) rfl ?_
                    refine r_n true rfl (by decide) rfl ?_
                    refine r_n true rfl (by decide) rfl ?_
                    refine r_n true rfl (by decide) rfl ?_
                    refine r_n true rfl (by decide) rfl ?_
                    refine r_n true rfl (by decide) rfl ?_
                    refine r_n true rfl (by decide) rfl ?_
                    refine r_n true rfl (by decide) rfl ?_
                    refine r_n true rfl (by decide) rfl ?_
                    refine r_n true rfl (by decide) rfl ?_
                    refine r_v (Value.bool (true)) rfl rfl rfl rfl ?_
                    refine r_v (Value.bool (true)) rfl rfl rfl rfl ?_
                    refine r_n true rfl (by decide) rfl ?_
                    refine r_n true rfl (by decide) rfl ?_
                    refine r_v (Value.bool (true)) rfl rfl rfl rfl ?_
                    refine r_v (Value.bool (true)) rfl rfl rfl rfl ?_
                    refine r_n true rfl (by decide) rfl ?_
                    refine r_n true rfl (by decide) rfl ?_
                    refine r_v (Value.bool (true)) rfl rfl rfl rfl ?_
                    refine lx_nil ?_
                    refine hK104 _ _ ?_; try clear hK104 K104
                    refine A_gen [(0, bv), (1, Value.int .i64 (n)), (77, Value.bool (true))] rfl (fun T => ?_)
                    refine A_cond true rfl (fun _ => ?_) (fun h_ => nomatch h_)
                    refine A_seq fun K143 hK143 => ?_
                    refine A_reg ?_
                    refine r_v (Value.bool (false)) rfl rfl rfl rfl ?_
                    refine lx_nil ?_
                    refine hK143 _ _ ?_; try clear hK143 K143
                    obtain rfl := Option.some.inj hM
                    refine A_ret (fun hn => endsV (v0 := Value.bool (false)) rfl (res1 rfl))
                · replace hM := ifn (Bool.eq_false_iff.1 (not_t hg116)) hM
                  refine r_n true rfl (by decide) rfl ?_
                  refine r_n true rfl (by decide) rfl ?_
                  refine r_n true rfl (by decide) rfl ?_
                  refine r_v (Value.bool (true)) rfl rfl rfl rfl ?_
                  refine r_v (Value.bool (true)) rfl rfl rfl rfl ?_
                  refine r_n true rfl (by decide) rfl ?_
                  refine r_n true rfl (by decide) rfl ?_
                  refine r_n true rfl (by decide) rfl ?_
                  refine r_n true rfl (by decide) rfl ?_
                  refine r_n true rfl (by decide) rfl ?_
                  refine r_n true rfl (by decide) rfl ?_
                  refine r_n true rfl (by decide) rfl ?_
                  refine r_n true rfl (by decide) rfl ?_
                  refine r_n true rfl (by decide) rfl ?_
                  refine r_n true rfl (by decide) rfl ?_
                  refine r_n true rfl (by decide) rfl ?_
                  refine r_n true rfl (by decide) rfl ?_
                  refine r_n true rfl (by decide) rfl ?_
                  refine r_n true rfl (by decide) rfl ?_
                  refine r_v (Value.bool (true)) rfl rfl rfl rfl ?_
                  refine r_v (Value.bool (true)) rfl rfl rfl rfl ?_
                  refine r_n true rfl (by decide) rfl ?_
                  refine r_n true rfl (by decide) rfl ?_
                  refine r_v (Value.bool (true)) rfl rfl rfl rfl ?_
                  refine r_v (Value.bool (true)) rfl rfl rfl rfl ?_
                  refine r_n true rfl (by decide) rfl ?_
                  refine r_n true rfl (by decide) rfl ?_
                  refine r_v (Value.bool (true)) rfl rfl rfl rfl ?_
                  refine lx_nil ?_
                  refine hK104 _ _ ?_; try clear hK104 K104
                  refine A_gen [(0, bv), (1, Value.int .i64 (n)), (77, Value.bool (true))] rfl (fun T => ?_)
                  refine A_cond true rfl (fun _ => ?_) (fun h_ => nomatch h_)
                  refine A_seq fun K144 hK144 => ?_
                  refine A_reg ?_
                  refine r_v (Value.bool (false)) rfl rfl rfl rfl ?_
                  refine lx_nil ?_
                  refine hK144 _ _ ?_; try clear hK144 K144
                  obtain rfl := Option.some.inj hM
                  refine A_ret (fun hn => endsV (v0 := Value.bool (false)) rfl (res1 rfl))
              · replace hM := ifp (bne_iff_ne.1 hg113) hM
                refine r_n true rfl (by decide) rfl ?_
                refine r_n true rfl (by decide) rfl ?_
                refine r_n true rfl (by decide) rfl ?_
                refine r_n true rfl (by decide) rfl ?_
                refine r_v (Value.bool (true)) rfl rfl rfl rfl ?_
                refine r_v (Value.bool (true)) rfl rfl rfl rfl ?_
                refine r_n true rfl (by decide) rfl ?_
                refine r_n true rfl (by decide) rfl ?_
                refine r_n true rfl (by decide) rfl ?_
                refine r_v (Value.bool (true)) rfl rfl rfl rfl ?_
                refine r_v (Value.bool (true)) rfl rfl rfl rfl ?_
                refine r_n true rfl (by decide) rfl ?_
                refine r_n true rfl (by decide) rfl ?_
                refine r_n true rfl (by decide) rfl ?_
                refine r_n true rfl (by decide) rfl ?_
                refine r_n true rfl (by decide) rfl ?_
                refine r_n true rfl (by decide) rfl ?_
                refine r_n true rfl (by decide) rfl ?_
                refine r_n true rfl (by decide) rfl ?_
                refine r_n true rfl (by decide) rfl ?_
                refine r_n true rfl (by decide) rfl ?_
                refine r_n true rfl (by decide) rfl ?_
                refine r_n true rfl (by decide) rfl ?_
                refine r_n true rfl (by decide) rfl ?_
                refine r_n true rfl (by decide) rfl ?_
                refine r_v (Value.bool (true)) rfl rfl rfl rfl ?_
                refine r_v (Value.bool (true)) rfl rfl rfl rfl ?_
                refine r_n true rfl (by decide) rfl ?_
                refine r_n true rfl (by decide) rfl ?_
                refine r_v (Value.bool (true)) rfl rfl rfl rfl ?_
                refine r_v (Value.bool (true)) rfl rfl rfl rfl ?_
                refine r_n true rfl (by decide) rfl ?_
                refine r_n true rfl (by decide) rfl ?_
                refine r_v (Value.bool (true)) rfl rfl rfl rfl ?_
                refine lx_nil ?_
                refine hK104 _ _ ?_; try clear hK104 K104
                refine A_gen [(0, bv), (1, Value.int .i64 (n)), (77, Value.bool (true))] rfl (fun T => ?_)
                refine A_cond true rfl (fun _ => ?_) (fun h_ => nomatch h_)
                refine A_seq fun K145 hK145 => ?_
                refine A_reg ?_
                refine r_v (Value.bool (false)) rfl rfl rfl rfl ?_
                refine lx_nil ?_
                refine hK145 _ _ ?_; try clear hK145 K145
                obtain rfl := Option.some.inj hM
                refine A_ret (fun hn => endsV (v0 := Value.bool (false)) rfl (res1 rfl))
            · replace hM := ifp (bne_iff_ne.1 hg110) hM
              refine r_n true rfl (by decide) rfl ?_
              refine r_n true rfl (by decide) rfl ?_
              refine r_n true rfl (by decide) rfl ?_
              refine r_v (Value.bool (true)) rfl rfl rfl rfl ?_
              refine r_v (Value.bool (true)) rfl rfl rfl rfl ?_
              refine r_n true rfl (by decide) rfl ?_
              refine r_n true rfl (by decide) rfl ?_
              refine r_n true rfl (by decide) rfl ?_
              refine r_n true rfl (by decide) rfl ?_
              refine r_v (Value.bool (true)) rfl rfl rfl rfl ?_
              refine r_v (Value.bool (true)) rfl rfl rfl rfl ?_
              refine r_n true rfl (by decide) rfl ?_
              refine r_n true rfl (by decide) rfl ?_
              refine r_n true rfl (by decide) rfl ?_
              refine r_v (Value.bool (true)) rfl rfl rfl rfl ?_
              refine r_v (Value.bool (true)) rfl rfl rfl rfl ?_
              refine r_n true rfl (by decide) rfl ?_
              refine r_n true rfl (by decide) rfl ?_
              refine r_n true rfl (by decide) rfl ?_
              refine r_n true rfl (by decide) rfl ?_
              refine r_n true rfl (by decide) rfl ?_
              refine r_n true rfl (by decide) rfl ?_
              refine r_n true rfl (by decide) rfl ?_
              refine r_n true rfl (by decide) rfl ?_
              refine r_n true rfl (by decide) rfl ?_
              refine r_n true rfl (by decide) rfl ?_
              refine r_n true rfl (by decide) rfl ?_
              refine r_n true rfl (by decide) rfl ?_
              refine r_n true rfl (by decide) rfl ?_
              refine r_n true rfl (by decide) rfl ?_
              refine r_v (Value.bool (true)) rfl rfl rfl rfl ?_
              refine r_v (Value.bool (true)) rfl rfl rfl rfl ?_
              refine r_n true rfl (by decide) rfl ?_
              refine r_n true rfl (by decide) rfl ?_
              refine r_v (Value.bool (true)) rfl rfl rfl rfl ?_
              refine r_v (Value.bool (true)) rfl rfl rfl rfl ?_
              refine r_n true rfl (by decide) rfl ?_
              refine r_n true rfl (by decide) rfl ?_
              refine r_v (Value.bool (true)) rfl rfl rfl rfl ?_
              refine lx_nil ?_
              refine hK104 _ _ ?_; try clear hK104 K104
              refine A_gen [(0, bv), (1, Value.int .i64 (n)), (77, Value.bool (true))] rfl (fun T => ?_)
              refine A_cond true rfl (fun _ => ?_) (fun h_ => nomatch h_)
              refine A_seq fun K146 hK146 => ?_
              refine A_reg ?_
              refine r_v (Value.bool (false)) rfl rfl rfl rfl ?_
              refine lx_nil ?_
              refine hK146 _ _ ?_; try clear hK146 K146
              obtain rfl := Option.some.inj hM
              refine A_ret (fun hn => endsV (v0 := Value.bool (false)) rfl (res1 rfl))
          · replace hM := ifp (bne_iff_ne.1 hg107) hM
            refine r_n true rfl (by decide) rfl ?_
            refine r_n true rfl (by decide) rfl ?_
            refine r_n true rfl (by decide) rfl ?_
            refine r_v (Value.bool (true)) rfl rfl rfl rfl ?_
            refine r_v (Value.bool (true)) rfl rfl rfl rfl ?_
            refine r_n true rfl (by decide) rfl ?_
            refine r_n true rfl (by decide) rfl ?_
            refine r_n true rfl (by decide) rfl ?_
            refine r_v (Value.bool (true)) rfl rfl rfl rfl ?_
            refine r_v (Value.bool (true)) rfl rfl rfl rfl ?_
            refine r_n true rfl (by decide) rfl ?_
            refine r_n true rfl (by decide) rfl ?_
            refine r_n true rfl (by decide) rfl ?_
            refine r_n true rfl (by decide) rfl ?_
            refine r_v (Value.bool (true)) rfl rfl rfl rfl ?_
            refine r_v (Value.bool (true)) rfl rfl rfl rfl ?_
            refine r_n true rfl (by decide) rfl ?_
            refine r_n true rfl (by decide) rfl ?_
            refine r_n true rfl (by decide) rfl ?_
            refine r_v (Value.bool (true)) rfl rfl rfl rfl ?_
            refine r_v (Value.bool (true)) rfl rfl rfl rfl ?_
            refine r_n true rfl (by decide) rfl ?_
            refine r_n true rfl (by decide) rfl ?_
            refine r_n true rfl (by decide) rfl ?_
            refine r_n true rfl (by decide) rfl ?_
            refine r_n true rfl (by decide) rfl ?_
            refine r_n true rfl (by decide) rfl ?_
            refine r_n true rfl (by decide) rfl ?_
            refine r_n true rfl (by decide) rfl ?_
            refine r_n true rfl (by decide) rfl ?_
            refine r_n true rfl (by decide) rfl ?_
            refine r_n true rfl (by decide) rfl ?_
            refine r_n true rfl (by decide) rfl ?_
            refine r_n true rfl (by decide) rfl ?_
            refine r_n true rfl (by decide) rfl ?_
            refine r_v (Value.bool (true)) rfl rfl rfl rfl ?_
            refine r_v (Value.bool (true)) rfl rfl rfl rfl ?_
            refine r_n true rfl (by decide) rfl ?_
            refine r_n true rfl (by decide) rfl ?_
            refine r_v (Value.bool (true)) rfl rfl rfl rfl ?_
            refine r_v (Value.bool (true)) rfl rfl rfl rfl ?_
            refine r_n true rfl (by decide) rfl ?_
            refine r_n true rfl (by decide) rfl ?_
            refine r_v (Value.bool (true)) rfl rfl rfl rfl ?_
            refine lx_nil ?_
            refine hK104 _ _ ?_; try clear hK104 K104
            refine A_gen [(0, bv), (1, Value.int .i64 (n)), (77, Value.bool (true))] rfl (fun T => ?_)
            refine A_cond true rfl (fun _ => ?_) (fun h_ => nomatch h_)
            refine A_seq fun K147 hK147 => ?_
            refine A_reg ?_
            refine r_v (Value.bool (false)) rfl rfl rfl rfl ?_
            refine lx_nil ?_
            refine hK147 _ _ ?_; try clear hK147 K147
            obtain rfl := Option.some.inj hM
            refine A_ret (fun hn => endsV (v0 := Value.bool (false)) rfl (res1 rfl))
        · clear hM; rintro t l ⟨hM, ⟨T, rfl⟩, rfl⟩
          unfold shunterlaw07_WireFaults_k1 at hM
          refine A_seq fun K26 hK26 => ?_
          refine A_regC [(some 79, true)] (conG Tryd.prog [(79, fun _ _ v_ L_ U_ => ∀ u0_, wire_Read_m N b = some u0_ → (pO (List.flatten []) (oS 5 encY u0_.1 fun s_0 => (oB 55 #[s_0, Value.int .i64 (u0_.2.1), Value.int .i64 (u0_.2.2)] fun b_0 => (oE (Value.pointer (some ⟨b_0, 0, none⟩)) [])))) v_ L_ U_)]) ?_
          refine r_v (bv) rfl rfl rfl rfl ?_
          replace hM := bind_sm hM; obtain ⟨r27, hr28, hM⟩ := hM
          refine r_gm (Ls := []) (FL := []) (RL := []) [] (oS 5 encY r27.1 fun s_0 => (oB 55 #[s_0, Value.int .i64 (r27.2.1), Value.int .i64 (r27.2.2)] fun b_0 => (oE (Value.pointer (some ⟨b_0, 0, none⟩)) []))) (some 79) 18 _ rfl rfl rfl rfl rfl (ev_callF rfl call_18 rfl) (fun own_ nw_ hn_ hs_ => (Does.inv (wire_Read_g N b _ hr28 _ bv (Rd.mono (ro_sans (Ls := []) (is := []) rfl hs_) hb)) _)) (fun _ _ v_ L_ U_ => ⟨fun h_ => h_ _ hr28, fun h_ => by intro _ e_; cases Option.some.inj (e_.symm.trans hr28); exact h_⟩) (fun h_ => nomatch h_) ?_
          rintro _ _ ⟨s30, S31, _, H32, ⟨b29, _, ⟨rfl, rfl⟩, rfl⟩, rfl⟩
          refine lx_perm (Ls := [S31, [(b29, 55, #[s30, Value.int .i64 (r27.2.1), Value.int .i64 (r27.2.2)])]]) (Ls' := [[(b29, 55, #[s30, Value.int .i64 (r27.2.1), Value.int .i64 (r27.2.2)])], S31]) [1, 0] rfl rfl ?_
          refine r_v (Value.pointer (some ⟨b29, 0, none⟩)) rfl rfl rfl rfl ?_
          refine lx_nil ?_
          refine hK26 _ _ ?_; try clear hK26 K26
          refine A_seq fun K33 hK33 => ?_
          refine A_seq fun K34 hK34 => ?_
          refine A_reg ?_
          refine r_v (Value.pointer (some ⟨b29, 0, none⟩)) rfl rfl rfl rfl ?_
          refine r_v (Value.bool (false)) rfl rfl rfl rfl ?_
          refine lx_nil ?_
          refine hK34 _ _ ?_; try clear hK34 K34
          refine A_cond false rfl (fun h_ => nomatch h_) (fun _ => ?_)
          refine A_skip ?_
          refine hK33 _ _ ?_; try clear hK33 K33
          refine A_seq fun K35 hK35 => ?_
          refine A_regC [(some 83, true)] (conG Tryd.prog [(83, fun _ _ v_ L_ U_ => ∀ u0_, wire_Reader_Byte_v2_m N r27.1 r27.2.1 r27.2.2 255 = some u0_ → (pO (List.flatten [[(b29, 55, #[s30, Value.int .i64 (r27.2.1), Value.int .i64 (r27.2.2)])], S31]) (oI 5 encY s30 u0_.2.1 (oE (Value.int .i64 (u0_.1)) [[(b29, 55, #[s30, Value.int .i64 (u0_.2.2.1), Value.int .i64 (u0_.2.2.2)])]]))) v_ L_ U_)]) ?_
          refine r_v (Value.pointer (some ⟨b29, 0, none⟩)) rfl rfl rfl rfl ?_
          replace hM := bind_sm hM; obtain ⟨r36, hr37, hM⟩ := hM
          replace hM := ck_some hM; obtain ⟨ck38, hM⟩ := hM
          refine r_gm (Ls := [[(b29, 55, #[s30, Value.int .i64 (r27.2.1), Value.int .i64 (r27.2.2)])], S31]) (FL := [[(b29, 55, #[s30, Value.int .i64 (r27.2.1), Value.int .i64 (r27.2.2)])], S31]) (RL := []) [0, 1] (oI 5 encY s30 r36.2.1 (oE (Value.int .i64 (r36.1)) [[(b29, 55, #[s30, Value.int .i64 (r36.2.2.1), Value.int .i64 (r36.2.2.2)])]])) (some 83) 9 _ rfl rfl rfl rfl rfl (ev_callF rfl call_9 rfl) (fun own_ nw_ hn_ hs_ => (Does.inv (wire_Reader_Byte_v2_g N r27.1 r27.2.1 r27.2.2 255 _ hr37 _ b29 s30 S31 H32) _)) (fun _ _ v_ L_ U_ => ⟨fun h_ => h_ _ hr37, fun h_ => by intro _ e_; cases Option.some.inj (e_.symm.trans hr37); exact h_⟩) (fun h_ => nomatch h_) ?_
          rintro _ _ ⟨S39, _, H40, ⟨rfl, rfl⟩, rfl⟩
          refine lx_perm (Ls := [S39, [(b29, 55, #[s30, Value.int .i64 (r36.2.2.1), Value.int .i64 (r36.2.2.2)])]]) (Ls' := [[(b29, 55, #[s30, Value.int .i64 (r36.2.2.1), Value.int .i64 (r36.2.2.2)])], S39]) [1, 0] rfl rfl ?_
          refine lx_nil ?_
          refine hK35 _ _ ?_; try clear hK35 K35
          refine A_seq fun K41 hK41 => ?_
          refine A_regC [(some 85, false)] (conG Tryd.prog [(85, fun _ _ v_ L_ U_ => ∀ u0_, wire_Reader_At_v2_m N r36.2.1 r36.2.2.1 r36.2.2.2 = some u0_ → (pV (Value.int .i64 (u0_))) v_ L_ U_)]) ?_
          refine r_v (Value.pointer (some ⟨b29, 0, none⟩)) rfl rfl rfl rfl ?_
          replace hM := bind_sm hM; obtain ⟨r42, hr43, hM⟩ := hM
          refine r_gv (Value.int .i64 (r42)) 16 _ rfl rfl rfl (ev_callF rfl call_16 rfl) (fun own_ nw_ hs_ => (Does.inv (wire_Reader_At_v2_g N r36.2.1 r36.2.2.1 r36.2.2.2 _ hr43 hs_.view b29 s30 ((rd_own H40 (mem_chunk (Ls := [[(b29, 55, #[s30, Value.int .i64 (r36.2.2.1), Value.int .i64 (r36.2.2.2)])], S39]) (k := 1) rfl rfl)) own_ nw_ hs_) (blk_own 0 rfl rfl own_ nw_ hs_)) _)) (fun _ _ v_ L_ U_ => ⟨fun h_ => h_ _ hr43, fun h_ => by intro _ e_; cases Option.some.inj (e_.symm.trans hr43); exact h_⟩) ?_
          refine r_v (Value.int .i64 (r42)) rfl rfl rfl rfl ?_
          refine lx_nil ?_
          refine hK41 _ _ ?_; try clear hK41 K41
          refine A_seq fun K44 hK44 => ?_
          refine A_regC [(some 87, true)] (conG Tryd.prog [(87, fun _ _ v_ L_ U_ => ∀ u0_, wire_Reader_Fail_v2_m N r36.2.1 r36.2.2.1 r36.2.2.2 5 = some u0_ → (pO (List.flatten [[(b29, 55, #[s30, Value.int .i64 (r36.2.2.1), Value.int .i64 (r36.2.2.2)])], S39]) (oI 5 encY s30 u0_.1 (oE (Value.tuple #[]) [[(b29, 55, #[s30, Value.int .i64 (u0_.2.1), Value.int .i64 (u0_.2.2)])]]))) v_ L_ U_)]) ?_
          refine r_v (Value.pointer (some ⟨b29, 0, none⟩)) rfl rfl rfl rfl ?_
          replace hM := bind_sm hM; obtain ⟨r45, hr46, hM⟩ := hM
          replace hM := ck_some hM; obtain ⟨ck47, hM⟩ := hM
          refine r_gm (Ls := [[(b29, 55, #[s30, Value.int .i64 (r36.2.2.1), Value.int .i64 (r36.2.2.2)])], S39]) (FL := [[(b29, 55, #[s30, Value.int .i64 (r36.2.2.1), Value.int .i64 (r36.2.2.2)])], S39]) (RL := []) [0, 1] (oI 5 encY s30 r45.1 (oE (Value.tuple #[]) [[(b29, 55, #[s30, Value.int .i64 (r45.2.1), Value.int .i64 (r45.2.2)])]])) (some 87) 5 _ rfl rfl rfl rfl rfl (ev_callF rfl call_5 rfl) (fun own_ nw_ hn_ hs_ => (Does.inv (wire_Reader_Fail_v2_g N r36.2.1 r36.2.2.1 r36.2.2.2 5 _ hr46 _ b29 s30 S39 H40) _)) (fun _ _ v_ L_ U_ => ⟨fun h_ => h_ _ hr46, fun h_ => by intro _ e_; cases Option.some.inj (e_.symm.trans hr46); exact h_⟩) (fun h_ => nomatch h_) ?_
          rintro _ _ ⟨S48, _, H49, ⟨rfl, rfl⟩, rfl⟩
          refine lx_perm (Ls := [S48, [(b29, 55, #[s30, Value.int .i64 (r45.2.1), Value.int .i64 (r45.2.2)])]]) (Ls' := [[(b29, 55, #[s30, Value.int .i64 (r45.2.1), Value.int .i64 (r45.2.2)])], S48]) [1, 0] rfl rfl ?_
          refine lx_nil ?_
          refine hK44 _ _ ?_; try clear hK44 K44
          refine A_seq fun K50 hK50 => ?_
          refine A_regC [(some 89, true)] (conG Tryd.prog [(89, fun _ _ v_ L_ U_ => ∀ u0_, wire_Reader_End_v2_m N r45.1 r45.2.1 r45.2.2 = some u0_ → (pO (List.flatten []) (Sum30.onP u0_ (oE (Value.nilIface) []) (fun y0_0 y0_1 => (oB 48 #[Value.int .i64 (y0_0), Value.int .i64 (y0_1)] fun bs_0 => (oE (Value.iface 44 (Value.pointer (some ⟨bs_0, 0, none⟩))) []))))) v_ L_ U_)]) ?_
          refine r_v (Value.pointer (some ⟨b29, 0, none⟩)) rfl rfl rfl rfl ?_
          replace hM := bind_sm hM; obtain ⟨r51, hr52, hM⟩ := hM
          refine r_gm (Ls := [[(b29, 55, #[s30, Value.int .i64 (r45.2.1), Value.int .i64 (r45.2.2)])], S48]) (FL := []) (RL := [[(b29, 55, #[s30, Value.int .i64 (r45.2.1), Value.int .i64 (r45.2.2)])], S48]) [] (Sum30.onP r51 (oE (Value.nilIface) []) (fun y0_0 y0_1 => (oB 48 #[Value.int .i64 (y0_0), Value.int .i64 (y0_1)] fun bs_0 => (oE (Value.iface 44 (Value.pointer (some ⟨bs_0, 0, none⟩))) [])))) (some 89) 8 _ rfl rfl rfl rfl rfl (ev_callF rfl call_8 rfl) (fun own_ nw_ hn_ hs_ => (Does.inv (wire_Reader_End_v2_g N r45.1 r45.2.1 r45.2.2 _ hr52 _ b29 s30 (rd_sans (Ls := [[(b29, 55, #[s30, Value.int .i64 (r45.2.1), Value.int .i64 (r45.2.2)])], S48]) (is := []) 1 H49 rfl rfl hn_ hs_) (blk_sans (Ls := [[(b29, 55, #[s30, Value.int .i64 (r45.2.1), Value.int .i64 (r45.2.2)])], S48]) (is := []) 0 rfl rfl hn_ hs_)) _)) (fun _ _ v_ L_ U_ => ⟨fun h_ => h_ _ hr52, fun h_ => by intro _ e_; cases Option.some.inj (e_.symm.trans hr52); exact h_⟩) (fun h_ => nomatch h_) ?_
          rintro _ _ hp_
          rcases Sum30.cases r51 with hx53 | ⟨x54_0, x55_1, hx53⟩
          · obtain ⟨rfl, rfl⟩ := Sum30.onP_nil hx53 hp_
            replace hM := Sum30.on_nil hx53 hM
            refine lx_perm (Ls := [[(b29, 55, #[s30, Value.int .i64 (r45.2.1), Value.int .i64 (r45.2.2)])], S48]) (Ls' := [[(b29, 55, #[s30, Value.int .i64 (r45.2.1), Value.int .i64 (r45.2.2)])], S48]) [0, 1] rfl rfl ?_
            refine r_v (Value.nilIface) rfl rfl rfl rfl ?_
            refine lx_nil ?_
            refine hK50 _ _ ?_; try clear hK50 K50
            refine A_seq fun K56 hK56 => ?_
            refine A_reg ?_
            refine r_v (Value.nilIface) rfl rfl rfl rfl ?_
            refine r_v (Value.tuple #[Value.pointer none, Value.bool (false)]) rfl rfl rfl rfl ?_
            refine r_v (Value.tuple #[Value.pointer none, Value.bool (false)]) rfl rfl rfl rfl ?_
            refine r_v (Value.pointer none) rfl rfl rfl rfl ?_
            refine r_v (Value.bool (false)) rfl rfl rfl rfl ?_
            refine r_v (Value.pointer none) rfl rfl rfl rfl ?_
            refine r_v (Value.bool (false)) rfl rfl rfl rfl ?_
            refine lx_nil ?_
            refine hK56 _ _ ?_; try clear hK56 K56
            refine A_seq fun K57 hK57 => ?_
            refine A_seq fun K58 hK58 => ?_
            refine A_reg ?_
            refine r_v (Value.bool (false)) rfl rfl rfl rfl ?_
            refine r_v (Value.bool (true)) rfl rfl rfl rfl ?_
            refine r_v (Value.bool (true)) rfl rfl rfl rfl ?_
            refine r_n true rfl (by decide) rfl ?_
            refine r_n true rfl (by decide) rfl ?_
            refine r_v (Value.bool (true)) rfl rfl rfl rfl ?_
            refine lx_nil ?_
            refine hK58 _ _ ?_; try clear hK58 K58
            refine A_cond true rfl (fun _ => ?_) (fun h_ => nomatch h_)
            refine A_seq fun K59 hK59 => ?_
            refine A_reg ?_
            refine r_v (Value.bool (false)) rfl rfl rfl rfl ?_
            refine lx_nil ?_
            refine hK59 _ _ ?_; try clear hK59 K59
            refine A_gen [(4, Value.bool (false))] rfl (fun T => ?_)
            obtain rfl := Option.some.inj hM
            refine A_ret (fun hn => endsV (v0 := Value.bool (false)) rfl (res1 rfl))
          · obtain ⟨b56, _, ⟨rfl, rfl⟩, rfl⟩ := Sum30.onP_t44 hx53 hp_
            replace hM := Sum30.on_t44 hx53 hM
            refine lx_perm (Ls := [[(b29, 55, #[s30, Value.int .i64 (r45.2.1), Value.int .i64 (r45.2.2)])], S48, [(b56, 48, #[Value.int .i64 (x54_0), Value.int .i64 (x55_1)])]]) (Ls' := [[(b29, 55, #[s30, Value.int .i64 (r45.2.1), Value.int .i64 (r45.2.2)])], [(b56, 48, #[Value.int .i64 (x54_0), Value.int .i64 (x55_1)])], S48]) [0, 2, 1] rfl rfl ?_
            refine r_v (Value.iface 44 (Value.pointer (some ⟨b56, 0, none⟩))) rfl rfl rfl rfl ?_
            refine lx_nil ?_
            refine hK50 _ _ ?_; try clear hK50 K50
            refine A_seq fun K57 hK57 => ?_
            refine A_reg ?_
            refine r_v (Value.iface 44 (Value.pointer (some ⟨b56, 0, none⟩))) rfl rfl rfl rfl ?_
            refine r_v (Value.tuple #[Value.pointer (some ⟨b56, 0, none⟩), Value.bool (true)]) rfl rfl rfl rfl ?_
            refine r_v (Value.tuple #[Value.pointer (some ⟨b56, 0, none⟩), Value.bool (true)]) rfl rfl rfl rfl ?_
            refine r_v (Value.pointer (some ⟨b56, 0, none⟩)) rfl rfl rfl rfl ?_
            refine r_v (Value.bool (true)) rfl rfl rfl rfl ?_
            refine r_v (Value.pointer (some ⟨b56, 0, none⟩)) rfl rfl rfl rfl ?_
            refine r_v (Value.bool (true)) rfl rfl rfl rfl ?_
            refine lx_nil ?_
            refine hK57 _ _ ?_; try clear hK57 K57
            refine A_cut (fun tt ll => (shunterlaw07_WireFaults_k2 N b n r42 r45 x54_0 x55_1  = some r) ∧ Is [(0, bv), (1, Value.int .i64 (n)), (8, Value.pointer (some ⟨b29, 0, none⟩)), (9, Value.int .i64 (r42)), (10, Value.iface 44 (Value.pointer (some ⟨b56, 0, none⟩))), (11, Value.pointer (some ⟨b56, 0, none⟩))] (List.flatten [[(b29, 55, #[s30, Value.int .i64 (r45.2.1), Value.int .i64 (r45.2.2)])], [(b56, 48, #[Value.int .i64 (x54_0), Value.int .i64 (x55_1)])], S48]) tt ll) ?_ ?_
            · refine A_seq fun K103 hK103 => ?_
              refine A_reg ?_
              refine r_v (Value.bool (true)) rfl rfl rfl rfl ?_
              refine r_v (Value.bool (false)) rfl rfl rfl rfl ?_
              refine r_v (Value.bool (false)) rfl rfl rfl rfl ?_
              refine r_y rfl ?_
              refine r_v (Value.pointer (some ⟨b56, 0, none⟩)) rfl rfl rfl rfl ?_
              refine r_y rfl ?_
              refine r_v (Value.bool (false)) rfl rfl rfl rfl ?_
              refine r_v (Value.bool (false)) rfl rfl rfl rfl ?_
              refine lx_nil ?_
              refine hK103 _ _ ?_; try clear hK103 K103
              refine A_cond false rfl (fun h_ => nomatch h_) (fun _ => ?_)
              refine A_skip ?_
              refine fg _ (Sub.pick [[(b29, 55, #[s30, Value.int .i64 (r45.2.1), Value.int .i64 (r45.2.2)])], [(b56, 48, #[Value.int .i64 (x54_0), Value.int .i64 (x55_1)])], S48] [0, 1, 2] rfl) ?_
              exact ⟨hM, is_mk rfl rfl⟩
            · clear hM; rintro t l ⟨hM, ⟨T, rfl⟩, rfl⟩
              unfold shunterlaw07_WireFaults_k2 at hM
              refine A_seq fun K58 hK58 => ?_
              refine A_reg ?_
              refine r_v (Value.pointer none) rfl rfl rfl rfl ?_
              refine lx_nil ?_
              refine hK58 _ _ ?_; try clear hK58 K58
              refine A_cut (fun tt ll => (shunterlaw07_WireFaults_k3 N b n r42 r45 x54_0 x55_1  = some r) ∧ Is [(0, bv), (1, Value.int .i64 (n)), (8, Value.pointer (some ⟨b29, 0, none⟩)), (9, Value.int .i64 (r42)), (10, Value.iface 44 (Value.pointer (some ⟨b56, 0, none⟩))), (11, Value.pointer (some ⟨b56, 0, none⟩))] (List.flatten [[(b29, 55, #[s30, Value.int .i64 (r45.2.1), Value.int .i64 (r45.2.2)])], [(b56, 48, #[Value.int .i64 (x54_0), Value.int .i64 (x55_1)])], S48]) tt ll) ?_ ?_
              · refine A_seq fun K87 hK87 => ?_
                refine A_drawR [(some 102, false), (some 106, false)] (conG Tryd.prog [(102, fun _ _ v_ L_ U_ => ∀ u0_, wire_Fault_Error_v1_m N  = some u0_ → (pV (Value.string (⟨(u0_).toArray⟩))) v_ L_ U_), (106, fun _ _ v_ L_ U_ => ∀ u0_, wire_Fault_Error_v2_m N x54_0 x55_1 = some u0_ → (pV (Value.string (⟨(u0_).toArray⟩))) v_ L_ U_)]) [] (by decide +kernel) (fun hn => sep_nil) ?_
                refine r_v (Value.pointer none) rfl rfl rfl rfl ?_
                replace hM := bind_sm hM; obtain ⟨r88, hr89, hM⟩ := hM
                refine r_gv (Value.string (⟨(r88).toArray⟩)) 19 _ rfl rfl rfl (ev_callF rfl call_19 rfl) (fun own_ nw_ hs_ => wire_Fault_Error_v1_g N  _ hr89 hs_.view ) (fun _ _ v_ L_ U_ => ⟨fun h_ => h_ _ hr89, fun h_ => by intro _ e_; cases Option.some.inj (e_.symm.trans hr89); exact h_⟩) ?_
                refine r_v (Value.bool ((r88) != ([]))) rfl rfl rfl (ev_neS rfl rfl) ?_
                refine r_v (Value.bool ((r88) != ([]))) rfl rfl rfl rfl ?_
                rcases hg90 : ((r88) != ([])) with _ | _
                · replace hM := ifn (bne_f hg90) hM
                  refine r_y rfl ?_
                  refine r_v (Value.pointer (some ⟨b56, 0, none⟩)) rfl rfl rfl rfl ?_
                  refine r_y rfl ?_
                  replace hM := bind_sm hM; obtain ⟨r91, hr92, hM⟩ := hM
                  refine r_gv (Value.string (⟨(r91).toArray⟩)) 19 _ rfl rfl rfl (ev_callF rfl call_19 rfl) (fun own_ nw_ hs_ => wire_Fault_Error_v2_g N x54_0 x55_1 _ hr92 hs_.view b56 (blk_own 1 rfl rfl own_ nw_ hs_)) (fun _ _ v_ L_ U_ => ⟨fun h_ => h_ _ hr92, fun h_ => by intro _ e_; cases Option.some.inj (e_.symm.trans hr92); exact h_⟩) ?_
                  refine r_y rfl ?_
                  refine r_v (Value.pointer (some ⟨b56, 0, none⟩)) rfl rfl rfl rfl ?_
                  refine r_y rfl ?_
                  refine r_v (Value.pointer (some ⟨b56, 0, none⟩)) rfl rfl rfl rfl ?_
                  refine r_y rfl ?_
                  refine r_v (Value.pointer (some ⟨b56, 0, none⟩)) rfl rfl rfl rfl ?_
                  refine r_y rfl ?_
                  refine r_l (Value.int .i64 (x54_0)) 1 _ _ _ _ rfl rfl rfl rfl rfl ?_
                  refine r_y rfl ?_
                  replace hM := bind_sm hM; obtain ⟨r93, hr94, hM⟩ := hM
                  refine r_c (Value.string (⟨(r93).toArray⟩)) rfl _ _ (ev_callF rfl call_20 rfl) (shunterlaw07_digits_g N x54_0 _ hr94) ?_
                  refine r_y rfl ?_
                  replace hM := ck_some hM; obtain ⟨ck95, hM⟩ := hM
                  refine r_v (Value.string (⟨((([102, 97, 117, 108, 116, 32] : List UInt8)) ++ (r93)).toArray⟩)) rfl rfl rfl (ev_addS ck95 rfl rfl) ?_
                  refine r_y rfl ?_
                  replace hM := ck_some hM; obtain ⟨ck96, hM⟩ := hM
                  refine r_v (Value.string (⟨(((([102, 97, 117, 108, 116, 32] : List UInt8)) ++ (r93)) ++ (([32, 97, 116, 32, 98, 121, 116, 101, 32] : List UInt8))).toArray⟩)) rfl rfl rfl (ev_addS ck96 rfl rfl) ?_
                  refine r_y rfl ?_
                  refine r_v (Value.pointer (some ⟨b56, 0, none⟩)) rfl rfl rfl rfl ?_
                  refine r_y rfl ?_
                  refine r_v (Value.pointer (some ⟨b56, 0, none⟩)) rfl rfl rfl rfl ?_
                  refine r_y rfl ?_
                  refine r_v (Value.pointer (some ⟨b56, 1, none⟩)) rfl rfl rfl rfl ?_
                  refine r_y rfl ?_
                  refine r_l (Value.int .i64 (x55_1)) 1 _ _ _ _ rfl rfl rfl rfl rfl ?_
                  refine r_y rfl ?_
                  replace hM := bind_sm hM; obtain ⟨r97, hr98, hM⟩ := hM
                  refine r_c (Value.string (⟨(r97).toArray⟩)) rfl _ _ (ev_callF rfl call_20 rfl) (shunterlaw07_digits_g N x55_1 _ hr98) ?_
                  refine r_y rfl ?_
                  replace hM := ck_some hM; obtain ⟨ck99, hM⟩ := hM
                  refine r_v (Value.string (⟨((((([102, 97, 117, 108, 116, 32] : List UInt8)) ++ (r93)) ++ (([32, 97, 116, 32, 98, 121, 116, 101, 32] : List UInt8))) ++ (r97)).toArray⟩)) rfl rfl rfl (ev_addS ck99 rfl rfl) ?_
                  refine r_y rfl ?_
                  refine r_v (Value.bool ((r91) != ((((([102, 97, 117, 108, 116, 32] : List UInt8)) ++ (r93)) ++ (([32, 97, 116, 32, 98, 121, 116, 101, 32] : List UInt8))) ++ (r97)))) rfl rfl rfl (ev_neS rfl rfl) ?_
                  refine r_v (Value.bool ((r91) != ((((([102, 97, 117, 108, 116, 32] : List UInt8)) ++ (r93)) ++ (([32, 97, 116, 32, 98, 121, 116, 101, 32] : List UInt8))) ++ (r97)))) rfl rfl rfl rfl ?_
                  refine lx_nil ?_
                  refine hK87 _ _ ?_; try clear hK87 K87
                  refine A_cond ((r91) != ((((([102, 97, 117, 108, 116, 32] : List UInt8)) ++ (r93)) ++ (([32, 97, 116, 32, 98, 121, 116, 101, 32] : List UInt8))) ++ (r97))) rfl (fun hc100 => ?_) (fun hc100 => ?_)
                  · replace hM := ifp (bne_iff_ne.1 hc100) hM
                    refine A_seq fun K101 hK101 => ?_
                    refine A_reg ?_
                    refine r_v (Value.bool (false)) rfl rfl rfl rfl ?_
                    refine lx_nil ?_
                    refine hK101 _ _ ?_; try clear hK101 K101
                    refine A_gen [(4, Value.bool (false))] rfl (fun T => ?_)
                    obtain rfl := Option.some.inj hM
                    refine A_ret (fun hn => endsV (v0 := Value.bool (false)) rfl (res1 rfl))
                  · replace hM := ifn (bne_f hc100) hM
                    refine A_skip ?_
                    refine fg _ (Sub.pick [[(b29, 55, #[s30, Value.int .i64 (r45.2.1), Value.int .i64 (r45.2.2)])], [(b56, 48, #[Value.int .i64 (x54_0), Value.int .i64 (x55_1)])], S48] [0, 1, 2] rfl) ?_
                    exact ⟨hM, is_mk rfl rfl⟩
                · replace hM := ifp (bne_iff_ne.1 hg90) hM
                  refine r_n true rfl (by decide) rfl ?_
                  refine r_n true rfl (by decide) rfl ?_
                  refine r_n true rfl (by decide) rfl ?_
                  refine r_n true rfl (by decide) rfl ?_
                  refine r_n true rfl (by decide) rfl ?_
                  refine r_n true rfl (by decide) rfl ?_
                  refine r_n true rfl (by decide) rfl ?_
                  refine r_n true rfl (by decide) rfl ?_
                  refine r_n true rfl (by decide) rfl ?_
                  refine r_n true rfl (by decide) rfl ?_
                  refine r_n true rfl (by decide) rfl ?_
                  refine r_n true rfl (by decide) rfl ?_
                  refine r_n true rfl (by decide) rfl ?_
                  refine r_n true rfl (by decide) rfl ?_
                  refine r_n true rfl (by decide) rfl ?_
                  refine r_n true rfl (by decide) rfl ?_
                  refine r_v (Value.bool (true)) rfl rfl rfl rfl ?_
                  refine lx_nil ?_
                  refine hK87 _ _ ?_; try clear hK87 K87
                  refine A_cond true rfl (fun _ => ?_) (fun h_ => nomatch h_)
                  refine A_seq fun K102 hK102 => ?_
                  refine A_reg ?_
                  refine r_v (Value.bool (false)) rfl rfl rfl rfl ?_
                  refine lx_nil ?_
                  refine hK102 _ _ ?_; try clear hK102 K102
                  refine A_gen [(4, Value.bool (false))] rfl (fun T => ?_)
                  obtain rfl := Option.some.inj hM
                  refine A_ret (fun hn => endsV (v0 := Value.bool (false)) rfl (res1 rfl))
              · clear hM; rintro t l ⟨hM, ⟨T, rfl⟩, rfl⟩
                unfold shunterlaw07_WireFaults_k3 at hM
                refine A_seq fun K59 hK59 => ?_
                refine A_regC [(some 123, false)] (conG Tryd.prog [(123, fun _ _ v_ L_ U_ => (pV (Value.pointer (some ⟨b56, 0, none⟩))) v_ L_ U_)]) ?_
                refine r_v (Value.iface 44 (Value.pointer (some ⟨b56, 0, none⟩))) rfl rfl rfl rfl ?_
                replace hM := bind_sm hM; obtain ⟨r60, hr61, hM⟩ := hM
                refine r_gv (Value.pointer (some ⟨b56, 0, none⟩)) 21 _ rfl rfl rfl (ev_callF rfl call_21 rfl) (fun own_ nw_ hs_ => (Does.inv (wire_Only_v1_g N x54_0 x55_1 _ hr61 hs_.view b56 (blk_own 1 rfl rfl own_ nw_ hs_)) _)) (fun _ _ _ _ _ => Iff.rfl) ?_
                refine r_v (Value.pointer (some ⟨b56, 0, none⟩)) rfl rfl rfl rfl ?_
                refine lx_nil ?_
                refine hK59 _ _ ?_; try clear hK59 K59
                refine A_seq fun K62 hK62 => ?_
                refine A_seq fun K63 hK63 => ?_
                refine A_reg ?_
                refine r_v (bv) rfl rfl rfl rfl ?_
                refine r_v (Value.int .i64 (((b).length : Int))) rfl rfl rfl (ev_lenSl rfl rfl rfl (Rd.shp hb)) ?_
                refine r_v (Value.bool (((((b).length : Int) : Int) == 0))) rfl rfl rfl rfl ?_
                refine lx_nil ?_
                refine hK63 _ _ ?_; try clear hK63 K63
                refine A_cond (((((b).length : Int) : Int) == 0)) rfl (fun hc64 => ?_) (fun hc64 => ?_)
                · replace hM := ifp (eq_of_beq hc64) hM
                  refine A_seq fun K65 hK65 => ?_
                  refine A_draw [] (by decide +kernel) (fun hn => sep_nil) ?_
                  refine r_v (Value.pointer (some ⟨b56, 0, none⟩)) rfl rfl rfl rfl ?_
                  refine r_v (Value.pointer (some ⟨b56, 0, none⟩)) rfl rfl rfl rfl ?_
                  refine r_v (Value.pointer (some ⟨b56, 0, none⟩)) rfl rfl rfl rfl ?_
                  refine r_l (Value.int .i64 (x54_0)) 1 _ _ _ _ rfl rfl rfl rfl rfl ?_
                  refine r_v (Value.bool (((x54_0 : Int) == 3))) rfl rfl rfl rfl ?_
                  refine r_v (Value.bool (((x54_0 : Int) == 3))) rfl rfl rfl rfl ?_
                  rcases hg66 : (((x54_0 : Int) == 3)) with _ | _
                  · replace hM := ifn (ne_of_beq_false hg66) hM
                    refine r_n false rfl (by decide) rfl ?_
                    refine r_n false rfl (by decide) rfl ?_
                    refine r_n false rfl (by decide) rfl ?_
                    refine r_n false rfl (by decide) rfl ?_
                    refine r_n false rfl (by decide) rfl ?_
                    refine r_v (Value.bool (false)) rfl rfl rfl rfl ?_
                    refine r_v (Value.bool (false)) rfl rfl rfl rfl ?_
                    refine r_n false rfl (by decide) rfl ?_
                    refine r_n false rfl (by decide) rfl ?_
                    refine r_n false rfl (by decide) rfl ?_
                    refine r_n false rfl (by decide) rfl ?_
                    refine r_n false rfl (by decide) rfl ?_
                    refine r_n false rfl (by decide) rfl ?_
                    refine r_n false rfl (by decide) rfl ?_
                    refine r_n false rfl (by decide) rfl ?_
                    refine r_n false rfl (by decide) rfl ?_
                    refine r_v (Value.bool (false)) rfl rfl rfl rfl ?_
                    refine r_v (Value.bool (false)) rfl rfl rfl rfl ?_
                    refine r_n false rfl (by decide) rfl ?_
                    refine r_v (Value.bool (false)) rfl rfl rfl rfl ?_
                    refine r_v (Value.bool (false)) rfl rfl rfl rfl ?_
                    refine lx_nil ?_
                    refine hK65 _ _ ?_; try clear hK65 K65
                    refine A_gen [(4, Value.bool (false))] rfl (fun T => ?_)
                    obtain rfl := Option.some.inj hM
                    refine A_ret (fun hn => endsV (v0 := Value.bool (false)) rfl (res1 rfl))
                  · replace hM := ifp (eq_of_beq hg66) hM
                    refine r_y rfl ?_
                    refine r_v (Value.pointer (some ⟨b56, 0, none⟩)) rfl rfl rfl rfl ?_
                    refine r_y rfl ?_
                    refine r_v (Value.pointer (some ⟨b56, 0, none⟩)) rfl rfl rfl rfl ?_
                    refine r_y rfl ?_
                    refine r_v (Value.pointer (some ⟨b56, 1, none⟩)) rfl rfl rfl rfl ?_
                    refine r_y rfl ?_
                    refine r_l (Value.int .i64 (x55_1)) 1 _ _ _ _ rfl rfl rfl rfl rfl ?_
                    refine r_y rfl ?_
                    refine r_v (Value.bool (((x55_1 : Int) == 0))) rfl rfl rfl rfl ?_
                    refine r_v (Value.bool (((x55_1 : Int) == 0))) rfl rfl rfl rfl ?_
                    refine r_v (Value.bool (((x55_1 : Int) == 0))) rfl rfl rfl rfl ?_
                    rcases hg67 : (((x55_1 : Int) == 0)) with _ | _
                    · replace hM := ifn (ne_of_beq_false hg67) hM
                      refine r_n false rfl (by decide) rfl ?_
                      refine r_n false rfl (by decide) rfl ?_
                      refine r_n false rfl (by decide) rfl ?_
                      refine r_n false rfl (by decide) rfl ?_
                      refine r_n false rfl (by decide) rfl ?_
                      refine r_n false rfl (by decide) rfl ?_
                      refine r_n false rfl (by decide) rfl ?_
                      refine r_n false rfl (by decide) rfl ?_
                      refine r_n false rfl (by decide) rfl ?_
                      refine r_v (Value.bool (false)) rfl rfl rfl rfl ?_
                      refine r_v (Value.bool (false)) rfl rfl rfl rfl ?_
                      refine r_n false rfl (by decide) rfl ?_
                      refine r_v (Value.bool (false)) rfl rfl rfl rfl ?_
                      refine r_v (Value.bool (false)) rfl rfl rfl rfl ?_
                      refine lx_nil ?_
                      refine hK65 _ _ ?_; try clear hK65 K65
                      refine A_gen [(4, Value.bool (false))] rfl (fun T => ?_)
                      obtain rfl := Option.some.inj hM
                      refine A_ret (fun hn => endsV (v0 := Value.bool (false)) rfl (res1 rfl))
                    · replace hM := ifp (eq_of_beq hg67) hM
                      refine r_y rfl ?_
                      refine r_v (Value.pointer (some ⟨b56, 0, none⟩)) rfl rfl rfl rfl ?_
                      refine r_y rfl ?_
                      refine r_v (Value.pointer (some ⟨b56, 0, none⟩)) rfl rfl rfl rfl ?_
                      refine r_y rfl ?_
                      refine r_v (Value.pointer (some ⟨b56, 0, none⟩)) rfl rfl rfl rfl ?_
                      refine r_y rfl ?_
                      refine r_l (Value.int .i64 (x54_0)) 1 _ _ _ _ rfl rfl rfl rfl rfl ?_
                      refine r_y rfl ?_
                      refine r_v (Value.pointer (some ⟨b56, 0, none⟩)) rfl rfl rfl rfl ?_
                      refine r_y rfl ?_
                      refine r_v (Value.pointer (some ⟨b56, 0, none⟩)) rfl rfl rfl rfl ?_
                      refine r_y rfl ?_
                      refine r_v (Value.pointer (some ⟨b56, 0, none⟩)) rfl rfl rfl rfl ?_
                      refine r_y rfl ?_
                      refine r_l (Value.int .i64 (x54_0)) 1 _ _ _ _ rfl rfl rfl rfl rfl ?_
                      refine r_y rfl ?_
                      refine r_v (Value.bool (((x54_0 : Int) == x54_0))) rfl rfl rfl rfl ?_
                      refine r_v (Value.bool (((x54_0 : Int) == x54_0))) rfl rfl rfl rfl ?_
                      refine r_v (Value.bool (((x54_0 : Int) == x54_0))) rfl rfl rfl rfl ?_
                      rcases hg68 : (((x54_0 : Int) == x54_0)) with _ | _
                      · replace hM := ifn (ne_of_beq_false hg68) hM
                        refine r_n false rfl (by decide) rfl ?_
                        refine r_v (Value.bool (false)) rfl rfl rfl rfl ?_
                        refine r_v (Value.bool (false)) rfl rfl rfl rfl ?_
                        refine lx_nil ?_
                        refine hK65 _ _ ?_; try clear hK65 K65
                        refine A_gen [(4, Value.bool (false))] rfl (fun T => ?_)
                        obtain rfl := Option.some.inj hM
                        refine A_ret (fun hn => endsV (v0 := Value.bool (false)) rfl (res1 rfl))
                      · replace hM := ifp (eq_of_beq hg68) hM
                        refine r_y rfl ?_
                        replace hM := bind_sm hM; obtain ⟨r69, hr70, hM⟩ := hM
                        refine r_c (Value.bool (r69)) rfl _ _ (ev_callF rfl call_4 rfl) (shunterlaw07_lives_g N  _ hr70) ?_
                        refine r_v (Value.bool (r69)) rfl rfl rfl rfl ?_
                        refine r_v (Value.bool (r69)) rfl rfl rfl rfl ?_
                        refine lx_nil ?_
                        refine hK65 _ _ ?_; try clear hK65 K65
                        refine A_gen [(4, Value.bool (r69))] rfl (fun T => ?_)
                        obtain rfl := Option.some.inj hM
                        refine A_ret (fun hn => endsV (v0 := Value.bool (r69)) rfl (res1 rfl))
                · replace hM := ifn (ne_of_beq_false hc64) hM
                  refine A_skip ?_
                  refine hK62 _ _ ?_; try clear hK62 K62
                  refine A_seq fun K71 hK71 => ?_
                  refine A_drawR [(some 191, true), (some 196, false)] (conG Tryd.prog [(191, fun _ _ v_ L_ U_ => ∀ u0_, wire_Reader_Byte_v2_m N r45.1 r45.2.1 r45.2.2 n = some u0_ → (pO (List.flatten [[(b29, 55, #[s30, Value.int .i64 (r45.2.1), Value.int .i64 (r45.2.2)])], S48]) (oI 5 encY s30 u0_.2.1 (oE (Value.int .i64 (u0_.1)) [[(b29, 55, #[s30, Value.int .i64 (u0_.2.2.1), Value.int .i64 (u0_.2.2.2)])]]))) v_ L_ U_), (196, fun _ _ v_ L_ U_ => ∀ u0_, wire_Reader_Byte_v2_m N r45.1 r45.2.1 r45.2.2 n = some u0_ → ∀ u1_, wire_Reader_At_v2_m N u0_.2.1 u0_.2.2.1 u0_.2.2.2 = some u1_ → (pV (Value.int .i64 (u1_))) v_ L_ U_)]) [] (by decide +kernel) (fun hn => sep_nil) ?_
                  refine r_v (Value.pointer (some ⟨b56, 0, none⟩)) rfl rfl rfl rfl ?_
                  refine r_v (Value.pointer (some ⟨b56, 0, none⟩)) rfl rfl rfl rfl ?_
                  refine r_v (Value.pointer (some ⟨b56, 0, none⟩)) rfl rfl rfl rfl ?_
                  refine r_l (Value.int .i64 (x54_0)) 1 _ _ _ _ rfl rfl rfl rfl rfl ?_
                  refine r_v (Value.bool (((x54_0 : Int) == 5))) rfl rfl rfl rfl ?_
                  refine r_v (Value.bool (((x54_0 : Int) == 5))) rfl rfl rfl rfl ?_
                  rcases hg72 : (((x54_0 : Int) == 5)) with _ | _
                  · replace hM := ifn (ne_of_beq_false hg72) hM
                    refine r_n false rfl (by decide) rfl ?_
                    refine r_n false rfl (by decide) rfl ?_
                    refine r_n false rfl (by decide) rfl ?_
                    refine r_n false rfl (by decide) rfl ?_
                    refine r_n false rfl (by decide) rfl ?_
                    refine r_n false rfl (by decide) rfl ?_
                    refine r_v (Value.bool (false)) rfl rfl rfl rfl ?_
                    refine r_v (Value.bool (false)) rfl rfl rfl rfl ?_
                    refine r_n false rfl (by decide) rfl ?_
                    refine r_n false rfl (by decide) rfl ?_
                    refine r_n false rfl (by decide) rfl ?_
                    refine r_n false rfl (by decide) rfl ?_
                    refine r_n false rfl (by decide) rfl ?_
                    refine r_n false rfl (by decide) rfl ?_
                    refine r_n false rfl (by decide) rfl ?_
                    refine r_n false rfl (by decide) rfl ?_
                    refine r_n false rfl (by decide) rfl ?_
                    refine r_v (Value.bool (false)) rfl rfl rfl rfl ?_
                    refine r_v (Value.bool (false)) rfl rfl rfl rfl ?_
                    refine r_n false rfl (by decide) rfl ?_
                    refine r_n false rfl (by decide) rfl ?_
                    refine r_n false rfl (by decide) rfl ?_
                    refine r_n false rfl (by decide) rfl ?_
                    refine r_n false rfl (by decide) rfl ?_
                    refine r_n false rfl (by decide) rfl ?_
                    refine r_n false rfl (by decide) rfl ?_
                    refine r_n false rfl (by decide) rfl ?_
                    refine r_n false rfl (by decide) rfl ?_
                    refine r_v (Value.bool (false)) rfl rfl rfl rfl ?_
                    refine r_v (Value.bool (false)) rfl rfl rfl rfl ?_
                    refine r_n false rfl (by decide) rfl ?_
                    refine r_n false rfl (by decide) rfl ?_
                    refine r_n false rfl (by decide) rfl ?_
                    refine r_n false rfl (by decide) rfl ?_
                    refine r_v (Value.bool (false)) rfl rfl rfl rfl ?_
                    refine r_v (Value.bool (false)) rfl rfl rfl rfl ?_
                    refine r_n false rfl (by decide) rfl ?_
                    refine r_n false rfl (by decide) rfl ?_
                    refine r_n false rfl (by decide) rfl ?_
                    refine r_n false rfl (by decide) rfl ?_
                    refine r_v (Value.bool (false)) rfl rfl rfl rfl ?_
                    refine r_v (Value.bool (false)) rfl rfl rfl rfl ?_
                    refine r_n false rfl (by decide) rfl ?_
                    refine r_v (Value.bool (false)) rfl rfl rfl rfl ?_
                    refine r_v (Value.bool (false)) rfl rfl rfl rfl ?_
                    refine lx_nil ?_
                    refine hK71 _ _ ?_; try clear hK71 K71
                    refine A_gen [(4, Value.bool (false))] rfl (fun T => ?_)
                    obtain rfl := Option.some.inj hM
                    refine A_ret (fun hn => endsV (v0 := Value.bool (false)) rfl (res1 rfl))
                  · replace hM := ifp (eq_of_beq hg72) hM
                    refine r_y rfl ?_
                    refine r_v (Value.pointer (some ⟨b56, 0, none⟩)) rfl rfl rfl rfl ?_
                    refine r_y rfl ?_
                    refine r_v (Value.pointer (some ⟨b56, 0, none⟩)) rfl rfl rfl rfl ?_
                    refine r_y rfl ?_
                    refine r_v (Value.pointer (some ⟨b56, 1, none⟩)) rfl rfl rfl rfl ?_
                    refine r_y rfl ?_
                    refine r_l (Value.int .i64 (x55_1)) 1 _ _ _ _ rfl rfl rfl rfl rfl ?_
                    refine r_y rfl ?_
                    refine r_v (Value.int .i64 (r42)) rfl rfl rfl rfl ?_
                    refine r_y rfl ?_
                    refine r_v (Value.bool (((x55_1 : Int) == r42))) rfl rfl rfl rfl ?_
                    refine r_v (Value.bool (((x55_1 : Int) == r42))) rfl rfl rfl rfl ?_
                    refine r_v (Value.bool (((x55_1 : Int) == r42))) rfl rfl rfl rfl ?_
                    rcases hg73 : (((x55_1 : Int) == r42)) with _ | _
                    · replace hM := ifn (ne_of_beq_false hg73) hM
                      refine r_n false rfl (by decide) rfl ?_
                      refine r_n false rfl (by decide) rfl ?_
                      refine r_n false rfl (by decide) rfl ?_
                      refine r_n false rfl (by decide) rfl ?_
                      refine r_n false rfl (by decide) rfl ?_
                      refine r_n false rfl (by decide) rfl ?_
                      refine r_n false rfl (by decide) rfl ?_
                      refine r_n false rfl (by decide) rfl ?_
                      refine r_n false rfl (by decide) rfl ?_
                      refine r_v (Value.bool (false)) rfl rfl rfl rfl ?_
                      refine r_v (Value.bool (false)) rfl rfl rfl rfl ?_
                      refine r_n false rfl (by decide) rfl ?_
                      refine r_n false rfl (by decide) rfl ?_
                      refine r_n false rfl (by decide) rfl ?_
                      refine r_n false rfl (by decide) rfl ?_
                      refine r_n false rfl (by decide) rfl ?_
                      refine r_n false rfl (by decide) rfl ?_
                      refine r_n false rfl (by decide) rfl ?_
                      refine r_n false rfl (by decide) rfl ?_
                      refine r_n false rfl (by decide) rfl ?_
                      refine r_v (Value.bool (false)) rfl rfl rfl rfl ?_
                      refine r_v (Value.bool (false)) rfl rfl rfl rfl ?_
                      refine r_n false rfl (by decide) rfl ?_
                      refine r_n false rfl (by decide) rfl ?_
                      refine r_n false rfl (by decide) rfl ?_
                      refine r_n false rfl (by decide) rfl ?_
                      refine r_v (Value.bool (false)) rfl rfl rfl rfl ?_
                      refine r_v (Value.bool (false)) rfl rfl rfl rfl ?_
                      refine r_n false rfl (by decide) rfl ?_
                      refine r_n false rfl (by decide) rfl ?_
                      refine r_n false rfl (by decide) rfl ?_
                      refine r_n false rfl (by decide) rfl ?_
                      refine r_v (Value.bool (false)) rfl rfl rfl rfl ?_
                      refine r_v (Value.bool (false)) rfl rfl rfl rfl ?_
                      refine r_n false rfl (by decide) rfl ?_
                      refine r_v (Value.bool (false)) rfl rfl rfl rfl ?_
                      refine r_v (Value.bool (false)) rfl rfl rfl rfl ?_
                      refine lx_nil ?_
                      refine hK71 _ _ ?_; try clear hK71 K71
                      refine A_gen [(4, Value.bool (false))] rfl (fun T => ?_)
                      obtain rfl := Option.some.inj hM
                      refine A_ret (fun hn => endsV (v0 := Value.bool (false)) rfl (res1 rfl))
                    · replace hM := ifp (eq_of_beq hg73) hM
                      refine r_y rfl ?_
                      refine r_v (Value.pointer (some ⟨b56, 0, none⟩)) rfl rfl rfl rfl ?_
                      refine r_y rfl ?_
                      refine r_v (Value.pointer (some ⟨b56, 0, none⟩)) rfl rfl rfl rfl ?_
                      refine r_y rfl ?_
                      refine r_v (Value.pointer (some ⟨b56, 0, none⟩)) rfl rfl rfl rfl ?_
                      refine r_y rfl ?_
                      refine r_l (Value.int .i64 (x54_0)) 1 _ _ _ _ rfl rfl rfl rfl rfl ?_
                      refine r_y rfl ?_
                      refine r_v (Value.pointer (some ⟨b56, 0, none⟩)) rfl rfl rfl rfl ?_
                      refine r_y rfl ?_
                      refine r_v (Value.pointer (some ⟨b56, 0, none⟩)) rfl rfl rfl rfl ?_
                      refine r_y rfl ?_
                      refine r_v (Value.pointer (some ⟨b56, 0, none⟩)) rfl rfl rfl rfl ?_
                      refine r_y rfl ?_
                      refine r_l (Value.int .i64 (x54_0)) 1 _ _ _ _ rfl rfl rfl rfl rfl ?_
                      refine r_y rfl ?_
                      refine r_v (Value.bool (((x54_0 : Int) == x54_0))) rfl rfl rfl rfl ?_
                      refine r_v (Value.bool (((x54_0 : Int) == x54_0))) rfl rfl rfl rfl ?_
                      refine r_v (Value.bool (((x54_0 : Int) == x54_0))) rfl rfl rfl rfl ?_
                      rcases hg74 : (((x54_0 : Int) == x54_0)) with _ | _
                      · replace hM := ifn (ne_of_beq_false hg74) hM
                        refine r_n false rfl (by decide) rfl ?_
                        refine r_n false rfl (by decide) rfl ?_
                        refine r_n false rfl (by decide) rfl ?_
                        refine r_n false rfl (by decide) rfl ?_
                        refine r_n false rfl (by decide) rfl ?_
                        refine r_n false rfl (by decide) rfl ?_
                        refine r_n false rfl (by decide) rfl ?_
                        refine r_n false rfl (by decide) rfl ?_
                        refine r_n false rfl (by decide) rfl ?_
                        refine r_v (Value.bool (false)) rfl rfl rfl rfl ?_
                        refine r_v (Value.bool (false)) rfl rfl rfl rfl ?_
                        refine r_n false rfl (by decide) rfl ?_
                        refine r_n false rfl (by decide) rfl ?_
                        refine r_n false rfl (by decide) rfl ?_
                        refine r_n false rfl (by decide) rfl ?_
                        refine r_v (Value.bool (false)) rfl rfl rfl rfl ?_
                        refine r_v (Value.bool (false)) rfl rfl rfl rfl ?_
                        refine r_n false rfl (by decide) rfl ?_
                        refine r_n false rfl (by decide) rfl ?_
                        refine r_n false rfl (by decide) rfl ?_
                        refine r_n false rfl (by decide) rfl ?_
                        refine r_v (Value.bool (false)) rfl rfl rfl rfl ?_
                        refine r_v (Value.bool (false)) rfl rfl rfl rfl ?_
                        refine r_n false rfl (by decide) rfl ?_
                        refine r_v (Value.bool (false)) rfl rfl rfl rfl ?_
                        refine r_v (Value.bool (false)) rfl rfl rfl rfl ?_
                        refine lx_nil ?_
                        refine hK71 _ _ ?_; try clear hK71 K71
                        refine A_gen [(4, Value.bool (false))] rfl (fun T => ?_)
                        obtain rfl := Option.some.inj hM
                        refine A_ret (fun hn => endsV (v0 := Value.bool (false)) rfl (res1 rfl))
                      · replace hM := ifp (eq_of_beq hg74) hM
                        refine r_y rfl ?_
                        refine r_v (Value.pointer (some ⟨b56, 0, none⟩)) rfl rfl rfl rfl ?_
                        refine r_y rfl ?_
                        refine r_v (Value.pointer (some ⟨b56, 0, none⟩)) rfl rfl rfl rfl ?_
                        refine r_y rfl ?_
                        refine r_v (Value.pointer (some ⟨b56, 1, none⟩)) rfl rfl rfl rfl ?_
                        refine r_y rfl ?_
                        refine r_l (Value.int .i64 (x55_1)) 1 _ _ _ _ rfl rfl rfl rfl rfl ?_
                        refine r_y rfl ?_
                        refine r_v (Value.pointer (some ⟨b56, 0, none⟩)) rfl rfl rfl rfl ?_
                        refine r_y rfl ?_
                        refine r_v (Value.pointer (some ⟨b56, 0, none⟩)) rfl rfl rfl rfl ?_
                        refine r_y rfl ?_
                        refine r_v (Value.pointer (some ⟨b56, 1, none⟩)) rfl rfl rfl rfl ?_
                        refine r_y rfl ?_
                        refine r_l (Value.int .i64 (x55_1)) 1 _ _ _ _ rfl rfl rfl rfl rfl ?_
                        refine r_y rfl ?_
                        refine r_v (Value.bool (((x55_1 : Int) == x55_1))) rfl rfl rfl rfl ?_
                        refine r_v (Value.bool (((x55_1 : Int) == x55_1))) rfl rfl rfl rfl ?_
                        refine r_v (Value.bool (((x55_1 : Int) == x55_1))) rfl rfl rfl rfl ?_
                        rcases hg75 : (((x55_1 : Int) == x55_1)) with _ | _
                        · replace hM := ifn (ne_of_beq_false hg75) hM
                          refine r_n false rfl (by decide) rfl ?_
                          refine r_n false rfl (by decide) rfl ?_
                          refine r_n false rfl (by decide) rfl ?_
                          refine r_n false rfl (by decide) rfl ?_
                          refine r_v (Value.bool (false)) rfl rfl rfl rfl ?_
                          refine r_v (Value.bool (false)) rfl rfl rfl rfl ?_
                          refine r_n false rfl (by decide) rfl ?_
                          refine r_n false rfl (by decide) rfl ?_
                          refine r_n false rfl (by decide) rfl ?_
                          refine r_n false rfl (by decide) rfl ?_
                          refine r_v (Value.bool (false)) rfl rfl rfl rfl ?_
                          refine r_v (Value.bool (false)) rfl rfl rfl rfl ?_
                          refine r_n false rfl (by decide) rfl ?_
                          refine r_v (Value.bool (false)) rfl rfl rfl rfl ?_
                          refine r_v (Value.bool (false)) rfl rfl rfl rfl ?_
                          refine lx_nil ?_
                          refine hK71 _ _ ?_; try clear hK71 K71
                          refine A_gen [(4, Value.bool (false))] rfl (fun T => ?_)
                          obtain rfl := Option.some.inj hM
                          refine A_ret (fun hn => endsV (v0 := Value.bool (false)) rfl (res1 rfl))
                        · replace hM := ifp (eq_of_beq hg75) hM
                          refine r_y rfl ?_
                          refine r_v (Value.pointer (some ⟨b29, 0, none⟩)) rfl rfl rfl rfl ?_
                          refine r_y rfl ?_
                          refine r_v (Value.int .i64 (n)) rfl rfl rfl rfl ?_
                          refine r_y rfl ?_
                          replace hM := bind_sm hM; obtain ⟨r76, hr77, hM⟩ := hM
                          replace hM := ck_some hM; obtain ⟨ck78, hM⟩ := hM
                          refine r_gm (Ls := [[(b29, 55, #[s30, Value.int .i64 (r45.2.1), Value.int .i64 (r45.2.2)])], [(b56, 48, #[Value.int .i64 (x54_0), Value.int .i64 (x55_1)])], S48]) (FL := [[(b29, 55, #[s30, Value.int .i64 (r45.2.1), Value.int .i64 (r45.2.2)])], S48]) (RL := [[(b56, 48, #[Value.int .i64 (x54_0), Value.int .i64 (x55_1)])]]) [0, 2] (oI 5 encY s30 r76.2.1 (oE (Value.int .i64 (r76.1)) [[(b29, 55, #[s30, Value.int .i64 (r76.2.2.1), Value.int .i64 (r76.2.2.2)])]])) (some 191) 9 _ rfl rfl rfl rfl rfl (ev_callF rfl call_9 rfl) (fun own_ nw_ hn_ hs_ => (Does.inv (wire_Reader_Byte_v2_g N r45.1 r45.2.1 r45.2.2 n _ hr77 _ b29 s30 S48 H49) _)) (fun _ _ v_ L_ U_ => ⟨fun h_ => h_ _ hr77, fun h_ => by intro _ e_; cases Option.some.inj (e_.symm.trans hr77); exact h_⟩) (fun _ => (NiceO.sub (R := (S48 ++ ([(b29, 55, #[s30, Value.int .i64 (r45.2.1), Value.int .i64 (r45.2.2)])] ++ []))) (niceI H49 ck78 (niceE rfl)) (Sub.pick [[(b29, 55, #[s30, Value.int .i64 (r45.2.1), Value.int .i64 (r45.2.2)])], S48] [1, 0] rfl))) ?_
                          rintro _ _ ⟨S79, _, H80, ⟨rfl, rfl⟩, rfl⟩
                          refine lx_perm (Ls := [[(b56, 48, #[Value.int .i64 (x54_0), Value.int .i64 (x55_1)])], S79, [(b29, 55, #[s30, Value.int .i64 (r76.2.2.1), Value.int .i64 (r76.2.2.2)])]]) (Ls' := [[(b56, 48, #[Value.int .i64 (x54_0), Value.int .i64 (x55_1)])], [(b29, 55, #[s30, Value.int .i64 (r76.2.2.1), Value.int .i64 (r76.2.2.2)])], S79]) [0, 2, 1] rfl rfl ?_
                          refine r_y rfl ?_
                          refine r_v (Value.bool (((r76.1 : Int) == 0))) rfl rfl rfl rfl ?_
                          refine r_v (Value.bool (((r76.1 : Int) == 0))) rfl rfl rfl rfl ?_
                          refine r_v (Value.bool (((r76.1 : Int) == 0))) rfl rfl rfl rfl ?_
                          rcases hg81 : (((r76.1 : Int) == 0)) with _ | _
                          · replace hM := ifn (ne_of_beq_false hg81) hM
                            refine r_n false rfl (by decide) rfl ?_
                            refine r_n false rfl (by decide) rfl ?_
                            refine r_n false rfl (by decide) rfl ?_
                            refine r_n false rfl (by decide) rfl ?_
                            refine r_v (Value.bool (false)) rfl rfl rfl rfl ?_
                            refine r_v (Value.bool (false)) rfl rfl rfl rfl ?_
                            refine r_n false rfl (by decide) rfl ?_
                            refine r_v (Value.bool (false)) rfl rfl rfl rfl ?_
                            refine r_v (Value.bool (false)) rfl rfl rfl rfl ?_
                            refine lx_nil ?_
                            refine hK71 _ _ ?_; try clear hK71 K71
                            refine A_gen [(4, Value.bool (false))] rfl (fun T => ?_)
                            obtain rfl := Option.some.inj hM
                            refine A_ret (fun hn => endsV (v0 := Value.bool (false)) rfl (res1 rfl))
                          · replace hM := ifp (eq_of_beq hg81) hM
                            refine r_y rfl ?_
                            refine r_v (Value.pointer (some ⟨b29, 0, none⟩)) rfl rfl rfl rfl ?_
                            refine r_y rfl ?_
                            replace hM := bind_sm hM; obtain ⟨r82, hr83, hM⟩ := hM
                            refine r_gv (Value.int .i64 (r82)) 16 _ rfl rfl rfl (ev_callF rfl call_16 rfl) (fun own_ nw_ hs_ => (Does.inv (wire_Reader_At_v2_g N r76.2.1 r76.2.2.1 r76.2.2.2 _ hr83 hs_.view b29 s30 ((rd_own H80 (mem_chunk (Ls := [[(b56, 48, #[Value.int .i64 (x54_0), Value.int .i64 (x55_1)])], [(b29, 55, #[s30, Value.int .i64 (r76.2.2.1), Value.int .i64 (r76.2.2.2)])], S79]) (k := 2) rfl rfl)) own_ nw_ hs_) (blk_own 1 rfl rfl own_ nw_ hs_)) _)) (fun _ _ v_ L_ U_ => ⟨fun h_ => h_ _ hr77 _ hr83, fun h_ => by intro _ e_; cases Option.some.inj (e_.symm.trans hr77); intro _ e_; cases Option.some.inj (e_.symm.trans hr83); exact h_⟩) ?_
                            refine r_y rfl ?_
                            refine r_v (Value.int .i64 (r42)) rfl rfl rfl rfl ?_
                            refine r_y rfl ?_
                            refine r_v (Value.bool (((r82 : Int) == r42))) rfl rfl rfl rfl ?_
                            refine r_v (Value.bool (((r82 : Int) == r42))) rfl rfl rfl rfl ?_
                            refine r_v (Value.bool (((r82 : Int) == r42))) rfl rfl rfl rfl ?_
                            rcases hg84 : (((r82 : Int) == r42)) with _ | _
                            · replace hM := ifn (ne_of_beq_false hg84) hM
                              refine r_n false rfl (by decide) rfl ?_
                              refine r_v (Value.bool (false)) rfl rfl rfl rfl ?_
                              refine r_v (Value.bool (false)) rfl rfl rfl rfl ?_
                              refine lx_nil ?_
                              refine hK71 _ _ ?_; try clear hK71 K71
                              refine A_gen [(4, Value.bool (false))] rfl (fun T => ?_)
                              obtain rfl := Option.some.inj hM
                              refine A_ret (fun hn => endsV (v0 := Value.bool (false)) rfl (res1 rfl))
                            · replace hM := ifp (eq_of_beq hg84) hM
                              refine r_y rfl ?_
                              replace hM := bind_sm hM; obtain ⟨r85, hr86, hM⟩ := hM
                              refine r_c (Value.bool (r85)) rfl _ _ (ev_callF rfl call_4 rfl) (shunterlaw07_lives_g N  _ hr86) ?_
                              refine r_v (Value.bool (r85)) rfl rfl rfl rfl ?_
                              refine r_v (Value.bool (r85)) rfl rfl rfl rfl ?_
                              refine lx_nil ?_
                              refine hK71 _ _ ?_; try clear hK71 K71
                              refine A_gen [(4, Value.bool (r85))] rfl (fun T => ?_)
                              obtain rfl := Option.some.inj hM
                              refine A_ret (fun hn => endsV (v0 := Value.bool (r85)) rfl (res1 rfl))
      · obtain ⟨b24, _, ⟨rfl, rfl⟩, rfl⟩ := Sum30.onP_t44 hx21 hp_
        replace hM := Sum30.on_t44 hx21 hM
        refine lx_perm (Ls := [[(b24, 48, #[Value.int .i64 (x22_0), Value.int .i64 (x23_1)])]]) (Ls' := [[(b24, 48, #[Value.int .i64 (x22_0), Value.int .i64 (x23_1)])]]) [0] rfl rfl ?_
        replace hM := bind_sm hM; obtain ⟨r25, hr26, hM⟩ := hM
        refine r_gv (Value.tuple #[Value.int .i64 (r25.1), Value.int .i64 (r25.2)]) 7 _ rfl rfl rfl (ev_callF rfl call_7 rfl) (fun own_ nw_ hs_ => (Does.inv (wire_Why_v2_g N x22_0 x23_1 _ hr26 hs_.view b24 (blk_own 0 rfl rfl own_ nw_ hs_)) _)) (fun _ _ v_ L_ U_ => ⟨fun h_ => h_.2 _ hr20 _ _ hx21 _ hr26, fun h_ => ⟨by intro _ e_; cases Option.some.inj (e_.symm.trans hr20); intro e_; first | (cases (e_.symm.trans hx21); done) | (cases (e_.symm.trans hx21); intro _ e_; cases Option.some.inj (e_.symm.trans hr25); exact h_), by intro _ e_; cases Option.some.inj (e_.symm.trans hr20); intro _ _ e_; first | (cases (e_.symm.trans hx21); done) | (cases (e_.symm.trans hx21); intro _ e_; cases Option.some.inj (e_.symm.trans hr26); exact h_)⟩⟩) ?_
        refine r_v (Value.tuple #[Value.int .i64 (r25.1), Value.int .i64 (r25.2)]) rfl rfl rfl rfl ?_
        refine r_v (Value.int .i64 (r25.1)) rfl rfl rfl rfl ?_
        refine r_v (Value.int .i64 (r25.2)) rfl rfl rfl rfl ?_
        refine r_v (Value.int .i64 (r25.1)) rfl rfl rfl rfl ?_
        refine r_v (Value.int .i64 (r25.2)) rfl rfl rfl rfl ?_
        refine lx_nil ?_
        refine hK18 _ _ ?_; try clear hK18 K18
        refine A_cut (fun tt ll => (shunterlaw07_WireFaults_k4 N b n  = some r) ∧ Is [(0, bv), (1, Value.int .i64 (n))] [] tt ll) ?_ ?_
        · refine A_seq fun K105 hK105 => ?_
          refine A_regC [(some 56, false), (some 59, false)] (conG Tryd.prog [(56, fun _ _ v_ L_ U_ => ∀ u0_, wire_Reader_Vecs_v1_m N 9 = some u0_ → (p1 (fun s_ => s_) 35 enc_35 (u0_)) v_ L_ U_), (59, fun _ _ v_ L_ U_ => ∀ u0_, wire_Reader_Numbers_v1_m N 9 9 = some u0_ → (p1 (fun s_ => s_) 3 encI (u0_)) v_ L_ U_)]) ?_
          refine r_v (Value.pointer none) rfl rfl rfl rfl ?_
          replace hM := bind_sm hM; obtain ⟨r106, hr107, hM⟩ := hM
          refine r_c (Value.int .i64 (r106)) rfl _ _ (ev_callF rfl call_9 rfl) (wire_Reader_Byte_v1_g N 9 _ hr107) ?_
          refine r_v (Value.bool (((r106 : Int) != 0))) rfl rfl rfl rfl ?_
          refine r_v (Value.bool (((r106 : Int) != 0))) rfl rfl rfl rfl ?_
          rcases hg108 : (((r106 : Int) != 0)) with _ | _
          · replace hM := ifn (bne_f hg108) hM
            refine r_y rfl ?_
            refine r_v (Value.pointer none) rfl rfl rfl rfl ?_
            refine r_y rfl ?_
            replace hM := bind_sm hM; obtain ⟨r109, hr110, hM⟩ := hM
            refine r_c (Value.int .i64 (r109)) rfl _ _ (ev_callF rfl call_10 rfl) (wire_Reader_Two_v1_g N 9 _ hr110) ?_
            refine r_y rfl ?_
            refine r_v (Value.bool (((r109 : Int) != 0))) rfl rfl rfl rfl ?_
            refine r_v (Value.bool (((r109 : Int) != 0))) rfl rfl rfl rfl ?_
            refine r_v (Value.bool (((r109 : Int) != 0))) rfl rfl rfl rfl ?_
            rcases hg111 : (((r109 : Int) != 0)) with _ | _
            · replace hM := ifn (bne_f hg111) hM
              refine r_y rfl ?_
              refine r_v (Value.pointer none) rfl rfl rfl rfl ?_
              refine r_y rfl ?_
              replace hM := bind_sm hM; obtain ⟨r112, hr113, hM⟩ := hM
              refine r_c (Value.int .i64 (r112)) rfl _ _ (ev_callF rfl call_11 rfl) (wire_Reader_Four_v1_g N 9 _ hr113) ?_
              refine r_y rfl ?_
              refine r_v (Value.bool (((r112 : Int) != 0))) rfl rfl rfl rfl ?_
              refine r_v (Value.bool (((r112 : Int) != 0))) rfl rfl rfl rfl ?_
              refine r_v (Value.bool (((r112 : Int) != 0))) rfl rfl rfl rfl ?_
              rcases hg114 : (((r112 : Int) != 0)) with _ | _
              · replace hM := ifn (bne_f hg114) hM
                refine r_y rfl ?_
                refine r_v (Value.pointer none) rfl rfl rfl rfl ?_
                refine r_y rfl ?_
                replace hM := bind_sm hM; obtain ⟨r115, hr116, hM⟩ := hM
                refine r_c (Value.agg #[Value.int .i64 (r115.1), U (hi (r115.2)), U (lo (r115.2))]) rfl _ _ (ev_callF rfl call_12 rfl) (wire_Reader_Vec_v1_g N  _ hr116) ?_
                refine r_y rfl ?_
                refine r_v (Value.agg #[Value.int .i64 (0), U (0#64), U (0#64)]) rfl rfl rfl (ev_buildS rfl rfl rfl rfl) ?_
                refine r_y rfl ?_
                refine r_v (Value.bool (!(((r115.1) == (0)) && ((r115.2) == ((0#64) ++ (0#64)))))) rfl rfl rfl (ev_binNe rfl rfl eg_35 (by have h_ := fun c => eqst_35 (c := c) (r115.1) (0) (r115.2) ((0#64) ++ (0#64)); simp only [app_hl] at h_; exact h_ _)) ?_
                refine r_v (Value.bool (!(((r115.1) == (0)) && ((r115.2) == ((0#64) ++ (0#64)))))) rfl rfl rfl rfl ?_
                refine r_v (Value.bool (!(((r115.1) == (0)) && ((r115.2) == ((0#64) ++ (0#64)))))) rfl rfl rfl rfl ?_
                rcases hg117 : (!(((r115.1) == (0)) && ((r115.2) == ((0#64) ++ (0#64))))) with _ | _
                · replace hM := ifp (not_f hg117) hM
                  refine r_y rfl ?_
                  refine r_v (Value.pointer none) rfl rfl rfl rfl ?_
                  refine r_y rfl ?_
                  replace hM := bind_sm hM; obtain ⟨r118, hr119, hM⟩ := hM
                  refine r_c (Value.string (⟨(r118).toArray⟩)) rfl _ _ (ev_callF rfl call_13 rfl) (wire_Reader_Name_v1_g N  _ hr119) ?_
                  refine r_y rfl ?_
                  refine r_v (Value.bool ((r118) != ([]))) rfl rfl rfl (ev_neS rfl rfl) ?_
                  refine r_v (Value.bool ((r118) != ([]))) rfl rfl rfl rfl ?_
                  refine r_v (Value.bool ((r118) != ([]))) rfl rfl rfl rfl ?_
                  rcases hg120 : ((r118) != ([])) with _ | _
                  · replace hM := ifn (bne_f hg120) hM
                    refine r_y rfl ?_
                    refine r_v (Value.pointer none) rfl rfl rfl rfl ?_
                    refine r_y rfl ?_
                    replace hM := bind_sm hM; obtain ⟨r121, hr122, hM⟩ := hM
                    refine r_g1 (Ls := [[(b24, 48, #[Value.int .i64 (x22_0), Value.int .i64 (x23_1)])]]) (fun s123 => s123) 35 enc_35 (r121) 14 _ rfl rfl rfl (ev_callF rfl call_14 rfl) (fun own_ nw_ hs_ => (Does.inv (wire_Reader_Vecs_v1_g N 9 _ hr122 hs_.view ) _)) (fun _ _ v_ L_ U_ => ⟨fun h_ => h_ _ hr122, fun h_ => by intro _ e_; cases Option.some.inj (e_.symm.trans hr122); exact h_⟩) (fun s123 S124 H125 => ?_)
                    refine r_y rfl ?_
                    refine r_v (Value.int .i64 (((r121).length : Int))) rfl rfl rfl (ev_lenSl rfl rfl rfl (Sl.shp H125)) ?_
                    refine r_y rfl ?_
                    refine r_v (Value.pointer none) rfl rfl rfl rfl ?_
                    refine r_y rfl ?_
                    replace hM := bind_sm hM; obtain ⟨r126, hr127, hM⟩ := hM
                    refine r_g1 (Ls := [[(b24, 48, #[Value.int .i64 (x22_0), Value.int .i64 (x23_1)])], S124]) (fun s128 => s128) 3 encI (r126) 15 _ rfl rfl rfl (ev_callF rfl call_15 rfl) (fun own_ nw_ hs_ => (Does.inv (wire_Reader_Numbers_v1_g N 9 9 _ hr127 hs_.view ) _)) (fun _ _ v_ L_ U_ => ⟨fun h_ => h_ _ hr127, fun h_ => by intro _ e_; cases Option.some.inj (e_.symm.trans hr127); exact h_⟩) (fun s128 S129 H130 => ?_)
                    refine r_y rfl ?_
                    refine r_v (Value.int .i64 (((r126).length : Int))) rfl rfl rfl (ev_lenSl rfl rfl rfl (Sl.shp H130)) ?_
                    refine r_y rfl ?_
                    replace hM := ck_some hM; obtain ⟨ck131, hM⟩ := hM
                    refine r_v (Value.int .i64 ((((r121).length : Int) + ((r126).length : Int)))) rfl rfl (wi64 rfl ck131.1 ck131.2) rfl ?_
                    refine r_y rfl ?_
                    refine r_v (Value.pointer none) rfl rfl rfl rfl ?_
                    refine r_y rfl ?_
                    replace hM := bind_sm hM; obtain ⟨r132, hr133, hM⟩ := hM
                    refine r_c (Value.int .i64 (r132)) rfl _ _ (ev_callF rfl call_16 rfl) (wire_Reader_At_v1_g N  _ hr133) ?_
                    refine r_y rfl ?_
                    replace hM := ck_some hM; obtain ⟨ck134, hM⟩ := hM
                    refine r_v (Value.int .i64 (((((r121).length : Int) + ((r126).length : Int)) + r132))) rfl rfl (wi64 rfl ck134.1 ck134.2) rfl ?_
                    refine r_y rfl ?_
                    refine r_v (Value.pointer none) rfl rfl rfl rfl ?_
                    refine r_y rfl ?_
                    replace hM := bind_sm hM; obtain ⟨r135, hr136, hM⟩ := hM
                    refine r_c (Value.int .i64 (r135)) rfl _ _ (ev_callF rfl call_17 rfl) (wire_Reader_Left_v1_g N  _ hr136) ?_
                    refine r_y rfl ?_
                    replace hM := ck_some hM; obtain ⟨ck137, hM⟩ := hM
                    refine r_v (Value.int .i64 ((((((r121).length : Int) + ((r126).length : Int)) + r132) + r135))) rfl rfl (wi64 rfl ck137.1 ck137.2) rfl ?_
                    refine r_y rfl ?_
                    refine r_v (Value.bool ((((((((r121).length : Int) + ((r126).length : Int)) + r132) + r135) : Int) != 0))) rfl rfl rfl rfl ?_
                    refine r_v (Value.bool ((((((((r121).length : Int) + ((r126).length : Int)) + r132) + r135) : Int) != 0))) rfl rfl rfl rfl ?_
                    refine r_v (Value.bool ((((((((r121).length : Int) + ((r126).length : Int)) + r132) + r135) : Int) != 0))) rfl rfl rfl rfl ?_
                    rcases hg138 : ((((((((r121).length : Int) + ((r126).length : Int)) + r132) + r135) : Int) != 0)) with _ | _
                    · replace hM := ifn (bne_f hg138) hM
                      refine r_y rfl ?_
                      refine r_v (Value.int .i64 (r25.1)) rfl rfl rfl rfl ?_
                      refine r_y rfl ?_
                      refine r_v (Value.bool (((r25.1 : Int) != 1))) rfl rfl rfl rfl ?_
                      refine r_v (Value.bool (((r25.1 : Int) != 1))) rfl rfl rfl rfl ?_
                      refine r_v (Value.bool (((r25.1 : Int) != 1))) rfl rfl rfl rfl ?_
                      rcases hg139 : (((r25.1 : Int) != 1)) with _ | _
                      · replace hM := ifn (bne_f hg139) hM
                        refine r_y rfl ?_
                        refine r_v (Value.int .i64 (r25.2)) rfl rfl rfl rfl ?_
                        refine r_y rfl ?_
                        refine r_v (Value.bool (((r25.2 : Int) != 0))) rfl rfl rfl rfl ?_
                        refine r_v (Value.bool (((r25.2 : Int) != 0))) rfl rfl rfl rfl ?_
                        refine lx_nil ?_
                        refine hK105 _ _ ?_; try clear hK105 K105
                        refine A_gen [(0, bv), (1, Value.int .i64 (n)), (77, Value.bool (((r25.2 : Int) != 0)))] rfl (fun T => ?_)
                        refine A_cond (((r25.2 : Int) != 0)) rfl (fun hc140 => ?_) (fun hc140 => ?_)
                        · replace hM := ifp (bne_iff_ne.1 hc140) hM
                          refine A_seq fun K141 hK141 => ?_
                          refine A_reg ?_
                          refine r_v (Value.bool (false)) rfl rfl rfl rfl ?_
                          refine lx_nil ?_
                          refine hK141 _ _ ?_; try clear hK141 K141
                          obtain rfl := Option.some.inj hM
                          refine A_ret (fun hn => endsV (v0 := Value.bool (false)) rfl (res1 rfl))
                        · replace hM := ifn (bne_f hc140) hM
                          refine A_skip ?_
                          refine fg _ (Sub.pick [[(b24, 48, #[Value.int .i64 (x22_0), Value.int .i64 (x23_1)])], S124, S129] [] rfl) ?_
                          exact ⟨hM, is_mk rfl rfl⟩
                      · replace hM := ifp (bne_iff_ne.1 hg139) hM
                        refine r_n true rfl (by decide) rfl ?_
                        refine r_n true rfl (by decide) rfl ?_
                        refine r_v (Value.bool (true)) rfl rfl rfl rfl ?_
                        refine lx_nil ?_
                        refine hK105 _ _ ?_; try clear hK105 K105
                        refine A_gen [(0, bv), (1, Value.int .i64 (n)), (77, Value.bool (true))] rfl (fun T => ?_)
                        refine A_cond true rfl (fun _ => ?_) (fun h_ => nomatch h_)
                        refine A_seq fun K142 hK142 => ?_
                        refine A_reg ?_
                        refine r_v (Value.bool (false)) rfl rfl rfl rfl ?_
                        refine lx_nil ?_
                        refine hK142 _ _ ?_; try clear hK142 K142
                        obtain rfl := Option.some.inj hM
                        refine A_ret (fun hn => endsV (v0 := Value.bool (false)) rfl (res1 rfl))
                    · replace hM := ifp (bne_iff_ne.1 hg138) hM
                      refine r_n true rfl (by decide) rfl ?_
                      refine r_n true rfl (by decide) rfl ?_
                      refine r_v (Value.bool (true)) rfl rfl rfl rfl ?_
                      refine r_v (Value.bool (true)) rfl rfl rfl rfl ?_
                      refine r_n true rfl (by decide) rfl ?_
                      refine r_n true rfl (by decide) rfl ?_
                      refine r_v (Value.bool (true)) rfl rfl rfl rfl ?_
                      refine lx_nil ?_
                      refine hK105 _ _ ?_; try clear hK105 K105
                      refine A_gen [(0, bv), (1, Value.int .i64 (n)), (77, Value.bool (true))] rfl (fun T => ?_)
                      refine A_cond true rfl (fun _ => ?_) (fun h_ => nomatch h_)
                      refine A_seq fun K143 hK143 => ?_
                      refine A_reg ?_
                      refine r_v (Value.bool (false)) rfl rfl rfl rfl ?_
                      refine lx_nil ?_
                      refine hK143 _ _ ?_; try clear hK143 K143
                      obtain rfl := Option.some.inj hM
                      refine A_ret (fun hn => endsV (v0 := Value.bool (false)) rfl (res1 rfl))
                  · replace hM := ifp (bne_iff_ne.1 hg120) hM
                    refine r_n true rfl (by decide) rfl ?_
                    refine r_n true rfl (by decide) rfl ?_
                    refine r_n true rfl (by decide) rfl ?_
                    refine r_n true rfl (by decide) rfl ?_
                    refine r_n true rfl (by decide) rfl ?_
                    refine r_n true rfl (by decide) rfl ?_
                    refine r_n true rfl (by decide) rfl ?_
                    refine r_n true rfl (by decide) rfl ?_
                    refine r_n true rfl (by decide) rfl ?_
                    refine r_n true rfl (by decide) rfl ?_
                    refine r_n true rfl (by decide) rfl ?_
                    refine r_n true rfl (by decide) rfl ?_
                    refine r_n true rfl (by decide) rfl ?_
                    refine r_n true rfl (by decide) rfl ?_
                    refine r_v (Value.bool (true)) rfl rfl rfl rfl ?_
                    refine r_v (Value.bool (true)) rfl rfl rfl rfl ?_
                    refine r_n true rfl (by decide) rfl ?_
                    refine r_n true rfl (by decide) rfl ?_
                    refine r_v (Value.bool (true)) rfl rfl rfl rfl ?_
                    refine r_v (Value.bool (true)) rfl rfl rfl rfl ?_
                    refine r_n true rfl (by decide) rfl ?_
                    refine r_n true rfl (by decide) rfl ?_
                    refine r_v (Value.bool (true)) rfl rfl rfl rfl ?_
                    refine lx_nil ?_
                    refine hK105 _ _ ?_; try clear hK105 K105
                    refine A_gen [(0, bv), (1, Value.int .i64 (n)), (77, Value.bool (true))] rfl (fun T => ?_)
                    refine A_cond true rfl (fun _ => ?_) (fun h_ => nomatch h_)
                    refine A_seq fun K144 hK144 => ?_
                    refine A_reg ?_
                    refine r_v (Value.bool (false)) rfl rfl rfl rfl ?_
                    refine lx_nil ?_
                    refine hK144 _ _ ?_; try clear hK144 K144
                    obtain rfl := Option.some.inj hM
                    refine A_ret (fun hn => endsV (v0 := Value.bool (false)) rfl (res1 rfl))
                · replace hM := ifn (Bool.eq_false_iff.1 (not_t hg117)) hM
                  refine r_n true rfl (by decide) rfl ?_
                  refine r_n true rfl (by decide) rfl ?_
                  refine r_n true rfl (by decide) rfl ?_
                  refine r_v (Value.bool (true)) rfl rfl rfl rfl ?_
                  refine r_v (Value.bool (true)) rfl rfl rfl rfl ?_
                  refine r_n true rfl (by decide) rfl ?_
                  refine r_n true rfl (by decide) rfl ?_
                  refine r_n true rfl (by decide) rfl ?_
                  refine r_n true rfl (by decide) rfl ?_
                  refine r_n true rfl (by decide) rfl ?_
                  refine r_n true rfl (by decide) rfl ?_
                  refine r_n true rfl (by decide) rfl ?_
                  refine r_n true rfl (by decide) rfl ?_
                  refine r_n true rfl (by decide) rfl ?_
                  refine r_n true rfl (by decide) rfl ?_
                  refine r_n true rfl (by decide) rfl ?_
                  refine r_n true rfl (by decide) rfl ?_
                  refine r_n true rfl (by decide) rfl ?_
                  refine r_n true rfl (by decide) rfl ?_
                  refine r_v (Value.bool (true)) rfl rfl rfl rfl ?_
                  refine r_v (Value.bool (true)) rfl rfl rfl rfl ?_
                  refine r_n true rfl (by decide) rfl ?_
                  refine r_n true rfl (by decide) rfl ?_
                  refine r_v (Value.bool (true)) rfl rfl rfl rfl ?_
                  refine r_v (Value.bool (true)) rfl rfl rfl rfl ?_
                  refine r_n true rfl (by decide) rfl ?_
                  refine r_n true rfl (by decide) rfl ?_
                  refine r_v (Value.bool (true)) rfl rfl rfl rfl ?_
                  refine lx_nil ?_
                  refine hK105 _ _ ?_; try clear hK105 K105
                  refine A_gen [(0, bv), (1, Value.int .i64 (n)), (77, Value.bool (true))] rfl (fun T => ?_)
                  refine A_cond true rfl (fun _ => ?_) (fun h_ => nomatch h_)
                  refine A_seq fun K145 hK145 => ?_
                  refine A_reg ?_
                  refine r_v (Value.bool (false)) rfl rfl rfl rfl ?_
                  refine lx_nil ?_
                  refine hK145 _ _ ?_; try clear hK145 K145
                  obtain rfl := Option.some.inj hM
                  refine A_ret (fun hn => endsV (v0 := Value.bool (false)) rfl (res1 rfl))
              · replace hM := ifp (bne_iff_ne.1 hg114) hM
                refine r_n true rfl (by decide) rfl ?_
                refine r_n true rfl (by decide) rfl ?_
                refine r_n true rfl (by decide) rfl ?_
                refine r_n true rfl (by decide) rfl ?_
                refine r_v (Value.bool (true)) rfl rfl rfl rfl ?_
                refine r_v (Value.bool (true)) rfl rfl rfl rfl ?_
                refine r_n true rfl (by decide) rfl ?_
                refine r_n true rfl (by decide) rfl ?_
                refine r_n true rfl (by decide) rfl ?_
                refine r_v (Value.bool (true)) rfl rfl rfl rfl ?_
                refine r_v (Value.bool (true)) rfl rfl rfl rfl ?_
                refine r_n true rfl (by decide) rfl ?_
                refine r_n true rfl (by decide) rfl ?_
                refine r_n true rfl (by decide) rfl ?_
                refine r_n true rfl (by decide) rfl ?_
                refine r_n true rfl (by decide) rfl ?_
                refine r_n true rfl (by decide) rfl ?_
                refine r_n true rfl (by decide) rfl ?_
                refine r_n true rfl (by decide) rfl ?_
                refine r_n true rfl (by decide) rfl ?_
                refine r_n true rfl (by decide) rfl ?_
                refine r_n true rfl (by decide) rfl ?_
                refine r_n true rfl (by decide) rfl ?_
                refine r_n true rfl (by decide) rfl ?_
                refine r_n true rfl (by decide) rfl ?_
                refine r_v (Value.bool (true)) rfl rfl rfl rfl ?_
                refine r_v (Value.bool (true)) rfl rfl rfl rfl ?_
                refine r_n true rfl (by decide) rfl ?_
                refine r_n true rfl (by decide) rfl ?_
                refine r_v (Value.bool (true)) rfl rfl rfl rfl ?_
                refine r_v (Value.bool (true)) rfl rfl rfl rfl ?_
                refine r_n true rfl (by decide) rfl ?_
                refine r_n true rfl (by decide) rfl ?_
                refine r_v (Value.bool (true)) rfl rfl rfl rfl ?_
                refine lx_nil ?_
                refine hK105 _ _ ?_; try clear hK105 K105
                refine A_gen [(0, bv), (1, Value.int .i64 (n)), (77, Value.bool (true))] rfl (fun T => ?_)
                refine A_cond true rfl (fun _ => ?_) (fun h_ => nomatch h_)
                refine A_seq fun K146 hK146 => ?_
                refine A_reg ?_
                refine r_v (Value.bool (false)) rfl rfl rfl rfl ?_
                refine lx_nil ?_
                refine hK146 _ _ ?_; try clear hK146 K146
                obtain rfl := Option.some.inj hM
                refine A_ret (fun hn => endsV (v0 := Value.bool (false)) rfl (res1 rfl))
            · replace hM := ifp (bne_iff_ne.1 hg111) hM
              refine r_n true rfl (by decide) rfl ?_
              refine r_n true rfl (by decide) rfl ?_
              refine r_n true rfl (by decide) rfl ?_
              refine r_v (Value.bool (true)) rfl rfl rfl rfl ?_
              refine r_v (Value.bool (true)) rfl rfl rfl rfl ?_
              refine r_n true rfl (by decide) rfl ?_
              refine r_n true rfl (by decide) rfl ?_
              refine r_n true rfl (by decide) rfl ?_
              refine r_n true rfl (by decide) rfl ?_
              refine r_v (Value.bool (true)) rfl rfl rfl rfl ?_
              refine r_v (Value.bool (true)) rfl rfl rfl rfl ?_
              refine r_n true rfl (by decide) rfl ?_
              refine r_n true rfl (by decide) rfl ?_
              refine r_n true rfl (by decide) rfl ?_
              refine r_v (Value.bool (true)) rfl rfl rfl rfl ?_
              refine r_v (Value.bool (true)) rfl rfl rfl rfl ?_
              refine r_n true rfl (by decide) rfl ?_
              refine r_n true rfl (by decide) rfl ?_
              refine r_n true rfl (by decide) rfl ?_
              refine r_n true rfl (by decide) rfl ?_
              refine r_n true rfl (by decide) rfl ?_
              refine r_n true rfl (by decide) rfl ?_
              refine r_n true rfl (by decide) rfl ?_
              refine r_n true rfl (by decide) rfl ?_
              refine r_n true rfl (by decide) rfl ?_
              refine r_n true rfl (by decide) rfl ?_
              refine r_n true rfl (by decide) rfl ?_
              refine r_n true rfl (by decide) rfl ?_
              refine r_n true rfl (by decide) rfl ?_
              refine r_n true rfl (by decide) rfl ?_
              refine r_v (Value.bool (true)) rfl rfl rfl rfl ?_
              refine r_v (Value.bool (true)) rfl rfl rfl rfl ?_
              refine r_n true rfl (by decide) rfl ?_
              refine r_n true rfl (by decide) rfl ?_
              refine r_v (Value.bool (true)) rfl rfl rfl rfl ?_
              refine r_v (Value.bool (true)) rfl rfl rfl rfl ?_
              refine r_n true rfl (by decide) rfl ?_
              refine r_n true rfl (by decide) rfl ?_
              refine r_v (Value.bool (true)) rfl rfl rfl rfl ?_
              refine lx_nil ?_
              refine hK105 _ _ ?_; try clear hK105 K105
              refine A_gen [(0, bv), (1, Value.int .i64 (n)), (77, Value.bool (true))] rfl (fun T => ?_)
              refine A_cond true rfl (fun _ => ?_) (fun h_ => nomatch h_)
              refine A_seq fun K147 hK147 => ?_
              refine A_reg ?_
              refine r_v (Value.bool (false)) rfl rfl rfl rfl ?_
              refine lx_nil ?_
              refine hK147 _ _ ?_; try clear hK147 K147
              obtain rfl := Option.some.inj hM
              refine A_ret (fun hn => endsV (v0 := Value.bool (false)) rfl (res1 rfl))
          · replace hM := ifp (bne_iff_ne.1 hg108) hM
            refine r_n true rfl (by decide) rfl ?_
            refine r_n true rfl (by decide) rfl ?_
            refine r_n true rfl (by decide) rfl ?_
            refine r_v (Value.bool (true)) rfl rfl rfl rfl ?_
            refine r_v (Value.bool (true)) rfl rfl rfl rfl ?_
            refine r_n true rfl (by decide) rfl ?_
            refine r_n true rfl (by decide) rfl ?_
            refine r_n true rfl (by decide) rfl ?_
            refine r_v (Value.bool (true)) rfl rfl rfl rfl ?_
            refine r_v (Value.bool (true)) rfl rfl rfl rfl ?_
            refine r_n true rfl (by decide) rfl ?_
            refine r_n true rfl (by decide) rfl ?_
            refine r_n true rfl (by decide) rfl ?_
            refine r_n true rfl (by decide) rfl ?_
            refine r_v (Value.bool (true)) rfl rfl rfl rfl ?_
            refine r_v (Value.bool (true)) rfl rfl rfl rfl ?_
            refine r_n true rfl (by decide) rfl ?_
            refine r_n true rfl (by decide) rfl ?_
            refine r_n true rfl (by decide) rfl ?_
            refine r_v (Value.bool (true)) rfl rfl rfl rfl ?_
            refine r_v (Value.bool (true)) rfl rfl rfl rfl ?_
            refine r_n true rfl (by decide) rfl ?_
            refine r_n true rfl (by decide) rfl ?_
            refine r_n true rfl (by decide) rfl ?_
            refine r_n true rfl (by decide) rfl ?_
            refine r_n true rfl (by decide) rfl ?_
            refine r_n true rfl (by decide) rfl ?_
            refine r_n true rfl (by decide) rfl ?_
            refine r_n true rfl (by decide) rfl ?_
            refine r_n true rfl (by decide) rfl ?_
            refine r_n true rfl (by decide) rfl ?_
            refine r_n true rfl (by decide) rfl ?_
            refine r_n true rfl (by decide) rfl ?_
            refine r_n true rfl (by decide) rfl ?_
            refine r_n true rfl (by decide) rfl ?_
            refine r_v (Value.bool (true)) rfl rfl rfl rfl ?_
            refine r_v (Value.bool (true)) rfl rfl rfl rfl ?_
            refine r_n true rfl (by decide) rfl ?_
            refine r_n true rfl (by decide) rfl ?_
            refine r_v (Value.bool (true)) rfl rfl rfl rfl ?_
            refine r_v (Value.bool (true)) rfl rfl rfl rfl ?_
            refine r_n true rfl (by decide) rfl ?_
            refine r_n true rfl (by decide) rfl ?_
            refine r_v (Value.bool (true)) rfl rfl rfl rfl ?_
            refine lx_nil ?_
            refine hK105 _ _ ?_; try clear hK105 K105
            refine A_gen [(0, bv), (1, Value.int .i64 (n)), (77, Value.bool (true))] rfl (fun T => ?_)
            refine A_cond true rfl (fun _ => ?_) (fun h_ => nomatch h_)
            refine A_seq fun K148 hK148 => ?_
            refine A_reg ?_
            refine r_v (Value.bool (false)) rfl rfl rfl rfl ?_
            refine lx_nil ?_
            refine hK148 _ _ ?_; try clear hK148 K148
            obtain rfl := Option.some.inj hM
            refine A_ret (fun hn => endsV (v0 := Value.bool (false)) rfl (res1 rfl))
        · clear hM; rintro t l ⟨hM, ⟨T, rfl⟩, rfl⟩
          unfold shunterlaw07_WireFaults_k4 at hM
          refine A_seq fun K27 hK27 => ?_
          refine A_regC [(some 79, true)] (conG Tryd.prog [(79, fun _ _ v_ L_ U_ => ∀ u0_, wire_Read_m N b = some u0_ → (pO (List.flatten []) (oS 5 encY u0_.1 fun s_0 => (oB 55 #[s_0, Value.int .i64 (u0_.2.1), Value.int .i64 (u0_.2.2)] fun b_0 => (oE (Value.pointer (some ⟨b_0, 0, none⟩)) [])))) v_ L_ U_)]) ?_
          refine r_v (bv) rfl rfl rfl rfl ?_
          replace hM := bind_sm hM; obtain ⟨r28, hr29, hM⟩ := hM
          refine r_gm (Ls := []) (FL := []) (RL := []) [] (oS 5 encY r28.1 fun s_0 => (oB 55 #[s_0, Value.int .i64 (r28.2.1), Value.int .i64 (r28.2.2)] fun b_0 => (oE (Value.pointer (some ⟨b_0, 0, none⟩)) []))) (some 79) 18 _ rfl rfl rfl rfl rfl (ev_callF rfl call_18 rfl) (fun own_ nw_ hn_ hs_ => (Does.inv (wire_Read_g N b _ hr29 _ bv (Rd.mono (ro_sans (Ls := []) (is := []) rfl hs_) hb)) _)) (fun _ _ v_ L_ U_ => ⟨fun h_ => h_ _ hr29, fun h_ => by intro _ e_; cases Option.some.inj (e_.symm.trans hr29); exact h_⟩) (fun h_ => nomatch h_) ?_
          rintro _ _ ⟨s31, S32, _, H33, ⟨b30, _, ⟨rfl, rfl⟩, rfl⟩, rfl⟩
          refine lx_perm (Ls := [S32, [(b30, 55, #[s31, Value.int .i64 (r28.2.1), Value.int .i64 (r28.2.2)])]]) (Ls' := [[(b30, 55, #[s31, Value.int .i64 (r28.2.1), Value.int .i64 (r28.2.2)])], S32]) [1, 0] rfl rfl ?_
          refine r_v (Value.pointer (some ⟨b30, 0, none⟩)) rfl rfl rfl rfl ?_
          refine lx_nil ?_
          refine hK27 _ _ ?_; try clear hK27 K27
          refine A_seq fun K34 hK34 => ?_
          refine A_seq fun K35 hK35 => ?_
          refine A_reg ?_
          refine r_v (Value.pointer (some ⟨b30, 0, none⟩)) rfl rfl rfl rfl ?_
          refine r_v (Value.bool (false)) rfl rfl rfl rfl ?_
          refine lx_nil ?_
          refine hK35 _ _ ?_; try clear hK35 K35
          refine A_cond false rfl (fun h_ => nomatch h_) (fun _ => ?_)
          refine A_skip ?_
          refine hK34 _ _ ?_; try clear hK34 K34
          refine A_seq fun K36 hK36 => ?_
          refine A_regC [(some 83, true)] (conG Tryd.prog [(83, fun _ _ v_ L_ U_ => ∀ u0_, wire_Reader_Byte_v2_m N r28.1 r28.2.1 r28.2.2 255 = some u0_ → (pO (List.flatten [[(b30, 55, #[s31, Value.int .i64 (r28.2.1), Value.int .i64 (r28.2.2)])], S32]) (oI 5 encY s31 u0_.2.1 (oE (Value.int .i64 (u0_.1)) [[(b30, 55, #[s31, Value.int .i64 (u0_.2.2.1), Value.int .i64 (u0_.2.2.2)])]]))) v_ L_ U_)]) ?_
          refine r_v (Value.pointer (some ⟨b30, 0, none⟩)) rfl rfl rfl rfl ?_
          replace hM := bind_sm hM; obtain ⟨r37, hr38, hM⟩ := hM
          replace hM := ck_some hM; obtain ⟨ck39, hM⟩ := hM
          refine r_gm (Ls := [[(b30, 55, #[s31, Value.int .i64 (r28.2.1), Value.int .i64 (r28.2.2)])], S32]) (FL := [[(b30, 55, #[s31, Value.int .i64 (r28.2.1), Value.int .i64 (r28.2.2)])], S32]) (RL := []) [0, 1] (oI 5 encY s31 r37.2.1 (oE (Value.int .i64 (r37.1)) [[(b30, 55, #[s31, Value.int .i64 (r37.2.2.1), Value.int .i64 (r37.2.2.2)])]])) (some 83) 9 _ rfl rfl rfl rfl rfl (ev_callF rfl call_9 rfl) (fun own_ nw_ hn_ hs_ => (Does.inv (wire_Reader_Byte_v2_g N r28.1 r28.2.1 r28.2.2 255 _ hr38 _ b30 s31 S32 H33) _)) (fun _ _ v_ L_ U_ => ⟨fun h_ => h_ _ hr38, fun h_ => by intro _ e_; cases Option.some.inj (e_.symm.trans hr38); exact h_⟩) (fun h_ => nomatch h_) ?_
          rintro _ _ ⟨S40, _, H41, ⟨rfl, rfl⟩, rfl⟩
          refine lx_perm (Ls := [S40, [(b30, 55, #[s31, Value.int .i64 (r37.2.2.1), Value.int .i64 (r37.2.2.2)])]]) (Ls' := [[(b30, 55, #[s31, Value.int .i64 (r37.2.2.1), Value.int .i64 (r37.2.2.2)])], S40]) [1, 0] rfl rfl ?_
          refine lx_nil ?_
          refine hK36 _ _ ?_; try clear hK36 K36
          refine A_seq fun K42 hK42 => ?_
          refine A_regC [(some 85, false)] (conG Tryd.prog [(85, fun _ _ v_ L_ U_ => ∀ u0_, wire_Reader_At_v2_m N r37.2.1 r37.2.2.1 r37.2.2.2 = some u0_ → (pV (Value.int .i64 (u0_))) v_ L_ U_)]) ?_
          refine r_v (Value.pointer (some ⟨b30, 0, none⟩)) rfl rfl rfl rfl ?_
          replace hM := bind_sm hM; obtain ⟨r43, hr44, hM⟩ := hM
          refine r_gv (Value.int .i64 (r43)) 16 _ rfl rfl rfl (ev_callF rfl call_16 rfl) (fun own_ nw_ hs_ => (Does.inv (wire_Reader_At_v2_g N r37.2.1 r37.2.2.1 r37.2.2.2 _ hr44 hs_.view b30 s31 ((rd_own H41 (mem_chunk (Ls := [[(b30, 55, #[s31, Value.int .i64 (r37.2.2.1), Value.int .i64 (r37.2.2.2)])], S40]) (k := 1) rfl rfl)) own_ nw_ hs_) (blk_own 0 rfl rfl own_ nw_ hs_)) _)) (fun _ _ v_ L_ U_ => ⟨fun h_ => h_ _ hr44, fun h_ => by intro _ e_; cases Option.some.inj (e_.symm.trans hr44); exact h_⟩) ?_
          refine r_v (Value.int .i64 (r43)) rfl rfl rfl rfl ?_
          refine lx_nil ?_
          refine hK42 _ _ ?_; try clear hK42 K42
          refine A_seq fun K45 hK45 => ?_
          refine A_regC [(some 87, true)] (conG Tryd.prog [(87, fun _ _ v_ L_ U_ => ∀ u0_, wire_Reader_Fail_v2_m N r37.2.1 r37.2.2.1 r37.2.2.2 5 = some u0_ → (pO (List.flatten [[(b30, 55, #[s31, Value.int .i64 (r37.2.2.1), Value.int .i64 (r37.2.2.2)])], S40]) (oI 5 encY s31 u0_.1 (oE (Value.tuple #[]) [[(b30, 55, #[s31, Value.int .i64 (u0_.2.1), Value.int .i64 (u0_.2.2)])]]))) v_ L_ U_)]) ?_
          refine r_v (Value.pointer (some ⟨b30, 0, none⟩)) rfl rfl rfl rfl ?_
          replace hM := bind_sm hM; obtain ⟨r46, hr47, hM⟩ := hM
          replace hM := ck_some hM; obtain ⟨ck48, hM⟩ := hM
          refine r_gm (Ls := [[(b30, 55, #[s31, Value.int .i64 (r37.2.2.1), Value.int .i64 (r37.2.2.2)])], S40]) (FL := [[(b30, 55, #[s31, Value.int .i64 (r37.2.2.1), Value.int .i64 (r37.2.2.2)])], S40]) (RL := []) [0, 1] (oI 5 encY s31 r46.1 (oE (Value.tuple #[]) [[(b30, 55, #[s31, Value.int .i64 (r46.2.1), Value.int .i64 (r46.2.2)])]])) (some 87) 5 _ rfl rfl rfl rfl rfl (ev_callF rfl call_5 rfl) (fun own_ nw_ hn_ hs_ => (Does.inv (wire_Reader_Fail_v2_g N r37.2.1 r37.2.2.1 r37.2.2.2 5 _ hr47 _ b30 s31 S40 H41) _)) (fun _ _ v_ L_ U_ => ⟨fun h_ => h_ _ hr47, fun h_ => by intro _ e_; cases Option.some.inj (e_.symm.trans hr47); exact h_⟩) (fun h_ => nomatch h_) ?_
          rintro _ _ ⟨S49, _, H50, ⟨rfl, rfl⟩, rfl⟩
          refine lx_perm (Ls := [S49, [(b30, 55, #[s31, Value.int .i64 (r46.2.1), Value.int .i64 (r46.2.2)])]]) (Ls' := [[(b30, 55, #[s31, Value.int .i64 (r46.2.1), Value.int .i64 (r46.2.2)])], S49]) [1, 0] rfl rfl ?_
          refine lx_nil ?_
          refine hK45 _ _ ?_; try clear hK45 K45
          refine A_seq fun K51 hK51 => ?_
          refine A_regC [(some 89, true)] (conG Tryd.prog [(89, fun _ _ v_ L_ U_ => ∀ u0_, wire_Reader_End_v2_m N r46.1 r46.2.1 r46.2.2 = some u0_ → (pO (List.flatten []) (Sum30.onP u0_ (oE (Value.nilIface) []) (fun y0_0 y0_1 => (oB 48 #[Value.int .i64 (y0_0), Value.int .i64 (y0_1)] fun bs_0 => (oE (Value.iface 44 (Value.pointer (some ⟨bs_0, 0, none⟩))) []))))) v_ L_ U_)]) ?_
          refine r_v (Value.pointer (some ⟨b30, 0, none⟩)) rfl rfl rfl rfl ?_
          replace hM := bind_sm hM; obtain ⟨r52, hr53, hM⟩ := hM
          refine r_gm (Ls := [[(b30, 55, #[s31, Value.int .i64 (r46.2.1), Value.int .i64 (r46.2.2)])], S49]) (FL := []) (RL := [[(b30, 55, #[s31, Value.int .i64 (r46.2.1), Value.int .i64 (r46.2.2)])], S49]) [] (Sum30.onP r52 (oE (Value.nilIface) []) (fun y0_0 y0_1 => (oB 48 #[Value.int .i64 (y0_0), Value.int .i64 (y0_1)] fun bs_0 => (oE (Value.iface 44 (Value.pointer (some ⟨bs_0, 0, none⟩))) [])))) (some 89) 8 _ rfl rfl rfl rfl rfl (ev_callF rfl call_8 rfl) (fun own_ nw_ hn_ hs_ => (Does.inv (wire_Reader_End_v2_g N r46.1 r46.2.1 r46.2.2 _ hr53 _ b30 s31 (rd_sans (Ls := [[(b30, 55, #[s31, Value.int .i64 (r46.2.1), Value.int .i64 (r46.2.2)])], S49]) (is := []) 1 H50 rfl rfl hn_ hs_) (blk_sans (Ls := [[(b30, 55, #[s31, Value.int .i64 (r46.2.1), Value.int .i64 (r46.2.2)])], S49]) (is := []) 0 rfl rfl hn_ hs_)) _)) (fun _ _ v_ L_ U_ => ⟨fun h_ => h_ _ hr53, fun h_ => by intro _ e_; cases Option.some.inj (e_.symm.trans hr53); exact h_⟩) (fun h_ => nomatch h_) ?_
          rintro _ _ hp_
          rcases Sum30.cases r52 with hx54 | ⟨x55_0, x56_1, hx54⟩
          · obtain ⟨rfl, rfl⟩ := Sum30.onP_nil hx54 hp_
            replace hM := Sum30.on_nil hx54 hM
            refine lx_perm (Ls := [[(b30, 55, #[s31, Value.int .i64 (r46.2.1), Value.int .i64 (r46.2.2)])], S49]) (Ls' := [[(b30, 55, #[s31, Value.int .i64 (r46.2.1), Value.int .i64 (r46.2.2)])], S49]) [0, 1] rfl rfl ?_
            refine r_v (Value.nilIface) rfl rfl rfl rfl ?_
            refine lx_nil ?_
            refine hK51 _ _ ?_; try clear hK51 K51
            refine A_seq fun K57 hK57 => ?_
            refine A_reg ?_
            refine r_v (Value.nilIface) rfl rfl rfl rfl ?_
            refine r_v (Value.tuple #[Value.pointer none, Value.bool (false)]) rfl rfl rfl rfl ?_
            refine r_v (Value.tuple #[Value.pointer none, Value.bool (false)]) rfl rfl rfl rfl ?_
            refine r_v (Value.pointer none) rfl rfl rfl rfl ?_
            refine r_v (Value.bool (false)) rfl rfl rfl rfl ?_
            refine r_v (Value.pointer none) rfl rfl rfl rfl ?_
            refine r_v (Value.bool (false)) rfl rfl rfl rfl ?_
            refine lx_nil ?_
            refine hK57 _ _ ?_; try clear hK57 K57
            refine A_seq fun K58 hK58 => ?_
            refine A_seq fun K59 hK59 => ?_
            refine A_reg ?_
            refine r_v (Value.bool (false)) rfl rfl rfl rfl ?_
            refine r_v (Value.bool (true)) rfl rfl rfl rfl ?_
            refine r_v (Value.bool (true)) rfl rfl rfl rfl ?_
            refine r_n true rfl (by decide) rfl ?_
            refine r_n true rfl (by decide) rfl ?_
            refine r_v (Value.bool (true)) rfl rfl rfl rfl ?_
            refine lx_nil ?_
            refine hK59 _ _ ?_; try clear hK59 K59
            refine A_cond true rfl (fun _ => ?_) (fun h_ => nomatch h_)
            refine A_seq fun K60 hK60 => ?_
            refine A_reg ?_
            refine r_v (Value.bool (false)) rfl rfl rfl rfl ?_
            refine lx_nil ?_
            refine hK60 _ _ ?_; try clear hK60 K60
            refine A_gen [(4, Value.bool (false))] rfl (fun T => ?_)
            obtain rfl := Option.some.inj hM
            refine A_ret (fun hn => endsV (v0 := Value.bool (false)) rfl (res1 rfl))
          · obtain ⟨b57, _, ⟨rfl, rfl⟩, rfl⟩ := Sum30.onP_t44 hx54 hp_
            replace hM := Sum30.on_t44 hx54 hM
            refine lx_perm (Ls := [[(b30, 55, #[s31, Value.int .i64 (r46.2.1), Value.int .i64 (r46.2.2)])], S49, [(b57, 48, #[Value.int .i64 (x55_0), Value.int .i64 (x56_1)])]]) (Ls' := [[(b30, 55, #[s31, Value.int .i64 (r46.2.1), Value.int .i64 (r46.2.2)])], [(b57, 48, #[Value.int .i64 (x55_0), Value.int .i64 (x56_1)])], S49]) [0, 2, 1] rfl rfl ?_
            refine r_v (Value.iface 44 (Value.pointer (some ⟨b57, 0, none⟩))) rfl rfl rfl rfl ?_
            refine lx_nil ?_
            refine hK51 _ _ ?_; try clear hK51 K51
            refine A_seq fun K58 hK58 => ?_
            refine A_reg ?_
            refine r_v (Value.iface 44 (Value.pointer (some ⟨b57, 0, none⟩))) rfl rfl rfl rfl ?_
            refine r_v (Value.tuple #[Value.pointer (some ⟨b57, 0, none⟩), Value.bool (true)]) rfl rfl rfl rfl ?_
            refine r_v (Value.tuple #[Value.pointer (some ⟨b57, 0, none⟩), Value.bool (true)]) rfl rfl rfl rfl ?_
            refine r_v (Value.pointer (some ⟨b57, 0, none⟩)) rfl rfl rfl rfl ?_
            refine r_v (Value.bool (true)) rfl rfl rfl rfl ?_
            refine r_v (Value.pointer (some ⟨b57, 0, none⟩)) rfl rfl rfl rfl ?_
            refine r_v (Value.bool (true)) rfl rfl rfl rfl ?_
            refine lx_nil ?_
            refine hK58 _ _ ?_; try clear hK58 K58
            refine A_cut (fun tt ll => (shunterlaw07_WireFaults_k5 N b n r43 r46 x55_0 x56_1  = some r) ∧ Is [(0, bv), (1, Value.int .i64 (n)), (8, Value.pointer (some ⟨b30, 0, none⟩)), (9, Value.int .i64 (r43)), (10, Value.iface 44 (Value.pointer (some ⟨b57, 0, none⟩))), (11, Value.pointer (some ⟨b57, 0, none⟩))] (List.flatten [[(b30, 55, #[s31, Value.int .i64 (r46.2.1), Value.int .i64 (r46.2.2)])], [(b57, 48, #[Value.int .i64 (x55_0), Value.int .i64 (x56_1)])], S49]) tt ll) ?_ ?_
            · refine A_seq fun K104 hK104 => ?_
              refine A_reg ?_
              refine r_v (Value.bool (true)) rfl rfl rfl rfl ?_
              refine r_v (Value.bool (false)) rfl rfl rfl rfl ?_
              refine r_v (Value.bool (false)) rfl rfl rfl rfl ?_
              refine r_y rfl ?_
              refine r_v (Value.pointer (some ⟨b57, 0, none⟩)) rfl rfl rfl rfl ?_
              refine r_y rfl ?_
              refine r_v (Value.bool (false)) rfl rfl rfl rfl ?_
              refine r_v (Value.bool (false)) rfl rfl rfl rfl ?_
              refine lx_nil ?_
              refine hK104 _ _ ?_; try clear hK104 K104
              refine A_cond false rfl (fun h_ => nomatch h_) (fun _ => ?_)
              refine A_skip ?_
              refine fg _ (Sub.pick [[(b30, 55, #[s31, Value.int .i64 (r46.2.1), Value.int .i64 (r46.2.2)])], [(b57, 48, #[Value.int .i64 (x55_0), Value.int .i64 (x56_1)])], S49] [0, 1, 2] rfl) ?_
              exact ⟨hM, is_mk rfl rfl⟩
            · clear hM; rintro t l ⟨hM, ⟨T, rfl⟩, rfl⟩
              unfold shunterlaw07_WireFaults_k5 at hM
              refine A_seq fun K59 hK59 => ?_
              refine A_reg ?_
              refine r_v (Value.pointer none) rfl rfl rfl rfl ?_
              refine lx_nil ?_
              refine hK59 _ _ ?_; try clear hK59 K59
              refine A_cut (fun tt ll => (shunterlaw07_WireFaults_k6 N b n r43 r46 x55_0 x56_1  = some r) ∧ Is [(0, bv), (1, Value.int .i64 (n)), (8, Value.pointer (some ⟨b30, 0, none⟩)), (9, Value.int .i64 (r43)), (10, Value.iface 44 (Value.pointer (some ⟨b57, 0, none⟩))), (11, Value.pointer (some ⟨b57, 0, none⟩))] (List.flatten [[(b30, 55, #[s31, Value.int .i64 (r46.2.1), Value.int .i64 (r46.2.2)])], [(b57, 48, #[Value.int .i64 (x55_0), Value.int .i64 (x56_1)])], S49]) tt ll) ?_ ?_
              · refine A_seq fun K88 hK88 => ?_
                refine A_drawR [(some 102, false), (some 106, false)] (conG Tryd.prog [(102, fun _ _ v_ L_ U_ => ∀ u0_, wire_Fault_Error_v1_m N  = some u0_ → (pV (Value.string (⟨(u0_).toArray⟩))) v_ L_ U_), (106, fun _ _ v_ L_ U_ => ∀ u0_, wire_Fault_Error_v2_m N x55_0 x56_1 = some u0_ → (pV (Value.string (⟨(u0_).toArray⟩))) v_ L_ U_)]) [] (by decide +kernel) (fun hn => sep_nil) ?_
                refine r_v (Value.pointer none) rfl rfl rfl rfl ?_
                replace hM := bind_sm hM; obtain ⟨r89, hr90, hM⟩ := hM
                refine r_gv (Value.string (⟨(r89).toArray⟩)) 19 _ rfl rfl rfl (ev_callF rfl call_19 rfl) (fun own_ nw_ hs_ => wire_Fault_Error_v1_g N  _ hr90 hs_.view ) (fun _ _ v_ L_ U_ => ⟨fun h_ => h_ _ hr90, fun h_ => by intro _ e_; cases Option.some.inj (e_.symm.trans hr90); exact h_⟩) ?_
                refine r_v (Value.bool ((r89) != ([]))) rfl rfl rfl (ev_neS rfl rfl) ?_
                refine r_v (Value.bool ((r89) != ([]))) rfl rfl rfl rfl ?_
                rcases hg91 : ((r89) != ([])) with _ | _
                · replace hM := ifn (bne_f hg91) hM
                  refine r_y rfl ?_
                  refine r_v (Value.pointer (some ⟨b57, 0, none⟩)) rfl rfl rfl rfl ?_
                  refine r_y rfl ?_
                  replace hM := bind_sm hM; obtain ⟨r92, hr93, hM⟩ := hM
                  refine r_gv (Value.string (⟨(r92).toArray⟩)) 19 _ rfl rfl rfl (ev_callF rfl call_19 rfl) (fun own_ nw_ hs_ => wire_Fault_Error_v2_g N x55_0 x56_1 _ hr93 hs_.view b57 (blk_own 1 rfl rfl own_ nw_ hs_)) (fun _ _ v_ L_ U_ => ⟨fun h_ => h_ _ hr93, fun h_ => by intro _ e_; cases Option.some.inj (e_.symm.trans hr93); exact h_⟩) ?_
                  refine r_y rfl ?_
                  refine r_v (Value.pointer (some ⟨b57, 0, none⟩)) rfl rfl rfl rfl ?_
                  refine r_y rfl ?_
                  refine r_v (Value.pointer (some ⟨b57, 0, none⟩)) rfl rfl rfl rfl ?_
                  refine r_y rfl ?_
                  refine r_v (Value.pointer (some ⟨b57, 0, none⟩)) rfl rfl rfl rfl ?_
                  refine r_y rfl ?_
                  refine r_l (Value.int .i64 (x55_0)) 1 _ _ _ _ rfl rfl rfl rfl rfl ?_
                  refine r_y rfl ?_
                  replace hM := bind_sm hM; obtain ⟨r94, hr95, hM⟩ := hM
                  refine r_c (Value.string (⟨(r94).toArray⟩)) rfl _ _ (ev_callF rfl call_20 rfl) (shunterlaw07_digits_g N x55_0 _ hr95) ?_
                  refine r_y rfl ?_
                  replace hM := ck_some hM; obtain ⟨ck96, hM⟩ := hM
                  refine r_v (Value.string (⟨((([102, 97, 117, 108, 116, 32] : List UInt8)) ++ (r94)).toArray⟩)) rfl rfl rfl (ev_addS ck96 rfl rfl) ?_
                  refine r_y rfl ?_
                  replace hM := ck_some hM; obtain ⟨ck97, hM⟩ := hM
                  refine r_v (Value.string (⟨(((([102, 97, 117, 108, 116, 32] : List UInt8)) ++ (r94)) ++ (([32, 97, 116, 32, 98, 121, 116, 101, 32] : List UInt8))).toArray⟩)) rfl rfl rfl (ev_addS ck97 rfl rfl) ?_
                  refine r_y rfl ?_
                  refine r_v (Value.pointer (some ⟨b57, 0, none⟩)) rfl rfl rfl rfl ?_
                  refine r_y rfl ?_
                  refine r_v (Value.pointer (some ⟨b57, 0, none⟩)) rfl rfl rfl rfl ?_
                  refine r_y rfl ?_
                  refine r_v (Value.pointer (some ⟨b57, 1, none⟩)) rfl rfl rfl rfl ?_
                  refine r_y rfl ?_
                  refine r_l (Value.int .i64 (x56_1)) 1 _ _ _ _ rfl rfl rfl rfl rfl ?_
                  refine r_y rfl ?_
                  replace hM := bind_sm hM; obtain ⟨r98, hr99, hM⟩ := hM
                  refine r_c (Value.string (⟨(r98).toArray⟩)) rfl _ _ (ev_callF rfl call_20 rfl) (shunterlaw07_digits_g N x56_1 _ hr99) ?_
                  refine r_y rfl ?_
                  replace hM := ck_some hM; obtain ⟨ck100, hM⟩ := hM
                  refine r_v (Value.string (⟨((((([102, 97, 117, 108, 116, 32] : List UInt8)) ++ (r94)) ++ (([32, 97, 116, 32, 98, 121, 116, 101, 32] : List UInt8))) ++ (r98)).toArray⟩)) rfl rfl rfl (ev_addS ck100 rfl rfl) ?_
                  refine r_y rfl ?_
                  refine r_v (Value.bool ((r92) != ((((([102, 97, 117, 108, 116, 32] : List UInt8)) ++ (r94)) ++ (([32, 97, 116, 32, 98, 121, 116, 101, 32] : List UInt8))) ++ (r98)))) rfl rfl rfl (ev_neS rfl rfl) ?_
                  refine r_v (Value.bool ((r92) != ((((([102, 97, 117, 108, 116, 32] : List UInt8)) ++ (r94)) ++ (([32, 97, 116, 32, 98, 121, 116, 101, 32] : List UInt8))) ++ (r98)))) rfl rfl rfl rfl ?_
                  refine lx_nil ?_
                  refine hK88 _ _ ?_; try clear hK88 K88
                  refine A_cond ((r92) != ((((([102, 97, 117, 108, 116, 32] : List UInt8)) ++ (r94)) ++ (([32, 97, 116, 32, 98, 121, 116, 101, 32] : List UInt8))) ++ (r98))) rfl (fun hc101 => ?_) (fun hc101 => ?_)
                  · replace hM := ifp (bne_iff_ne.1 hc101) hM
                    refine A_seq fun K102 hK102 => ?_
                    refine A_reg ?_
                    refine r_v (Value.bool (false)) rfl rfl rfl rfl ?_
                    refine lx_nil ?_
                    refine hK102 _ _ ?_; try clear hK102 K102
                    refine A_gen [(4, Value.bool (false))] rfl (fun T => ?_)
                    obtain rfl := Option.some.inj hM
                    refine A_ret (fun hn => endsV (v0 := Value.bool (false)) rfl (res1 rfl))
                  · replace hM := ifn (bne_f hc101) hM
                    refine A_skip ?_
                    refine fg _ (Sub.pick [[(b30, 55, #[s31, Value.int .i64 (r46.2.1), Value.int .i64 (r46.2.2)])], [(b57, 48, #[Value.int .i64 (x55_0), Value.int .i64 (x56_1)])], S49] [0, 1, 2] rfl) ?_
                    exact ⟨hM, is_mk rfl rfl⟩
                · replace hM := ifp (bne_iff_ne.1 hg91) hM
                  refine r_n true rfl (by decide) rfl ?_
                  refine r_n true rfl (by decide) rfl ?_
                  refine r_n true rfl (by decide) rfl ?_
                  refine r_n true rfl (by decide) rfl ?_
                  refine r_n true rfl (by decide) rfl ?_
                  refine r_n true rfl (by decide) rfl ?_
                  refine r_n true rfl (by decide) rfl ?_
                  refine r_n true rfl (by decide) rfl ?_
                  refine r_n true rfl (by decide) rfl ?_
                  refine r_n true rfl (by decide) rfl ?_
                  refine r_n true rfl (by decide) rfl ?_
                  refine r_n true rfl (by decide) rfl ?_
                  refine r_n true rfl (by decide) rfl ?_
                  refine r_n true rfl (by decide) rfl ?_
                  refine r_n true rfl (by decide) rfl ?_
                  refine r_n true rfl (by decide) rfl ?_
                  refine r_v (Value.bool (true)) rfl rfl rfl rfl ?_
                  refine lx_nil ?_
                  refine hK88 _ _ ?_; try clear hK88 K88
                  refine A_cond true rfl (fun _ => ?_) (fun h_ => nomatch h_)
                  refine A_seq fun K103 hK103 => ?_
                  refine A_reg ?_
                  refine r_v (Value.bool (false)) rfl rfl rfl rfl ?_
                  refine lx_nil ?_
                  refine hK103 _ _ ?_; try clear hK103 K103
                  refine A_gen [(4, Value.bool (false))] rfl (fun T => ?_)
                  obtain rfl := Option.some.inj hM
                  refine A_ret (fun hn => endsV (v0 := Value.bool (false)) rfl (res1 rfl))
              · clear hM; rintro t l ⟨hM, ⟨T, rfl⟩, rfl⟩
                unfold shunterlaw07_WireFaults_k6 at hM
                refine A_seq fun K60 hK60 => ?_
                refine A_regC [(some 123, false)] (conG Tryd.prog [(123, fun _ _ v_ L_ U_ => (pV (Value.pointer (some ⟨b57, 0, none⟩))) v_ L_ U_)]) ?_
                refine r_v (Value.iface 44 (Value.pointer (some ⟨b57, 0, none⟩))) rfl rfl rfl rfl ?_
                replace hM := bind_sm hM; obtain ⟨r61, hr62, hM⟩ := hM
                refine r_gv (Value.pointer (some ⟨b57, 0, none⟩)) 21 _ rfl rfl rfl (ev_callF rfl call_21 rfl) (fun own_ nw_ hs_ => (Does.inv (wire_Only_v1_g N x55_0 x56_1 _ hr62 hs_.view b57 (blk_own 1 rfl rfl own_ nw_ hs_)) _)) (fun _ _ _ _ _ => Iff.rfl) ?_
                refine r_v (Value.pointer (some ⟨b57, 0, none⟩)) rfl rfl rfl rfl ?_
                refine lx_nil ?_
                refine hK60 _ _ ?_; try clear hK60 K60
                refine A_seq fun K63 hK63 => ?_
                refine A_seq fun K64 hK64 => ?_
                refine A_reg ?_
                refine r_v (bv) rfl rfl rfl rfl ?_
                refine r_v (Value.int .i64 (((b).length : Int))) rfl rfl rfl (ev_lenSl rfl rfl rfl (Rd.shp hb)) ?_
                refine r_v (Value.bool (((((b).length : Int) : Int) == 0))) rfl rfl rfl rfl ?_
                refine lx_nil ?_
                refine hK64 _ _ ?_; try clear hK64 K64
                refine A_cond (((((b).length : Int) : Int) == 0)) rfl (fun hc65 => ?_) (fun hc65 => ?_)
                · replace hM := ifp (eq_of_beq hc65) hM
                  refine A_seq fun K66 hK66 => ?_
                  refine A_draw [] (by decide +kernel) (fun hn => sep_nil) ?_
                  refine r_v (Value.pointer (some ⟨b57, 0, none⟩)) rfl rfl rfl rfl ?_
                  refine r_v (Value.pointer (some ⟨b57, 0, none⟩)) rfl rfl rfl rfl ?_
                  refine r_v (Value.pointer (some ⟨b57, 0, none⟩)) rfl rfl rfl rfl ?_
                  refine r_l (Value.int .i64 (x55_0)) 1 _ _ _ _ rfl rfl rfl rfl rfl ?_
                  refine r_v (Value.bool (((x55_0 : Int) == 3))) rfl rfl rfl rfl ?_
                  refine r_v (Value.bool (((x55_0 : Int) == 3))) rfl rfl rfl rfl ?_
                  rcases hg67 : (((x55_0 : Int) == 3)) with _ | _
                  · replace hM := ifn (ne_of_beq_false hg67) hM
                    refine r_n false rfl (by decide) rfl ?_
                    refine r_n false rfl (by decide) rfl ?_
                    refine r_n false rfl (by decide) rfl ?_
                    refine r_n false rfl (by decide) rfl ?_
                    refine r_n false rfl (by decide) rfl ?_
                    refine r_v (Value.bool (false)) rfl rfl rfl rfl ?_
                    refine r_v (Value.bool (false)) rfl rfl rfl rfl ?_
                    refine r_n false rfl (by decide) rfl ?_
                    refine r_n false rfl (by decide) rfl ?_
                    refine r_n false rfl (by decide) rfl ?_
                    refine r_n false rfl (by decide) rfl ?_
                    refine r_n false rfl (by decide) rfl ?_
                    refine r_n false rfl (by decide) rfl ?_
                    refine r_n false rfl (by decide) rfl ?_
                    refine r_n false rfl (by decide) rfl ?_
                    refine r_n false rfl (by decide) rfl ?_
                    refine r_v (Value.bool (false)) rfl rfl rfl rfl ?_
                    refine r_v (Value.bool (false)) rfl rfl rfl rfl ?_
                    refine r_n false rfl (by decide) rfl ?_
                    refine r_v (Value.bool (false)) rfl rfl rfl rfl ?_
                    refine r_v (Value.bool (false)) rfl rfl rfl rfl ?_
                    refine lx_nil ?_
                    refine hK66 _ _ ?_; try clear hK66 K66
                    refine A_gen [(4, Value.bool (false))] rfl (fun T => ?_)
                    obtain rfl := Option.some.inj hM
                    refine A_ret (fun hn => endsV (v0 := Value.bool (false)) rfl (res1 rfl))
                  · replace hM := ifp (eq_of_beq hg67) hM
                    refine r_y rfl ?_
                    refine r_v (Value.pointer (some ⟨b57, 0, none⟩)) rfl rfl rfl rfl ?_
                    refine r_y rfl ?_
                    refine r_v (Value.pointer (some ⟨b57, 0, none⟩)) rfl rfl rfl rfl ?_
                    refine r_y rfl ?_
                    refine r_v (Value.pointer (some ⟨b57, 1, none⟩)) rfl rfl rfl rfl ?_
                    refine r_y rfl ?_
                    refine r_l (Value.int .i64 (x56_1)) 1 _ _ _ _ rfl rfl rfl rfl rfl ?_
                    refine r_y rfl ?_
                    refine r_v (Value.bool (((x56_1 : Int) == 0))) rfl rfl rfl rfl ?_
                    refine r_v (Value.bool (((x56_1 : Int) == 0))) rfl rfl rfl rfl ?_
                    refine r_v (Value.bool (((x56_1 : Int) == 0))) rfl rfl rfl rfl ?_
                    rcases hg68 : (((x56_1 : Int) == 0)) with _ | _
                    · replace hM := ifn (ne_of_beq_false hg68) hM
                      refine r_n false rfl (by decide) rfl ?_
                      refine r_n false rfl (by decide) rfl ?_
                      refine r_n false rfl (by decide) rfl ?_
                      refine r_n false rfl (by decide) rfl ?_
                      refine r_n false rfl (by decide) rfl ?_
                      refine r_n false rfl (by decide) rfl ?_
                      refine r_n false rfl (by decide) rfl ?_
                      refine r_n false rfl (by decide) rfl ?_
                      refine r_n false rfl (by decide) rfl ?_
                      refine r_v (Value.bool (false)) rfl rfl rfl rfl ?_
                      refine r_v (Value.bool (false)) rfl rfl rfl rfl ?_
                      refine r_n false rfl (by decide) rfl ?_
                      refine r_v (Value.bool (false)) rfl rfl rfl rfl ?_
                      refine r_v (Value.bool (false)) rfl rfl rfl rfl ?_
                      refine lx_nil ?_
                      refine hK66 _ _ ?_; try clear hK66 K66
                      refine A_gen [(4, Value.bool (false))] rfl (fun T => ?_)
                      obtain rfl := Option.some.inj hM
                      refine A_ret (fun hn => endsV (v0 := Value.bool (false)) rfl (res1 rfl))
                    · replace hM := ifp (eq_of_beq hg68) hM
                      refine r_y rfl ?_
                      refine r_v (Value.pointer (some ⟨b57, 0, none⟩)) rfl rfl rfl rfl ?_
                      refine r_y rfl ?_
                      refine r_v (Value.pointer (some ⟨b57, 0, none⟩)) rfl rfl rfl rfl ?_
                      refine r_y rfl ?_
                      refine r_v (Value.pointer (some ⟨b57, 0, none⟩)) rfl rfl rfl rfl ?_
                      refine r_y rfl ?_
                      refine r_l (Value.int .i64 (x55_0)) 1 _ _ _ _ rfl rfl rfl rfl rfl ?_
                      refine r_y rfl ?_
                      refine r_v (Value.pointer (some ⟨b57, 0, none⟩)) rfl rfl rfl rfl ?_
                      refine r_y rfl ?_
                      refine r_v (Value.pointer (some ⟨b57, 0, none⟩)) rfl rfl rfl rfl ?_
                      refine r_y rfl ?_
                      refine r_v (Value.pointer (some ⟨b57, 0, none⟩)) rfl rfl rfl rfl ?_
                      refine r_y rfl ?_
                      refine r_l (Value.int .i64 (x55_0)) 1 _ _ _ _ rfl rfl rfl rfl rfl ?_
                      refine r_y rfl ?_
                      refine r_v (Value.bool (((x55_0 : Int) == x55_0))) rfl rfl rfl rfl ?_
                      refine r_v (Value.bool (((x55_0 : Int) == x55_0))) rfl rfl rfl rfl ?_
                      refine r_v (Value.bool (((x55_0 : Int) == x55_0))) rfl rfl rfl rfl ?_
                      rcases hg69 : (((x55_0 : Int) == x55_0)) with _ | _
                      · replace hM := ifn (ne_of_beq_false hg69) hM
                        refine r_n false rfl (by decide) rfl ?_
                        refine r_v (Value.bool (false)) rfl rfl rfl rfl ?_
                        refine r_v (Value.bool (false)) rfl rfl rfl rfl ?_
                        refine lx_nil ?_
                        refine hK66 _ _ ?_; try clear hK66 K66
                        refine A_gen [(4, Value.bool (false))] rfl (fun T => ?_)
                        obtain rfl := Option.some.inj hM
                        refine A_ret (fun hn => endsV (v0 := Value.bool (false)) rfl (res1 rfl))
                      · replace hM := ifp (eq_of_beq hg69) hM
                        refine r_y rfl ?_
                        replace hM := bind_sm hM; obtain ⟨r70, hr71, hM⟩ := hM
                        refine r_c (Value.bool (r70)) rfl _ _ (ev_callF rfl call_4 rfl) (shunterlaw07_lives_g N  _ hr71) ?_
                        refine r_v (Value.bool (r70)) rfl rfl rfl rfl ?_
                        refine r_v (Value.bool (r70)) rfl rfl rfl rfl ?_
                        refine lx_nil ?_
                        refine hK66 _ _ ?_; try clear hK66 K66
                        refine A_gen [(4, Value.bool (r70))] rfl (fun T => ?_)
                        obtain rfl := Option.some.inj hM
                        refine A_ret (fun hn => endsV (v0 := Value.bool (r70)) rfl (res1 rfl))
                · replace hM := ifn (ne_of_beq_false hc65) hM
                  refine A_skip ?_
                  refine hK63 _ _ ?_; try clear hK63 K63
                  refine A_seq fun K72 hK72 => ?_
                  refine A_drawR [(some 191, true), (some 196, false)] (conG Tryd.prog [(191, fun _ _ v_ L_ U_ => ∀ u0_, wire_Reader_Byte_v2_m N r46.1 r46.2.1 r46.2.2 n = some u0_ → (pO (List.flatten [[(b30, 55, #[s31, Value.int .i64 (r46.2.1), Value.int .i64 (r46.2.2)])], S49]) (oI 5 encY s31 u0_.2.1 (oE (Value.int .i64 (u0_.1)) [[(b30, 55, #[s31, Value.int .i64 (u0_.2.2.1), Value.int .i64 (u0_.2.2.2)])]]))) v_ L_ U_), (196, fun _ _ v_ L_ U_ => ∀ u0_, wire_Reader_Byte_v2_m N r46.1 r46.2.1 r46.2.2 n = some u0_ → ∀ u1_, wire_Reader_At_v2_m N u0_.2.1 u0_.2.2.1 u0_.2.2.2 = some u1_ → (pV (Value.int .i64 (u1_))) v_ L_ U_)]) [] (by decide +kernel) (fun hn => sep_nil) ?_
                  refine r_v (Value.pointer (some ⟨b57, 0, none⟩)) rfl rfl rfl rfl ?_
                  refine r_v (Value.pointer (some ⟨b57, 0, none⟩)) rfl rfl rfl rfl ?_
                  refine r_v (Value.pointer (some ⟨b57, 0, none⟩)) rfl rfl rfl rfl ?_
                  refine r_l (Value.int .i64 (x55_0)) 1 _ _ _ _ rfl rfl rfl rfl rfl ?_
                  refine r_v (Value.bool (((x55_0 : Int) == 5))) rfl rfl rfl rfl ?_
                  refine r_v (Value.bool (((x55_0 : Int) == 5))) rfl rfl rfl rfl ?_
                  rcases hg73 : (((x55_0 : Int) == 5)) with _ | _
                  · replace hM := ifn (ne_of_beq_false hg73) hM
                    refine r_n false rfl (by decide) rfl ?_
                    refine r_n false rfl (by decide) rfl ?_
                    refine r_n false rfl (by decide) rfl ?_
                    refine r_n false rfl (by decide) rfl ?_
                    refine r_n false rfl (by decide) rfl ?_
                    refine r_n false rfl (by decide) rfl ?_
                    refine r_v (Value.bool (false)) rfl rfl rfl rfl ?_
                    refine r_v (Value.bool (false)) rfl rfl rfl rfl ?_
                    refine r_n false rfl (by decide) rfl ?_
                    refine r_n false rfl (by decide) rfl ?_
                    refine r_n false rfl (by decide) rfl ?_
                    refine r_n false rfl (by decide) rfl ?_
                    refine r_n false rfl (by decide) rfl ?_
                    refine r_n false rfl (by decide) rfl ?_
                    refine r_n false rfl (by decide) rfl ?_
                    refine r_n false rfl (by decide) rfl ?_
                    refine r_n false rfl (by decide) rfl ?_
                    refine r_v (Value.bool (false)) rfl rfl rfl rfl ?_
                    refine r_v (Value.bool (false)) rfl rfl rfl rfl ?_
                    refine r_n false rfl (by decide) rfl ?_
                    refine r_n false rfl (by decide) rfl ?_
                    refine r_n false rfl (by decide) rfl ?_
                    refine r_n false rfl (by decide) rfl ?_
                    refine r_n false rfl (by decide) rfl ?_
                    refine r_n false rfl (by decide) rfl ?_
                    refine r_n false rfl (by decide) rfl ?_
                    refine r_n false rfl (by decide) rfl ?_
                    refine r_n false rfl (by decide) rfl ?_
                    refine r_v (Value.bool (false)) rfl rfl rfl rfl ?_
                    refine r_v (Value.bool (false)) rfl rfl rfl rfl ?_
                    refine r_n false rfl (by decide) rfl ?_
                    refine r_n false rfl (by decide) rfl ?_
                    refine r_n false rfl (by decide) rfl ?_
                    refine r_n false rfl (by decide) rfl ?_
                    refine r_v (Value.bool (false)) rfl rfl rfl rfl ?_
                    refine r_v (Value.bool (false)) rfl rfl rfl rfl ?_
                    refine r_n false rfl (by decide) rfl ?_
                    refine r_n false rfl (by decide) rfl ?_
                    refine r_n false rfl (by decide) rfl ?_
                    refine r_n false rfl (by decide) rfl ?_
                    refine r_v (Value.bool (false)) rfl rfl rfl rfl ?_
                    refine r_v (Value.bool (false)) rfl rfl rfl rfl ?_
                    refine r_n false rfl (by decide) rfl ?_
                    refine r_v (Value.bool (false)) rfl rfl rfl rfl ?_
                    refine r_v (Value.bool (false)) rfl rfl rfl rfl ?_
                    refine lx_nil ?_
                    refine hK72 _ _ ?_; try clear hK72 K72
                    refine A_gen [(4, Value.bool (false))] rfl (fun T => ?_)
                    obtain rfl := Option.some.inj hM
                    refine A_ret (fun hn => endsV (v0 := Value.bool (false)) rfl (res1 rfl))
                  · replace hM := ifp (eq_of_beq hg73) hM
                    refine r_y rfl ?_
                    refine r_v (Value.pointer (some ⟨b57, 0, none⟩)) rfl rfl rfl rfl ?_
                    refine r_y rfl ?_
                    refine r_v (Value.pointer (some ⟨b57, 0, none⟩)) rfl rfl rfl rfl ?_
                    refine r_y rfl ?_
                    refine r_v (Value.pointer (some ⟨b57, 1, none⟩)) rfl rfl rfl rfl ?_
                    refine r_y rfl ?_
                    refine r_l (Value.int .i64 (x56_1)) 1 _ _ _ _ rfl rfl rfl rfl rfl ?_
                    refine r_y rfl ?_
                    refine r_v (Value.int .i64 (r43)) rfl rfl rfl rfl ?_
                    refine r_y rfl ?_
                    refine r_v (Value.bool (((x56_1 : Int) == r43))) rfl rfl rfl rfl ?_
                    refine r_v (Value.bool (((x56_1 : Int) == r43))) rfl rfl rfl rfl ?_
                    refine r_v (Value.bool (((x56_1 : Int) == r43))) rfl rfl rfl rfl ?_
                    rcases hg74 : (((x56_1 : Int) == r43)) with _ | _
                    · replace hM := ifn (ne_of_beq_false hg74) hM
                      refine r_n false rfl (by decide) rfl ?_
                      refine r_n false rfl (by decide) rfl ?_
                      refine r_n false rfl (by decide) rfl ?_
                      refine r_n false rfl (by decide) rfl ?_
                      refine r_n false rfl (by decide) rfl ?_
                      refine r_n false rfl (by decide) rfl ?_
                      refine r_n false rfl (by decide) rfl ?_
                      refine r_n false rfl (by decide) rfl ?_
                      refine r_n false rfl (by decide) rfl ?_
                      refine r_v (Value.bool (false)) rfl rfl rfl rfl ?_
                      refine r_v (Value.bool (false)) rfl rfl rfl rfl ?_
                      refine r_n false rfl (by decide) rfl ?_
                      refine r_n false rfl (by decide) rfl ?_
                      refine r_n false rfl (by decide) rfl ?_
                      refine r_n false rfl (by decide) rfl ?_
                      refine r_n false rfl (by decide) rfl ?_
                      refine r_n false rfl (by decide) rfl ?_
                      refine r_n false rfl (by decide) rfl ?_
                      refine r_n false rfl (by decide) rfl ?_
                      refine r_n false rfl (by decide) rfl ?_
                      refine r_v (Value.bool (false)) rfl rfl rfl rfl ?_
                      refine r_v (Value.bool (false)) rfl rfl rfl rfl ?_
                      refine r_n false rfl (by decide) rfl ?_
                      refine r_n false rfl (by decide) rfl ?_
                      refine r_n false rfl (by decide) rfl ?_
                      refine r_n false rfl (by decide) rfl ?_
                      refine r_v (Value.bool (false)) rfl rfl rfl rfl ?_
                      refine r_v (Value.bool (false)) rfl rfl rfl rfl ?_
                      refine r_n false rfl (by decide) rfl ?_
                      refine r_n false rfl (by decide) rfl ?_
                      refine r_n false rfl (by decide) rfl ?_
                      refine r_n false rfl (by decide) rfl ?_
                      refine r_v (Value.bool (false)) rfl rfl rfl rfl ?_
                      refine r_v (Value.bool (false)) rfl rfl rfl rfl ?_
                      refine r_n false rfl (by decide) rfl ?_
                      refine r_v (Value.bool (false)) rfl rfl rfl rfl ?_
                      refine r_v (Value.bool (false)) rfl rfl rfl rfl ?_
                      refine lx_nil ?_
                      refine hK72 _ _ ?_; try clear hK72 K72
                      refine A_gen [(4, Value.bool (false))] rfl (fun T => ?_)
                      obtain rfl := Option.some.inj hM
                      refine A_ret (fun hn => endsV (v0 := Value.bool (false)) rfl (res1 rfl))
                    · replace hM := ifp (eq_of_beq hg74) hM
                      refine r_y rfl ?_
                      refine r_v (Value.pointer (some ⟨b57, 0, none⟩)) rfl rfl rfl rfl ?_
                      refine r_y rfl ?_
                      refine r_v (Value.pointer (some ⟨b57, 0, none⟩)) rfl rfl rfl rfl ?_
                      refine r_y rfl ?_
                      refine r_v (Value.pointer (some ⟨b57, 0, none⟩)) rfl rfl rfl rfl ?_
                      refine r_y rfl ?_
                      refine r_l (Value.int .i64 (x55_0)) 1 _ _ _ _ rfl rfl rfl rfl rfl ?_
                      refine r_y rfl ?_
                      refine r_v (Value.pointer (some ⟨b57, 0, none⟩)) rfl rfl rfl rfl ?_
                      refine r_y rfl ?_
                      refine r_v (Value.pointer (some ⟨b57, 0, none⟩)) rfl rfl rfl rfl ?_
                      refine r_y rfl ?_
                      refine r_v (Value.pointer (some ⟨b57, 0, none⟩)) rfl rfl rfl rfl ?_
                      refine r_y rfl ?_
                      refine r_l (Value.int .i64 (x55_0)) 1 _ _ _ _ rfl rfl rfl rfl rfl ?_
                      refine r_y rfl ?_
                      refine r_v (Value.bool (((x55_0 : Int) == x55_0))) rfl rfl rfl rfl ?_
                      refine r_v (Value.bool (((x55_0 : Int) == x55_0))) rfl rfl rfl rfl ?_
                      refine r_v (Value.bool (((x55_0 : Int) == x55_0))) rfl rfl rfl rfl ?_
                      rcases hg75 : (((x55_0 : Int) == x55_0)) with _ | _
                      · replace hM := ifn (ne_of_beq_false hg75) hM
                        refine r_n false rfl (by decide) rfl ?_
                        refine r_n false rfl (by decide) rfl ?_
                        refine r_n false rfl (by decide) rfl ?_
                        refine r_n false rfl (by decide) rfl ?_
                        refine r_n false rfl (by decide) rfl ?_
                        refine r_n false rfl (by decide) rfl ?_
                        refine r_n false rfl (by decide) rfl ?_
                        refine r_n false rfl (by decide) rfl ?_
                        refine r_n false rfl (by decide) rfl ?_
                        refine r_v (Value.bool (false)) rfl rfl rfl rfl ?_
                        refine r_v (Value.bool (false)) rfl rfl rfl rfl ?_
                        refine r_n false rfl (by decide) rfl ?_
                        refine r_n false rfl (by decide) rfl ?_
                        refine r_n false rfl (by decide) rfl ?_
                        refine r_n false rfl (by decide) rfl ?_
                        refine r_v (Value.bool (false)) rfl rfl rfl rfl ?_
                        refine r_v (Value.bool (false)) rfl rfl rfl rfl ?_
                        refine r_n false rfl (by decide) rfl ?_
                        refine r_n false rfl (by decide) rfl ?_
                        refine r_n false rfl (by decide) rfl ?_
                        refine r_n false rfl (by decide) rfl ?_
                        refine r_v (Value.bool (false)) rfl rfl rfl rfl ?_
                        refine r_v (Value.bool (false)) rfl rfl rfl rfl ?_
                        refine r_n false rfl (by decide) rfl ?_
                        refine r_v (Value.bool (false)) rfl rfl rfl rfl ?_
                        refine r_v (Value.bool (false)) rfl rfl rfl rfl ?_
                        refine lx_nil ?_
                        refine hK72 _ _ ?_; try clear hK72 K72
                        refine A_gen [(4, Value.bool (false))] rfl (fun T => ?_)
                        obtain rfl := Option.some.inj hM
                        refine A_ret (fun hn => endsV (v0 := Value.bool (false)) rfl (res1 rfl))
                      · replace hM := ifp (eq_of_beq hg75) hM
                        refine r_y rfl ?_
                        refine r_v (Value.pointer (some ⟨b57, 0, none⟩)) rfl rfl rfl rfl ?_
                        refine r_y rfl ?_
                        refine r_v (Value.pointer (some ⟨b57, 0, none⟩)) rfl rfl rfl rfl ?_
                        refine r_y rfl ?_
                        refine r_v (Value.pointer (some ⟨b57, 1, none⟩)) rfl rfl rfl rfl ?_
                        refine r_y rfl ?_
                        refine r_l (Value.int .i64 (x56_1)) 1 _ _ _ _ rfl rfl rfl rfl rfl ?_
                        refine r_y rfl ?_
                        refine r_v (Value.pointer (some ⟨b57, 0, none⟩)) rfl rfl rfl rfl ?_
                        refine r_y rfl ?_
                        refine r_v (Value.pointer (some ⟨b57, 0, none⟩)) rfl rfl rfl rfl ?_
                        refine r_y rfl ?_
                        refine r_v (Value.pointer (some ⟨b57, 1, none⟩)) rfl rfl rfl rfl ?_
                        refine r_y rfl ?_
                        refine r_l (Value.int .i64 (x56_1)) 1 _ _ _ _ rfl rfl rfl rfl rfl ?_
                        refine r_y rfl ?_
                        refine r_v (Value.bool (((x56_1 : Int) == x56_1))) rfl rfl rfl rfl ?_
                        refine r_v (Value.bool (((x56_1 : Int) == x56_1))) rfl rfl rfl rfl ?_
                        refine r_v (Value.bool (((x56_1 : Int) == x56_1))) rfl rfl rfl rfl ?_
                        rcases hg76 : (((x56_1 : Int) == x56_1)) with _ | _
                        · replace hM := ifn (ne_of_beq_false hg76) hM
                          refine r_n false rfl (by decide) rfl ?_
                          refine r_n false rfl (by decide) rfl ?_
                          refine r_n false rfl (by decide) rfl ?_
                          refine r_n false rfl (by decide) rfl ?_
                          refine r_v (Value.bool (false)) rfl rfl rfl rfl ?_
                          refine r_v (Value.bool (false)) rfl rfl rfl rfl ?_
                          refine r_n false rfl (by decide) rfl ?_
                          refine r_n false rfl (by decide) rfl ?_
                          refine r_n false rfl (by decide) rfl ?_
                          refine r_n false rfl (by decide) rfl ?_
                          refine r_v (Value.bool (false)) rfl rfl rfl rfl ?_
                          refine r_v (Value.bool (false)) rfl rfl rfl rfl ?_
                          refine r_n false rfl (by decide) rfl ?_
                          refine r_v (Value.bool (false)) rfl rfl rfl rfl ?_
                          refine r_v (Value.bool (false)) rfl rfl rfl rfl ?_
                          refine lx_nil ?_
                          refine hK72 _ _ ?_; try clear hK72 K72
                          refine A_gen [(4, Value.bool (false))] rfl (fun T => ?_)
                          obtain rfl := Option.some.inj hM
                          refine A_ret (fun hn => endsV (v0 := Value.bool (false)) rfl (res1 rfl))
                        · replace hM := ifp (eq_of_beq hg76) hM
                          refine r_y rfl ?_
                          refine r_v (Value.pointer (some ⟨b30, 0, none⟩)) rfl rfl rfl rfl ?_
                          refine r_y rfl ?_
                          refine r_v (Value.int .i64 (n)) rfl rfl rfl rfl ?_
                          refine r_y rfl ?_
                          replace hM := bind_sm hM; obtain ⟨r77, hr78, hM⟩ := hM
                          replace hM := ck_some hM; obtain ⟨ck79, hM⟩ := hM
                          refine r_gm (Ls := [[(b30, 55, #[s31, Value.int .i64 (r46.2.1), Value.int .i64 (r46.2.2)])], [(b57, 48, #[Value.int .i64 (x55_0), Value.int .i64 (x56_1)])], S49]) (FL := [[(b30, 55, #[s31, Value.int .i64 (r46.2.1), Value.int .i64 (r46.2.2)])], S49]) (RL := [[(b57, 48, #[Value.int .i64 (x55_0), Value.int .i64 (x56_1)])]]) [0, 2] (oI 5 encY s31 r77.2.1 (oE (Value.int .i64 (r77.1)) [[(b30, 55, #[s31, Value.int .i64 (r77.2.2.1), Value.int .i64 (r77.2.2.2)])]])) (some 191) 9 _ rfl rfl rfl rfl rfl (ev_callF rfl call_9 rfl) (fun own_ nw_ hn_ hs_ => (Does.inv (wire_Reader_Byte_v2_g N r46.1 r46.2.1 r46.2.2 n _ hr78 _ b30 s31 S49 H50) _)) (fun _ _ v_ L_ U_ => ⟨fun h_ => h_ _ hr78, fun h_ => by intro _ e_; cases Option.some.inj (e_.symm.trans hr78); exact h_⟩) (fun _ => (NiceO.sub (R := (S49 ++ ([(b30, 55, #[s31, Value.int .i64 (r46.2.1), Value.int .i64 (r46.2.2)])] ++ []))) (niceI H50 ck79 (niceE rfl)) (Sub.pick [[(b30, 55, #[s31, Value.int .i64 (r46.2.1), Value.int .i64 (r46.2.2)])], S49] [1, 0] rfl))) ?_
                          rintro _ _ ⟨S80, _, H81, ⟨rfl, rfl⟩, rfl⟩
                          refine lx_perm (Ls := [[(b57, 48, #[Value.int .i64 (x55_0), Value.int .i64 (x56_1)])], S80, [(b30, 55, #[s31, Value.int .i64 (r77.2.2.1), Value.int .i64 (r77.2.2.2)])]]) (Ls' := [[(b57, 48, #[Value.int .i64 (x55_0), Value.int .i64 (x56_1)])], [(b30, 55, #[s31, Value.int .i64 (r77.2.2.1), Value.int .i64 (r77.2.2.2)])], S80]) [0, 2, 1] rfl rfl ?_
                          refine r_y rfl ?_
                          refine r_v (Value.bool (((r77.1 : Int) == 0))) rfl rfl rfl rfl ?_
                          refine r_v (Value.bool (((r77.1 : Int) == 0))) rfl rfl rfl rfl ?_
                          refine r_v (Value.bool (((r77.1 : Int) == 0))) rfl rfl rfl rfl ?_
                          rcases hg82 : (((r77.1 : Int) == 0)) with _ | _
                          · replace hM := ifn (ne_of_beq_false hg82) hM
                            refine r_n false rfl (by decide) rfl ?_
                            refine r_n false rfl (by decide) rfl ?_
                            refine r_n false rfl (by decide) rfl ?_
                            refine r_n false rfl (by decide) rfl ?_
                            refine r_v (Value.bool (false)) rfl rfl rfl rfl ?_
                            refine r_v (Value.bool (false)) rfl rfl rfl rfl ?_
                            refine r_n false rfl (by decide) rfl ?_
                            refine r_v (Value.bool (false)) rfl rfl rfl rfl ?_
                            refine r_v (Value.bool (false)) rfl rfl rfl rfl ?_
                            refine lx_nil ?_
                            refine hK72 _ _ ?_; try clear hK72 K72
                            refine A_gen [(4, Value.bool (false))] rfl (fun T => ?_)
                            obtain rfl := Option.some.inj hM
                            refine A_ret (fun hn => endsV (v0 := Value.bool (false)) rfl (res1 rfl))
                          · replace hM := ifp (eq_of_beq hg82) hM
                            refine r_y rfl ?_
                            refine r_v (Value.pointer (some ⟨b30, 0, none⟩)) rfl rfl rfl rfl ?_
                            refine r_y rfl ?_
                            replace hM := bind_sm hM; obtain ⟨r83, hr84, hM⟩ := hM
                            refine r_gv (Value.int .i64 (r83)) 16 _ rfl rfl rfl (ev_callF rfl call_16 rfl) (fun own_ nw_ hs_ => (Does.inv (wire_Reader_At_v2_g N r77.2.1 r77.2.2.1 r77.2.2.2 _ hr84 hs_.view b30 s31 ((rd_own H81 (mem_chunk (Ls := [[(b57, 48, #[Value.int .i64 (x55_0), Value.int .i64 (x56_1)])], [(b30, 55, #[s31, Value.int .i64 (r77.2.2.1), Value.int .i64 (r77.2.2.2)])], S80]) (k := 2) rfl rfl)) own_ nw_ hs_) (blk_own 1 rfl rfl own_ nw_ hs_)) _)) (fun _ _ v_ L_ U_ => ⟨fun h_ => h_ _ hr78 _ hr84, fun h_ => by intro _ e_; cases Option.some.inj (e_.symm.trans hr78); intro _ e_; cases Option.some.inj (e_.symm.trans hr84); exact h_⟩) ?_
                            refine r_y rfl ?_
                            refine r_v (Value.int .i64 (r43)) rfl rfl rfl rfl ?_
                            refine r_y rfl ?_
                            refine r_v (Value.bool (((r83 : Int) == r43))) rfl rfl rfl rfl ?_
                            refine r_v (Value.bool (((r83 : Int) == r43))) rfl rfl rfl rfl ?_
                            refine r_v (Value.bool (((r83 : Int) == r43))) rfl rfl rfl rfl ?_
                            rcases hg85 : (((r83 : Int) == r43)) with _ | _
                            · replace hM := ifn (ne_of_beq_false hg85) hM
                              refine r_n false rfl (by decide) rfl ?_
                              refine r_v (Value.bool (false)) rfl rfl rfl rfl ?_
                              refine r_v (Value.bool (false)) rfl rfl rfl rfl ?_
                              refine lx_nil ?_
                              refine hK72 _ _ ?_; try clear hK72 K72
                              refine A_gen [(4, Value.bool (false))] rfl (fun T => ?_)
                              obtain rfl := Option.some.inj hM
                              refine A_ret (fun hn => endsV (v0 := Value.bool (false)) rfl (res1 rfl))
                            · replace hM := ifp (eq_of_beq hg85) hM
                              refine r_y rfl ?_
                              replace hM := bind_sm hM; obtain ⟨r86, hr87, hM⟩ := hM
                              refine r_c (Value.bool (r86)) rfl _ _ (ev_callF rfl call_4 rfl) (shunterlaw07_lives_g N  _ hr87) ?_
                              refine r_v (Value.bool (r86)) rfl rfl rfl rfl ?_
                              refine r_v (Value.bool (r86)) rfl rfl rfl rfl ?_
                              refine lx_nil ?_
                              refine hK72 _ _ ?_; try clear hK72 K72
                              refine A_gen [(4, Value.bool (r86))] rfl (fun T => ?_)
                              obtain rfl := Option.some.inj hM
                              refine A_ret (fun hn => endsV (v0 := Value.bool (r86)) rfl (res1 rfl))
end Go.Proofs.YtdgejbbelmhbdaaDoor
