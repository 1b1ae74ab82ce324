/- models of functions and their walks -/
import Derived.Test.YtdgejbbelmhbdaaBf
namespace Go.Proofs.Ytdgejbbelmhbdaa
open Go Go.RowKit Go.Eng
def shunterlaw07_WireReads_l6 (N : Nat) (ops : List (Int × Int × Int × Int × Int × (BitVec 128) × (List UInt8) × (List (Int × BitVec 128)) × (List Int))) : Nat → Int → List UInt8 → Int → Int → Int → List UInt8 → Int → Int → Option (Bool)
  | 0, _, _, _, _, _, _, _, _ => none
  | n15 + 1, i2_, m3__0, m3__1, m3__2, m3__3, s5_, m4__1, m4__2 => if (i2_ : Int) < ((ops).length : Int) then ck (0 ≤ i2_ ∧ i2_ < ((ops).length : Int)) ((shunterlaw07_reads_v1_m N s5_ m4__1 m4__2 m3__0 m3__1 m3__2 m3__3 ((ops)[(i2_).toNat]!.1) ((ops)[(i2_).toNat]!.2.1) ((ops)[(i2_).toNat]!.2.2.1) ((ops)[(i2_).toNat]!.2.2.2.1) ((ops)[(i2_).toNat]!.2.2.2.2.1) ((ops)[(i2_).toNat]!.2.2.2.2.2.1) ((ops)[(i2_).toNat]!.2.2.2.2.2.2.1) ((ops)[(i2_).toNat]!.2.2.2.2.2.2.2.1) ((ops)[(i2_).toNat]!.2.2.2.2.2.2.2.2)).bind fun r28 => ck ((r28.2.2.2.2.2.1).length = (s5_).length) (if (r28.2.2.2.2.1) = true then (wire_Reader_At_v1_m N r28.2.2.2.2.2.1 r28.2.2.2.2.2.2.1 r28.2.2.2.2.2.2.2).bind fun r38 => if (r38 : Int) ≠ r28.2.1 then some (false) else (wire_Reader_Left_v1_m N r28.2.2.2.2.2.1 r28.2.2.2.2.2.2.1 r28.2.2.2.2.2.2.2).bind fun r41 => if (r41 : Int) ≠ ((r28.1).length : Int) then some (false) else (wire_Reader_Bad_v1_m N r28.2.2.2.2.2.1 r28.2.2.2.2.2.2.1 r28.2.2.2.2.2.2.2).bind fun r44 => if (r44) ≠ (((r28.2.2.1 : Int) != 0)) then some (false) else ck ((-9223372036854775808 ≤ (i2_ + 1) ∧ (i2_ + 1) ≤ 9223372036854775807)) ((shunterlaw07_WireReads_l6 N ops n15) ((i2_ + 1)) (r28.1) (r28.2.1) (r28.2.2.1) (r28.2.2.2.1) (r28.2.2.2.2.2.1) (r28.2.2.2.2.2.2.1) (r28.2.2.2.2.2.2.2)) else some (false))) else (wire_Reader_End_v1_m N s5_ m4__1 m4__2).bind fun r53 => Sum46.on r53 ((wire_Why_v1_m N ).bind fun r58 => (shunterref07_End_v1_m N m3__0 m3__1 m3__2 m3__3).bind fun r61 => if (r58.1 : Int) = r61.1 then if (r58.2 : Int) = r61.2 then (shunterlaw07_lives_m N ).bind fun r66 => some (r66) else some (false) else some (false)) (fun x56_0 x57_1 => (wire_Why_v2_m N x56_0 x57_1).bind fun r59 => (shunterref07_End_v1_m N m3__0 m3__1 m3__2 m3__3).bind fun r62 => if (r59.1 : Int) = r62.1 then if (r59.2 : Int) = r62.2 then (shunterlaw07_lives_m N ).bind fun r67 => some (r67) else some (false) else some (false))
def shunterlaw07_WireReads_k1 (N : Nat) (b : List UInt8) (ops : List (Int × Int × Int × Int × Int × (BitVec 128) × (List UInt8) × (List (Int × BitVec 128)) × (List Int))) : Option (Bool) := (wire_Read_m N b).bind fun r3 => shunterlaw07_WireReads_l6 N ops N (0) (b) (0) (0) (0) (r3.1) (r3.2.1) (r3.2.2)
def shunterlaw07_WireReads_m (N : Nat) (b : List UInt8) (ops : List (Int × Int × Int × Int × Int × (BitVec 128) × (List UInt8) × (List (Int × BitVec 128)) × (List Int))) : Option (Bool) := if (((b).length : Int) : Int) > 500 then (shunterlaw07_lives_m N ).bind fun r78 => some (r78) else (shunterlaw07_light_m N ops).bind fun r71 => if (r71) = true then shunterlaw07_WireReads_k1 N b ops  else (shunterlaw07_lives_m N ).bind fun r75 => some (r75)
set_option maxRecDepth 100000 in
set_option maxHeartbeats 8000000 in
theorem shunterlaw07_WireReads_g (N : Nat) (b : List UInt8) (ops : List (Int × Int × Int × Int × Int × (BitVec 128) × (List UInt8) × (List (Int × BitVec 128)) × (List Int))) (r : Bool) (hM : shunterlaw07_WireReads_m N b ops = some r) (ro : Addr → Option Value) (bv : Value) (hb : Rd encY ro bv b) (opsv : Value) (hops : RdN encr_34 ro opsv ops) : Does Try.prog 4 #[bv, opsv] ro [] (pV (Value.bool (r))) := by
  unfold shunterlaw07_WireReads_m at hM
  refine does_of_A follows Try.func4 rfl 91 rfl (upd (upd (fun _ => undef) 1 (opsv)) 0 (bv)) (by funext k; match k with | 0 => rfl | 1 => rfl | k + 2 => rfl) (fun base0_ => ?_)
  refine A_seq fun K1 hK1 => ?_
  refine A_reg ?_
  refine r_v (Value.bool (false)) rfl rfl rfl rfl ?_
  refine lx_nil ?_
  refine hK1 _ _ ?_; try clear hK1 K1
  refine A_cut (fun tt ll => (shunterlaw07_WireReads_k1 N b ops  = some r) ∧ Is [(0, bv), (1, opsv)] [] tt ll) ?_ ?_
  · refine A_seq fun K69 hK69 => ?_
    refine A_regC [(some 18, false)] (conG Try.prog [(18, fun _ _ v_ L_ U_ => ∀ u0_, shunterlaw07_light_m N ops = some u0_ → (pV (Value.bool (u0_))) v_ L_ U_)]) ?_
    refine r_v (bv) rfl rfl rfl rfl ?_
    refine r_v (Value.int .i64 (((b).length : Int))) rfl rfl rfl (ev_lenSl rfl rfl rfl (Rd.shp hb)) ?_
    refine r_v (Value.bool (decide ((((b).length : Int) : Int) > 500))) rfl rfl rfl rfl ?_
    refine r_v (Value.bool (decide ((((b).length : Int) : Int) > 500))) rfl rfl rfl rfl ?_
    rcases hg70 : (decide ((((b).length : Int) : Int) > 500)) with _ | _
    · replace hM := ifn (of_decide_eq_false hg70) hM
      refine r_y rfl ?_
      refine r_v (opsv) rfl rfl rfl rfl ?_
      refine r_y rfl ?_
      replace hM := bind_sm hM; obtain ⟨r71, hr72, hM⟩ := hM
      refine r_gv (Value.bool (r71)) 6 _ rfl rfl rfl (ev_callF rfl call_6 rfl) (fun own_ nw_ hs_ => shunterlaw07_light_g N ops _ hr72 hs_.view opsv ((fun own_ nw_ hs_ => RdN.mono hs_.ro_cell hops) own_ nw_ hs_)) (fun _ _ v_ L_ U_ => ⟨fun h_ => h_ _ hr72, fun h_ => by intro _ e_; cases Option.some.inj (e_.symm.trans hr72); exact h_⟩) ?_
      refine r_y rfl ?_
      refine r_v (Value.bool (!(r71))) rfl rfl rfl rfl ?_
      refine r_v (Value.bool (!(r71))) rfl rfl rfl rfl ?_
      refine lx_nil ?_
      refine hK69 _ _ ?_; try clear hK69 K69
      refine A_cond (!(r71)) rfl (fun hc73 => ?_) (fun hc73 => ?_)
      · replace hM := ifn (Bool.eq_false_iff.1 (not_t hc73)) hM
        refine A_seq fun K74 hK74 => ?_
        refine A_reg ?_
        replace hM := bind_sm hM; obtain ⟨r75, hr76, hM⟩ := hM
        refine r_c (Value.bool (r75)) rfl _ _ (ev_callF rfl call_7 rfl) (shunterlaw07_lives_g N  _ hr76) ?_
        refine r_v (Value.bool (r75)) rfl rfl rfl rfl ?_
        refine lx_nil ?_
        refine hK74 _ _ ?_; try clear hK74 K74
        obtain rfl := Option.some.inj hM
        refine A_ret (fun hn => endsV (v0 := Value.bool (r75)) rfl (res1 rfl))
      · replace hM := ifp (not_f hc73) hM
        refine A_skip ?_
        refine fg _ (Sub.of (List.Sublist.slnil)) ?_
        exact ⟨hM, is_mk rfl rfl⟩
    · replace hM := ifp (of_decide_eq_true hg70) hM
      refine r_n true rfl (by decide) rfl ?_
      refine r_n true rfl (by decide) rfl ?_
      refine r_n true rfl (by decide) rfl ?_
      refine r_v (Value.bool (true)) rfl rfl rfl rfl ?_
      refine lx_nil ?_
      refine hK69 _ _ ?_; try clear hK69 K69
      refine A_cond true rfl (fun _ => ?_) (fun h_ => nomatch h_)
      refine A_seq fun K77 hK77 => ?_
      refine A_reg ?_
      replace hM := bind_sm hM; obtain ⟨r78, hr79, hM⟩ := hM
      refine r_c (Value.bool (r78)) rfl _ _ (ev_callF rfl call_7 rfl) (shunterlaw07_lives_g N  _ hr79) ?_
      refine r_v (Value.bool (r78)) rfl rfl rfl rfl ?_
      refine lx_nil ?_
      refine hK77 _ _ ?_; try clear hK77 K77
      obtain rfl := Option.some.inj hM
      refine A_ret (fun hn => endsV (v0 := Value.bool (r78)) rfl (res1 rfl))
  · clear hM; rintro t l ⟨hM, ⟨T, rfl⟩, rfl⟩
    unfold shunterlaw07_WireReads_k1 at hM
    refine A_seq fun K2 hK2 => ?_
    refine A_regC [(some 23, true)] (conG Try.prog [(23, fun _ _ v_ L_ U_ => ∀ u0_, wire_Read_m N b = some u0_ → (pO (List.flatten []) (oS 5 encY u0_.1 fun s_0 => (oB 69 #[s_0, Value.int .i64 (u0_.2.1), Value.int .i64 (u0_.2.2)] fun b_0 => (oE (Value.pointer (some ⟨b_0, 0, none⟩)) [])))) v_ L_ U_)]) ?_
    refine r_v (bv) rfl rfl rfl rfl ?_
    replace hM := bind_sm hM; obtain ⟨r3, hr4, hM⟩ := hM
    refine r_gm (Ls := []) (FL := []) (RL := []) [] (oS 5 encY r3.1 fun s_0 => (oB 69 #[s_0, Value.int .i64 (r3.2.1), Value.int .i64 (r3.2.2)] fun b_0 => (oE (Value.pointer (some ⟨b_0, 0, none⟩)) []))) (some 23) 9 _ rfl rfl rfl rfl rfl (ev_callF rfl call_9 rfl) (fun own_ nw_ hn_ hs_ => wire_Read_g N b _ hr4 _ bv (Rd.mono (ro_sans (Ls := []) (is := []) rfl hs_) hb)) (fun _ _ v_ L_ U_ => ⟨fun h_ => h_ _ hr4, fun h_ => by intro _ e_; cases Option.some.inj (e_.symm.trans hr4); exact h_⟩) (fun h_ => nomatch h_) ?_
    rintro _ _ ⟨s6, S7, _, H8, ⟨b5, _, ⟨rfl, rfl⟩, rfl⟩, rfl⟩
    refine lx_perm (Ls := [S7, [(b5, 69, #[s6, Value.int .i64 (r3.2.1), Value.int .i64 (r3.2.2)])]]) (Ls' := [[(b5, 69, #[s6, Value.int .i64 (r3.2.1), Value.int .i64 (r3.2.2)])], S7]) [1, 0] rfl rfl ?_
    refine r_v (Value.pointer (some ⟨b5, 0, none⟩)) rfl rfl rfl rfl ?_
    refine lx_nil ?_
    refine hK2 _ _ ?_; try clear hK2 K2
    refine A_seq fun K9 hK9 => ?_
    refine A_seq fun K10 hK10 => ?_
    refine A_reg ?_
    refine r_v (Value.pointer (some ⟨b5, 0, none⟩)) rfl rfl rfl rfl ?_
    refine r_v (Value.bool (false)) rfl rfl rfl rfl ?_
    refine lx_nil ?_
    refine hK10 _ _ ?_; try clear hK10 K10
    refine A_cond false rfl (fun h_ => nomatch h_) (fun _ => ?_)
    refine A_skip ?_
    refine hK9 _ _ ?_; try clear hK9 K9
    refine A_seq fun K11 hK11 => ?_
    refine A_reg ?_
    refine r_v (bv) rfl rfl rfl rfl ?_
    refine r_v (Value.agg #[bv, Value.int .i64 (0), Value.int .i64 (0), Value.int .i64 (0)]) rfl rfl rfl (ev_buildSC rfl rfl rfl (pc_cons (cells_sl rfl (Rd.shp hb)) pc_nil) rfl) ?_
    refine r_a (39, #[Value.slice none 0 0, Value.int .i64 (0), Value.int .i64 (0), Value.int .i64 (0)]) rfl rfl rfl (fun b12 => ?_) (.inr rfl)
    refine r_s (List.flatten [[(b12, 39, #[bv, Value.int .i64 (0), Value.int .i64 (0), Value.int .i64 (0)])], [(b5, 69, #[s6, Value.int .i64 (r3.2.1), Value.int .i64 (r3.2.2)])], S7]) 0 _ _ _ (#[Value.slice none 0 0, Value.int .i64 (0), Value.int .i64 (0), Value.int .i64 (0)]) (#[bv, Value.int .i64 (0), Value.int .i64 (0), Value.int .i64 (0)]) (#[bv, Value.int .i64 (0), Value.int .i64 (0), Value.int .i64 (0)]) rfl rfl rfl rfl (.ofS rfl rfl (all_cons' (Shp.one (Rd.shp hb)) (all_cons' rfl (all_cons' rfl (all_cons' rfl all_nil'))))) rfl rfl ?_
    refine lx_nil ?_
    refine hK11 _ _ ?_; try clear hK11 K11
    refine A_seq fun K13 hK13 => ?_
    refine A_seq fun K14 hK14 => ?_
    refine A_reg ?_
    refine r_v (Value.int .i64 (0)) rfl rfl rfl rfl ?_
    refine lx_nil ?_
    refine hK14 _ _ ?_; try clear hK14 K14
    refine A_block ?_
    refine A_forget _ (Sub.pick [[(b12, 39, #[bv, Value.int .i64 (0), Value.int .i64 (0), Value.int .i64 (0)])], [(b5, 69, #[s6, Value.int .i64 (r3.2.1), Value.int .i64 (r3.2.2)])], S7] [0, 1, 2] rfl) ?_
    refine A_loop (fun tt ll nn => ∃ (n15 : Nat) (i2_ : Int) (m3__0 : List UInt8) (m3__1 : Int) (m3__2 : Int) (m3__3 : Int) (s5_ : List UInt8) (m4__1 : Int) (m4__2 : Int), (shunterlaw07_WireReads_l6 N ops n15 i2_ m3__0 m3__1 m3__2 m3__3 s5_ m4__1 m4__2 = some r) ∧ ∃ (vm3__0 : Value), Rd encY ro vm3__0 m3__0 ∧ ∃ (Ss5_ : List Bl), Sl 5 encY s6 s5_ Ss5_ ∧ Is [(1, opsv), (5, Value.pointer (some ⟨b5, 0, none⟩)), (6, Value.pointer (some ⟨b12, 0, none⟩)), (7, Value.int .i64 (i2_))] (List.flatten [[(b12, 39, #[vm3__0, Value.int .i64 (m3__1), Value.int .i64 (m3__2), Value.int .i64 (m3__3)])], [(b5, 69, #[s6, Value.int .i64 (m4__1), Value.int .i64 (m4__2)])], Ss5_]) tt ll ∧ nn = n15 + 1) (N + 1) ?_ ?_
    · exact ⟨N, 0, b, 0, 0, 0, r3.1, r3.2.1, r3.2.2, hM, bv, hb, S7, H8, is_mk rfl rfl, rfl⟩
    · clear hM; rintro t l _ ⟨n15, i2_, m3__0, m3__1, m3__2, m3__3, s5_, m4__1, m4__2, hM, vm3__0, hm3__0, Ss5_, hs5_, ⟨⟨T, rfl⟩, rfl⟩, rfl⟩
      rcases n15 with _ | n15
      · exact absurd hM (by simp [shunterlaw07_WireReads_l6])
      rw [shunterlaw07_WireReads_l6] at hM
      refine A_seq fun K16 hK16 => ?_
      refine A_seq fun K17 hK17 => ?_
      refine A_reg ?_
      refine r_v (Value.int .i64 (i2_)) rfl rfl rfl rfl ?_
      refine r_v (opsv) rfl rfl rfl rfl ?_
      refine r_v (Value.int .i64 (((ops).length : Int))) rfl rfl rfl (ev_lenSl rfl rfl rfl (RdN.shp hops)) ?_
      refine r_v (Value.bool (decide ((i2_ : Int) < ((ops).length : Int)))) rfl rfl rfl rfl ?_
      refine lx_nil ?_
      refine hK17 _ _ ?_; try clear hK17 K17
      refine A_cond (decide ((i2_ : Int) < ((ops).length : Int))) rfl (fun hc18 => ?_) (fun hc18 => ?_)
      · replace hM := ifp (of_decide_eq_true hc18) hM
        refine A_skip ?_
        refine hK16 _ _ ?_; try clear hK16 K16
        refine A_seq fun K19 hK19 => ?_
        refine A_block ?_
        refine A_seq fun K20 hK20 => ?_
        refine A_reg ?_
        refine r_v (Value.bool (false)) rfl rfl rfl rfl ?_
        refine lx_nil ?_
        refine hK20 _ _ ?_; try clear hK20 K20
        refine A_seq fun K21 hK21 => ?_
        refine A_exF (Ls := [[(b12, 39, #[vm3__0, Value.int .i64 (m3__1), Value.int .i64 (m3__2), Value.int .i64 (m3__3)])], [(b5, 69, #[s6, Value.int .i64 (m4__1), Value.int .i64 (m4__2)])], Ss5_]) (p := ∀ u0_, shunterlaw07_reads_v1_m N s5_ m4__1 m4__2 m3__0 m3__1 m3__2 m3__3 ((ops)[(i2_).toNat]!.1) ((ops)[(i2_).toNat]!.2.1) ((ops)[(i2_).toNat]!.2.2.1) ((ops)[(i2_).toNat]!.2.2.2.1) ((ops)[(i2_).toNat]!.2.2.2.2.1) ((ops)[(i2_).toNat]!.2.2.2.2.2.1) ((ops)[(i2_).toNat]!.2.2.2.2.2.2.1) ((ops)[(i2_).toNat]!.2.2.2.2.2.2.2.1) ((ops)[(i2_).toNat]!.2.2.2.2.2.2.2.2) = some u0_ → (0 ≤ i2_ ∧ i2_ < ((ops).length : Int)) → ∃ s_, Rd encY ro s_ u0_.1) (fun w_ own_ nw_ hi_ hn_ hs_ hc_ hh_ u0_ e0_ g0_ => by obtain ⟨_, ⟨s23, s24, hs25, hs26, rfl⟩, hat27⟩ := RdN.at (E := encr_34) hops (get_of g0_); obtain ⟨_, _, ⟨_, h_, ⟨_, _, _, _, _⟩⟩⟩ := outWF (Ls := [[(b12, 39, #[vm3__0, Value.int .i64 (m3__1), Value.int .i64 (m3__2), Value.int .i64 (m3__3)])], [(b5, 69, #[s6, Value.int .i64 (m4__1), Value.int .i64 (m4__2)])], Ss5_]) (FL := [[(b5, 69, #[s6, Value.int .i64 (m4__1), Value.int .i64 (m4__2)])], Ss5_]) (PP := (oR encY ro u0_.1 fun s_0 => (oI 5 encY s6 u0_.2.2.2.2.2.1 (oE (Value.tuple #[Value.agg #[s_0, Value.int .i64 (u0_.2.1), Value.int .i64 (u0_.2.2.1), Value.int .i64 (u0_.2.2.2.1)], Value.bool (u0_.2.2.2.2.1)]) [[(b5, 69, #[s6, Value.int .i64 (u0_.2.2.2.2.2.2.1), Value.int .i64 (u0_.2.2.2.2.2.2.2)])]])))) [1, 2] w_ hi_ hn_ hc_ hh_ rfl rfl (DoesI.ro_mono (ro_sans (Ls := [[(b12, 39, #[vm3__0, Value.int .i64 (m3__1), Value.int .i64 (m3__2), Value.int .i64 (m3__3)])], [(b5, 69, #[s6, Value.int .i64 (m4__1), Value.int .i64 (m4__2)])], Ss5_]) (is := [1, 2]) rfl hs_) (shunterlaw07_reads_v1_g N s5_ m4__1 m4__2 m3__0 m3__1 m3__2 m3__3 ((ops)[(i2_).toNat]!.1) ((ops)[(i2_).toNat]!.2.1) ((ops)[(i2_).toNat]!.2.2.1) ((ops)[(i2_).toNat]!.2.2.2.1) ((ops)[(i2_).toNat]!.2.2.2.2.1) ((ops)[(i2_).toNat]!.2.2.2.2.2.1) ((ops)[(i2_).toNat]!.2.2.2.2.2.2.1) ((ops)[(i2_).toNat]!.2.2.2.2.2.2.2.1) ((ops)[(i2_).toNat]!.2.2.2.2.2.2.2.2) _ e0_ ro b5 s6 Ss5_ hs5_ vm3__0 hm3__0 s23 hs25 s24 hs26)); exact ⟨_, h_⟩) (fun hx31 => ?_)
        refine A_drawR [(some 41, true)] (conG Try.prog [(41, fun _ _ v_ L_ U_ => ∀ u0_, shunterlaw07_reads_v1_m N s5_ m4__1 m4__2 m3__0 m3__1 m3__2 m3__3 ((ops)[(i2_).toNat]!.1) ((ops)[(i2_).toNat]!.2.1) ((ops)[(i2_).toNat]!.2.2.1) ((ops)[(i2_).toNat]!.2.2.2.1) ((ops)[(i2_).toNat]!.2.2.2.2.1) ((ops)[(i2_).toNat]!.2.2.2.2.2.1) ((ops)[(i2_).toNat]!.2.2.2.2.2.2.1) ((ops)[(i2_).toNat]!.2.2.2.2.2.2.2.1) ((ops)[(i2_).toNat]!.2.2.2.2.2.2.2.2) = some u0_ → (pO (List.flatten [[(b5, 69, #[s6, Value.int .i64 (m4__1), Value.int .i64 (m4__2)])], Ss5_]) (oR encY ro u0_.1 fun s_0 => (oI 5 encY s6 u0_.2.2.2.2.2.1 (oE (Value.tuple #[Value.agg #[s_0, Value.int .i64 (u0_.2.1), Value.int .i64 (u0_.2.2.1), Value.int .i64 (u0_.2.2.2.1)], Value.bool (u0_.2.2.2.2.1)]) [[(b5, 69, #[s6, Value.int .i64 (u0_.2.2.2.2.2.2.1), Value.int .i64 (u0_.2.2.2.2.2.2.2)])]])))) v_ L_ U_)]) [] (by decide +kernel) (fun hn => sep_nil) ?_
        refine r_v (Value.pointer (some ⟨b5, 0, none⟩)) rfl rfl rfl rfl ?_
        refine r_l (Value.agg #[vm3__0, Value.int .i64 (m3__1), Value.int .i64 (m3__2), Value.int .i64 (m3__3)]) 0 _ _ _ _ rfl rfl rfl rfl rfl ?_
        refine r_v (opsv) rfl rfl rfl rfl ?_
        refine r_v (Value.int .i64 (i2_)) rfl rfl rfl rfl ?_
        replace hM := ck_some hM; obtain ⟨ck22, hM⟩ := hM
        obtain ⟨_, ⟨s23, s24, hs25, hs26, rfl⟩, hat27⟩ := RdN.at (E := encr_34) hops (get_of ck22)
        refine r_v (elA opsv ((i2_).toNat * 10)) rfl rfl rfl (ev_v (ev_idxSl rfl rfl rfl (RdN.shp hops) ck22)) ?_
        refine r_at (Value.agg #[Value.int .i64 ((ops)[(i2_).toNat]!.1), Value.int .i64 ((ops)[(i2_).toNat]!.2.1), Value.int .i64 ((ops)[(i2_).toNat]!.2.2.1), Value.int .i64 ((ops)[(i2_).toNat]!.2.2.2.1), Value.int .i64 ((ops)[(i2_).toNat]!.2.2.2.2.1), U (hi ((ops)[(i2_).toNat]!.2.2.2.2.2.1)), U (lo ((ops)[(i2_).toNat]!.2.2.2.2.2.1)), Value.string (⟨((ops)[(i2_).toNat]!.2.2.2.2.2.2.1).toArray⟩), s23, s24]) (vs := [Value.int .i64 ((ops)[(i2_).toNat]!.1), Value.int .i64 ((ops)[(i2_).toNat]!.2.1), Value.int .i64 ((ops)[(i2_).toNat]!.2.2.1), Value.int .i64 ((ops)[(i2_).toNat]!.2.2.2.1), Value.int .i64 ((ops)[(i2_).toNat]!.2.2.2.2.1), U (hi ((ops)[(i2_).toNat]!.2.2.2.2.2.1)), U (lo ((ops)[(i2_).toNat]!.2.2.2.2.2.1)), Value.string (⟨((ops)[(i2_).toNat]!.2.2.2.2.2.2.1).toArray⟩), s23, s24]) ((i2_).toNat * 10) 0 rfl rfl (fun own_ nw_ hs_ => At.mono hs_.ro_cell hat27) rfl ?_
        replace hM := bind_sm hM; obtain ⟨r28, hr29, hM⟩ := hM
        replace hM := ck_some hM; obtain ⟨ck30, hM⟩ := hM
        refine r_gm (Ls := [[(b12, 39, #[vm3__0, Value.int .i64 (m3__1), Value.int .i64 (m3__2), Value.int .i64 (m3__3)])], [(b5, 69, #[s6, Value.int .i64 (m4__1), Value.int .i64 (m4__2)])], Ss5_]) (FL := [[(b5, 69, #[s6, Value.int .i64 (m4__1), Value.int .i64 (m4__2)])], Ss5_]) (RL := [[(b12, 39, #[vm3__0, Value.int .i64 (m3__1), Value.int .i64 (m3__2), Value.int .i64 (m3__3)])]]) [1, 2] (oR encY ro r28.1 fun s_0 => (oI 5 encY s6 r28.2.2.2.2.2.1 (oE (Value.tuple #[Value.agg #[s_0, Value.int .i64 (r28.2.1), Value.int .i64 (r28.2.2.1), Value.int .i64 (r28.2.2.2.1)], Value.bool (r28.2.2.2.2.1)]) [[(b5, 69, #[s6, Value.int .i64 (r28.2.2.2.2.2.2.1), Value.int .i64 (r28.2.2.2.2.2.2.2)])]]))) (some 41) 10 _ rfl rfl rfl rfl rfl (ev_callF rfl call_10 rfl) (fun own_ nw_ hn_ hs_ => DoesI.ro_mono (ro_sans (Ls := [[(b12, 39, #[vm3__0, Value.int .i64 (m3__1), Value.int .i64 (m3__2), Value.int .i64 (m3__3)])], [(b5, 69, #[s6, Value.int .i64 (m4__1), Value.int .i64 (m4__2)])], Ss5_]) (is := [1, 2]) rfl hs_) (shunterlaw07_reads_v1_g N s5_ m4__1 m4__2 m3__0 m3__1 m3__2 m3__3 ((ops)[(i2_).toNat]!.1) ((ops)[(i2_).toNat]!.2.1) ((ops)[(i2_).toNat]!.2.2.1) ((ops)[(i2_).toNat]!.2.2.2.1) ((ops)[(i2_).toNat]!.2.2.2.2.1) ((ops)[(i2_).toNat]!.2.2.2.2.2.1) ((ops)[(i2_).toNat]!.2.2.2.2.2.2.1) ((ops)[(i2_).toNat]!.2.2.2.2.2.2.2.1) ((ops)[(i2_).toNat]!.2.2.2.2.2.2.2.2) _ hr29 ro b5 s6 Ss5_ hs5_ vm3__0 hm3__0 s23 hs25 s24 hs26)) (fun _ _ v_ L_ U_ => ⟨fun h_ => h_ _ hr29, fun h_ => by intro _ e_; cases Option.some.inj (e_.symm.trans hr29); exact h_⟩) (fun _ => (NiceO.sub (R := (Ss5_ ++ ([(b5, 69, #[s6, Value.int .i64 (m4__1), Value.int .i64 (m4__2)])] ++ []))) (niceR (hx31 _ hr29 ck22) fun s_0 => (niceI hs5_ ck30 (niceE rfl))) (Sub.pick [[(b5, 69, #[s6, Value.int .i64 (m4__1), Value.int .i64 (m4__2)])], Ss5_] [1, 0] rfl))) ?_
        rintro _ _ ⟨s34, hs35, ⟨S32, _, H33, ⟨rfl, rfl⟩, rfl⟩⟩
        refine lx_perm (Ls := [[(b12, 39, #[vm3__0, Value.int .i64 (m3__1), Value.int .i64 (m3__2), Value.int .i64 (m3__3)])], S32, [(b5, 69, #[s6, Value.int .i64 (r28.2.2.2.2.2.2.1), Value.int .i64 (r28.2.2.2.2.2.2.2)])]]) (Ls' := [[(b12, 39, #[vm3__0, Value.int .i64 (m3__1), Value.int .i64 (m3__2), Value.int .i64 (m3__3)])], [(b5, 69, #[s6, Value.int .i64 (r28.2.2.2.2.2.2.1), Value.int .i64 (r28.2.2.2.2.2.2.2)])], S32]) [0, 2, 1] rfl rfl ?_
        refine r_v (Value.tuple #[Value.agg #[s34, Value.int .i64 (r28.2.1), Value.int .i64 (r28.2.2.1), Value.int .i64 (r28.2.2.2.1)], Value.bool (r28.2.2.2.2.1)]) rfl rfl rfl rfl ?_
        refine r_v (Value.agg #[s34, Value.int .i64 (r28.2.1), Value.int .i64 (r28.2.2.1), Value.int .i64 (r28.2.2.2.1)]) rfl rfl rfl rfl ?_
        refine r_v (Value.bool (r28.2.2.2.2.1)) rfl rfl rfl rfl ?_
        refine r_s (List.flatten [[(b12, 39, #[s34, Value.int .i64 (r28.2.1), Value.int .i64 (r28.2.2.1), Value.int .i64 (r28.2.2.2.1)])], [(b5, 69, #[s6, Value.int .i64 (r28.2.2.2.2.2.2.1), Value.int .i64 (r28.2.2.2.2.2.2.2)])], S32]) 0 _ _ _ (#[vm3__0, Value.int .i64 (m3__1), Value.int .i64 (m3__2), Value.int .i64 (m3__3)]) (#[s34, Value.int .i64 (r28.2.1), Value.int .i64 (r28.2.2.1), Value.int .i64 (r28.2.2.2.1)]) (#[s34, Value.int .i64 (r28.2.1), Value.int .i64 (r28.2.2.1), Value.int .i64 (r28.2.2.2.1)]) rfl rfl rfl rfl (.ofS rfl rfl (all_cons' (Shp.one (Rd.shp hs35)) (all_cons' rfl (all_cons' rfl (all_cons' rfl all_nil'))))) rfl rfl ?_
        refine r_v (Value.bool (r28.2.2.2.2.1)) rfl rfl rfl rfl ?_
        refine lx_nil ?_
        refine hK21 _ _ ?_; try clear hK21 K21
        refine A_seq fun K36 hK36 => ?_
        refine A_drawR [(some 48, false), (some 55, false), (some 63, false)] (conG Try.prog [(48, fun _ _ v_ L_ U_ => ∀ u0_, wire_Reader_At_v1_m N r28.2.2.2.2.2.1 r28.2.2.2.2.2.2.1 r28.2.2.2.2.2.2.2 = some u0_ → (pV (Value.int .i64 (u0_))) v_ L_ U_), (55, fun _ _ v_ L_ U_ => ∀ u0_, wire_Reader_Left_v1_m N r28.2.2.2.2.2.1 r28.2.2.2.2.2.2.1 r28.2.2.2.2.2.2.2 = some u0_ → (pV (Value.int .i64 (u0_))) v_ L_ U_), (63, fun _ _ v_ L_ U_ => ∀ u0_, wire_Reader_Bad_v1_m N r28.2.2.2.2.2.1 r28.2.2.2.2.2.2.1 r28.2.2.2.2.2.2.2 = some u0_ → (pV (Value.bool (u0_))) v_ L_ U_)]) [] (by decide +kernel) (fun hn => sep_nil) ?_
        refine r_v (Value.bool (r28.2.2.2.2.1)) rfl rfl rfl rfl ?_
        refine r_v (Value.bool (!(r28.2.2.2.2.1))) rfl rfl rfl rfl ?_
        refine r_v (Value.bool (!(r28.2.2.2.2.1))) rfl rfl rfl rfl ?_
        rcases hg37 : (!(r28.2.2.2.2.1)) with _ | _
        · replace hM := ifp (not_f hg37) hM
          refine r_y rfl ?_
          refine r_v (Value.pointer (some ⟨b5, 0, none⟩)) rfl rfl rfl rfl ?_
          refine r_y rfl ?_
          replace hM := bind_sm hM; obtain ⟨r38, hr39, hM⟩ := hM
          refine r_gv (Value.int .i64 (r38)) 11 _ rfl rfl rfl (ev_callF rfl call_11 rfl) (fun own_ nw_ hs_ => wire_Reader_At_v1_g N r28.2.2.2.2.2.1 r28.2.2.2.2.2.2.1 r28.2.2.2.2.2.2.2 _ hr39 hs_.view b5 s6 ((rd_own H33 (mem_chunk (Ls := [[(b12, 39, #[s34, Value.int .i64 (r28.2.1), Value.int .i64 (r28.2.2.1), Value.int .i64 (r28.2.2.2.1)])], [(b5, 69, #[s6, Value.int .i64 (r28.2.2.2.2.2.2.1), Value.int .i64 (r28.2.2.2.2.2.2.2)])], S32]) (k := 2) rfl rfl)) own_ nw_ hs_) (blk_own 1 rfl rfl own_ nw_ hs_)) (fun _ _ v_ L_ U_ => ⟨fun h_ => h_ _ hr39, fun h_ => by intro _ e_; cases Option.some.inj (e_.symm.trans hr39); exact h_⟩) ?_
          refine r_y rfl ?_
          refine r_v (Value.pointer (some ⟨b12, 1, none⟩)) rfl rfl rfl rfl ?_
          refine r_y rfl ?_
          refine r_l (Value.int .i64 (r28.2.1)) 0 _ _ _ _ rfl rfl rfl rfl rfl ?_
          refine r_y rfl ?_
          refine r_v (Value.bool (((r38 : Int) != r28.2.1))) rfl rfl rfl rfl ?_
          refine r_v (Value.bool (((r38 : Int) != r28.2.1))) rfl rfl rfl rfl ?_
          refine r_v (Value.bool (((r38 : Int) != r28.2.1))) rfl rfl rfl rfl ?_
          rcases hg40 : (((r38 : Int) != r28.2.1)) with _ | _
          · replace hM := ifn (bne_f hg40) hM
            refine r_y rfl ?_
            refine r_v (Value.pointer (some ⟨b5, 0, none⟩)) rfl rfl rfl rfl ?_
            refine r_y rfl ?_
            replace hM := bind_sm hM; obtain ⟨r41, hr42, hM⟩ := hM
            refine r_gv (Value.int .i64 (r41)) 12 _ rfl rfl rfl (ev_callF rfl call_12 rfl) (fun own_ nw_ hs_ => wire_Reader_Left_v1_g N r28.2.2.2.2.2.1 r28.2.2.2.2.2.2.1 r28.2.2.2.2.2.2.2 _ hr42 hs_.view b5 s6 ((rd_own H33 (mem_chunk (Ls := [[(b12, 39, #[s34, Value.int .i64 (r28.2.1), Value.int .i64 (r28.2.2.1), Value.int .i64 (r28.2.2.2.1)])], [(b5, 69, #[s6, Value.int .i64 (r28.2.2.2.2.2.2.1), Value.int .i64 (r28.2.2.2.2.2.2.2)])], S32]) (k := 2) rfl rfl)) own_ nw_ hs_) (blk_own 1 rfl rfl own_ nw_ hs_)) (fun _ _ v_ L_ U_ => ⟨fun h_ => h_ _ hr42, fun h_ => by intro _ e_; cases Option.some.inj (e_.symm.trans hr42); exact h_⟩) ?_
            refine r_y rfl ?_
            refine r_v (Value.pointer (some ⟨b12, 0, none⟩)) rfl rfl rfl rfl ?_
            refine r_y rfl ?_
            refine r_l (s34) 0 _ _ _ _ rfl rfl rfl rfl rfl ?_
            refine r_y rfl ?_
            refine r_v (Value.int .i64 (((r28.1).length : Int))) rfl rfl rfl (ev_lenSl rfl rfl rfl (Rd.shp hs35)) ?_
            refine r_y rfl ?_
            refine r_v (Value.bool (((r41 : Int) != ((r28.1).length : Int)))) rfl rfl rfl rfl ?_
            refine r_v (Value.bool (((r41 : Int) != ((r28.1).length : Int)))) rfl rfl rfl rfl ?_
            refine r_v (Value.bool (((r41 : Int) != ((r28.1).length : Int)))) rfl rfl rfl rfl ?_
            rcases hg43 : (((r41 : Int) != ((r28.1).length : Int))) with _ | _
            · replace hM := ifn (bne_f hg43) hM
              refine r_y rfl ?_
              refine r_v (Value.pointer (some ⟨b5, 0, none⟩)) rfl rfl rfl rfl ?_
              refine r_y rfl ?_
              replace hM := bind_sm hM; obtain ⟨r44, hr45, hM⟩ := hM
              refine r_gv (Value.bool (r44)) 13 _ rfl rfl rfl (ev_callF rfl call_13 rfl) (fun own_ nw_ hs_ => wire_Reader_Bad_v1_g N r28.2.2.2.2.2.1 r28.2.2.2.2.2.2.1 r28.2.2.2.2.2.2.2 _ hr45 hs_.view b5 s6 ((rd_own H33 (mem_chunk (Ls := [[(b12, 39, #[s34, Value.int .i64 (r28.2.1), Value.int .i64 (r28.2.2.1), Value.int .i64 (r28.2.2.2.1)])], [(b5, 69, #[s6, Value.int .i64 (r28.2.2.2.2.2.2.1), Value.int .i64 (r28.2.2.2.2.2.2.2)])], S32]) (k := 2) rfl rfl)) own_ nw_ hs_) (blk_own 1 rfl rfl own_ nw_ hs_)) (fun _ _ v_ L_ U_ => ⟨fun h_ => h_ _ hr45, fun h_ => by intro _ e_; cases Option.some.inj (e_.symm.trans hr45); exact h_⟩) ?_
              refine r_y rfl ?_
              refine r_v (Value.pointer (some ⟨b12, 2, none⟩)) rfl rfl rfl rfl ?_
              refine r_y rfl ?_
              refine r_l (Value.int .i64 (r28.2.2.1)) 0 _ _ _ _ rfl rfl rfl rfl rfl ?_
              refine r_y rfl ?_
              refine r_v (Value.bool (((r28.2.2.1 : Int) != 0))) rfl rfl rfl rfl ?_
              refine r_y rfl ?_
              refine r_v (Value.bool ((r44) != (((r28.2.2.1 : Int) != 0)))) rfl rfl rfl (ev_binBn rfl rfl rfl) ?_
              refine r_v (Value.bool ((r44) != (((r28.2.2.1 : Int) != 0)))) rfl rfl rfl rfl ?_
              refine lx_nil ?_
              refine hK36 _ _ ?_; try clear hK36 K36
              refine A_gen [(1, opsv), (5, Value.pointer (some ⟨b5, 0, none⟩)), (6, Value.pointer (some ⟨b12, 0, none⟩)), (7, Value.int .i64 (i2_)), (68, Value.bool ((r44) != (((r28.2.2.1 : Int) != 0))))] rfl (fun T => ?_)
              refine A_cond ((r44) != (((r28.2.2.1 : Int) != 0))) rfl (fun hc46 => ?_) (fun hc46 => ?_)
              · replace hM := ifp (bne_iff_ne.1 hc46) hM
                refine A_seq fun K47 hK47 => ?_
                refine A_reg ?_
                refine r_v (Value.bool (false)) rfl rfl rfl rfl ?_
                refine lx_nil ?_
                refine hK47 _ _ ?_; try clear hK47 K47
                obtain rfl := Option.some.inj hM
                refine A_ret (fun hn => endsV (v0 := Value.bool (false)) rfl (res1 rfl))
              · replace hM := ifn (bne_f hc46) hM
                refine A_skip ?_
                refine hK19 _ _ ?_; try clear hK19 K19
                refine A_reg ?_
                refine r_v (Value.int .i64 (i2_)) rfl rfl rfl rfl ?_
                replace hM := ck_some hM; obtain ⟨ck48, hM⟩ := hM
                refine r_v (Value.int .i64 ((i2_ + 1))) rfl rfl (wi64 rfl ck48.1 ck48.2) rfl ?_
                refine r_v (Value.int .i64 ((i2_ + 1))) rfl rfl rfl rfl ?_
                refine lx_nil ?_
                refine fg _ (Sub.pick [[(b12, 39, #[s34, Value.int .i64 (r28.2.1), Value.int .i64 (r28.2.2.1), Value.int .i64 (r28.2.2.2.1)])], [(b5, 69, #[s6, Value.int .i64 (r28.2.2.2.2.2.2.1), Value.int .i64 (r28.2.2.2.2.2.2.2)])], S32] [0, 1, 2] rfl) ?_
                exact ⟨n15 + 1, by omega, n15, (i2_ + 1), r28.1, r28.2.1, r28.2.2.1, r28.2.2.2.1, r28.2.2.2.2.2.1, r28.2.2.2.2.2.2.1, r28.2.2.2.2.2.2.2, hM, s34, hs35, S32, H33, is_mk (by first | rfl | (simp only [hg37, hg40, hg43]; done) | (simp only [hg37, hg40, hg43]; rfl) | (simp only [app_hl]; rfl)) rfl, rfl⟩
            · replace hM := ifp (bne_iff_ne.1 hg43) hM
              refine r_n true rfl (by decide) rfl ?_
              refine r_n true rfl (by decide) rfl ?_
              refine r_n true rfl (by decide) rfl ?_
              refine r_n true rfl (by decide) rfl ?_
              refine r_n true rfl (by decide) rfl ?_
              refine r_n true rfl (by decide) rfl ?_
              refine r_v (Value.bool (true)) rfl rfl rfl rfl ?_
              refine lx_nil ?_
              refine hK36 _ _ ?_; try clear hK36 K36
              refine A_gen [(1, opsv), (5, Value.pointer (some ⟨b5, 0, none⟩)), (6, Value.pointer (some ⟨b12, 0, none⟩)), (7, Value.int .i64 (i2_)), (68, Value.bool (true))] rfl (fun T => ?_)
              refine A_cond true rfl (fun _ => ?_) (fun h_ => nomatch h_)
              refine A_seq fun K49 hK49 => ?_
              refine A_reg ?_
              refine r_v (Value.bool (false)) rfl rfl rfl rfl ?_
              refine lx_nil ?_
              refine hK49 _ _ ?_; try clear hK49 K49
              obtain rfl := Option.some.inj hM
              refine A_ret (fun hn => endsV (v0 := Value.bool (false)) rfl (res1 rfl))
          · replace hM := ifp (bne_iff_ne.1 hg40) hM
            refine r_n true rfl (by decide) rfl ?_
            refine r_n true rfl (by decide) rfl ?_
            refine r_n true rfl (by decide) rfl ?_
            refine r_n true rfl (by decide) rfl ?_
            refine r_n true rfl (by decide) rfl ?_
            refine r_n true rfl (by decide) rfl ?_
            refine r_v (Value.bool (true)) rfl rfl rfl rfl ?_
            refine r_v (Value.bool (true)) rfl rfl rfl rfl ?_
            refine r_n true rfl (by decide) rfl ?_
            refine r_n true rfl (by decide) rfl ?_
            refine r_n true rfl (by decide) rfl ?_
            refine r_n true rfl (by decide) rfl ?_
            refine r_n true rfl (by decide) rfl ?_
            refine r_n true rfl (by decide) rfl ?_
            refine r_v (Value.bool (true)) rfl rfl rfl rfl ?_
            refine lx_nil ?_
            refine hK36 _ _ ?_; try clear hK36 K36
            refine A_gen [(1, opsv), (5, Value.pointer (some ⟨b5, 0, none⟩)), (6, Value.pointer (some ⟨b12, 0, none⟩)), (7, Value.int .i64 (i2_)), (68, Value.bool (true))] rfl (fun T => ?_)
            refine A_cond true rfl (fun _ => ?_) (fun h_ => nomatch h_)
            refine A_seq fun K50 hK50 => ?_
            refine A_reg ?_
            refine r_v (Value.bool (false)) rfl rfl rfl rfl ?_
            refine lx_nil ?_
            refine hK50 _ _ ?_; try clear hK50 K50
            obtain rfl := Option.some.inj hM
            refine A_ret (fun hn => endsV (v0 := Value.bool (false)) rfl (res1 rfl))
        · replace hM := ifn (Bool.eq_false_iff.1 (not_t hg37)) hM
          refine r_n true rfl (by decide) rfl ?_
          refine r_n true rfl (by decide) rfl ?_
          refine r_n true rfl (by decide) rfl ?_
          refine r_n true rfl (by decide) rfl ?_
          refine r_n true rfl (by decide) rfl ?_
          refine r_v (Value.bool (true)) rfl rfl rfl rfl ?_
          refine r_v (Value.bool (true)) rfl rfl rfl rfl ?_
          refine r_n true rfl (by decide) rfl ?_
          refine r_n true rfl (by decide) rfl ?_
          refine r_n true rfl (by decide) rfl ?_
          refine r_n true rfl (by decide) rfl ?_
          refine r_n true rfl (by decide) rfl ?_
          refine r_n true rfl (by decide) rfl ?_
          refine r_v (Value.bool (true)) rfl rfl rfl rfl ?_
          refine r_v (Value.bool (true)) rfl rfl rfl rfl ?_
          refine r_n true rfl (by decide) rfl ?_
          refine r_n true rfl (by decide) rfl ?_
          refine r_n true rfl (by decide) rfl ?_
          refine r_n true rfl (by decide) rfl ?_
          refine r_n true rfl (by decide) rfl ?_
          refine r_n true rfl (by decide) rfl ?_
          refine r_v (Value.bool (true)) rfl rfl rfl rfl ?_
          refine lx_nil ?_
          refine hK36 _ _ ?_; try clear hK36 K36
          refine A_gen [(1, opsv), (5, Value.pointer (some ⟨b5, 0, none⟩)), (6, Value.pointer (some ⟨b12, 0, none⟩)), (7, Value.int .i64 (i2_)), (68, Value.bool (true))] rfl (fun T => ?_)
          refine A_cond true rfl (fun _ => ?_) (fun h_ => nomatch h_)
          refine A_seq fun K51 hK51 => ?_
          refine A_reg ?_
          refine r_v (Value.bool (false)) rfl rfl rfl rfl ?_
          refine lx_nil ?_
          refine hK51 _ _ ?_; try clear hK51 K51
          obtain rfl := Option.some.inj hM
          refine A_ret (fun hn => endsV (v0 := Value.bool (false)) rfl (res1 rfl))
      · replace hM := ifn (of_decide_eq_false hc18) hM
        refine A_exit ?_
        refine hK13 _ _ ?_; try clear hK13 K13
        refine A_seq fun K52 hK52 => ?_
        refine A_regC [(some 71, true), (some 72, false)] (conG Try.prog [(71, fun _ _ v_ L_ U_ => ∀ u0_, wire_Reader_End_v1_m N s5_ m4__1 m4__2 = some u0_ → (pO (List.flatten []) (Sum46.onP u0_ (oE (Value.nilIface) []) (fun y0_0 y0_1 => (oB 84 #[Value.int .i64 (y0_0), Value.int .i64 (y0_1)] fun bs_0 => (oE (Value.iface 80 (Value.pointer (some ⟨bs_0, 0, none⟩))) []))))) v_ L_ U_), (72, fun _ _ v_ L_ U_ => (∀ u0_, wire_Reader_End_v1_m N s5_ m4__1 m4__2 = some u0_ → u0_ = .nil → ∀ u2_, wire_Why_v1_m N  = some u2_ → (pV (Value.tuple #[Value.int .i64 (u2_.1), Value.int .i64 (u2_.2)])) v_ L_ U_) ∧ (∀ u0_, wire_Reader_End_v1_m N s5_ m4__1 m4__2 = some u0_ → ∀ u1_0 u1_1, u0_ = .t80 u1_0 u1_1 → ∀ u2_, wire_Why_v2_m N u1_0 u1_1 = some u2_ → (pV (Value.tuple #[Value.int .i64 (u2_.1), Value.int .i64 (u2_.2)])) v_ L_ U_))]) ?_
        refine r_v (Value.pointer (some ⟨b5, 0, none⟩)) rfl rfl rfl rfl ?_
        replace hM := bind_sm hM; obtain ⟨r53, hr54, hM⟩ := hM
        refine r_gm (Ls := [[(b12, 39, #[vm3__0, Value.int .i64 (m3__1), Value.int .i64 (m3__2), Value.int .i64 (m3__3)])], [(b5, 69, #[s6, Value.int .i64 (m4__1), Value.int .i64 (m4__2)])], Ss5_]) (FL := []) (RL := [[(b12, 39, #[vm3__0, Value.int .i64 (m3__1), Value.int .i64 (m3__2), Value.int .i64 (m3__3)])], [(b5, 69, #[s6, Value.int .i64 (m4__1), Value.int .i64 (m4__2)])], Ss5_]) [] (Sum46.onP r53 (oE (Value.nilIface) []) (fun y0_0 y0_1 => (oB 84 #[Value.int .i64 (y0_0), Value.int .i64 (y0_1)] fun bs_0 => (oE (Value.iface 80 (Value.pointer (some ⟨bs_0, 0, none⟩))) [])))) (some 71) 15 _ rfl rfl rfl rfl rfl (ev_callF rfl call_15 rfl) (fun own_ nw_ hn_ hs_ => wire_Reader_End_v1_g N s5_ m4__1 m4__2 _ hr54 _ b5 s6 (rd_sans (Ls := [[(b12, 39, #[vm3__0, Value.int .i64 (m3__1), Value.int .i64 (m3__2), Value.int .i64 (m3__3)])], [(b5, 69, #[s6, Value.int .i64 (m4__1), Value.int .i64 (m4__2)])], Ss5_]) (is := []) 2 hs5_ rfl rfl hn_ hs_) (blk_sans (Ls := [[(b12, 39, #[vm3__0, Value.int .i64 (m3__1), Value.int .i64 (m3__2), Value.int .i64 (m3__3)])], [(b5, 69, #[s6, Value.int .i64 (m4__1), Value.int .i64 (m4__2)])], Ss5_]) (is := []) 1 rfl rfl hn_ hs_)) (fun _ _ v_ L_ U_ => ⟨fun h_ => h_ _ hr54, fun h_ => by intro _ e_; cases Option.some.inj (e_.symm.trans hr54); exact h_⟩) (fun h_ => nomatch h_) ?_
        rintro _ _ hp_
        rcases Sum46.cases r53 with hx55 | ⟨x56_0, x57_1, hx55⟩
        · obtain ⟨rfl, rfl⟩ := Sum46.onP_nil hx55 hp_
          replace hM := Sum46.on_nil hx55 hM
          refine lx_perm (Ls := [[(b12, 39, #[vm3__0, Value.int .i64 (m3__1), Value.int .i64 (m3__2), Value.int .i64 (m3__3)])], [(b5, 69, #[s6, Value.int .i64 (m4__1), Value.int .i64 (m4__2)])], Ss5_]) (Ls' := [[(b12, 39, #[vm3__0, Value.int .i64 (m3__1), Value.int .i64 (m3__2), Value.int .i64 (m3__3)])], [(b5, 69, #[s6, Value.int .i64 (m4__1), Value.int .i64 (m4__2)])], Ss5_]) [0, 1, 2] rfl rfl ?_
          replace hM := bind_sm hM; obtain ⟨r58, hr59, hM⟩ := hM
          refine r_gv (Value.tuple #[Value.int .i64 (r58.1), Value.int .i64 (r58.2)]) 14 _ rfl rfl rfl (ev_callF rfl call_14 rfl) (fun own_ nw_ hs_ => Does.inv (Gives.doesV (wire_Why_v1_g N  _ hr59) _) _) (fun _ _ v_ L_ U_ => ⟨fun h_ => h_.1 _ hr54 hx55 _ hr59, fun h_ => ⟨by intro _ e_; cases Option.some.inj (e_.symm.trans hr54); intro e_; first | (cases (e_.symm.trans hx55); done) | (cases (e_.symm.trans hx55); intro _ e_; cases Option.some.inj (e_.symm.trans hr59); exact h_), by intro _ e_; cases Option.some.inj (e_.symm.trans hr54); intro _ _ e_; first | (cases (e_.symm.trans hx55); done) | (cases (e_.symm.trans hx55); intro _ e_; cases Option.some.inj (e_.symm.trans hr60); exact h_)⟩⟩) ?_
          refine r_v (Value.tuple #[Value.int .i64 (r58.1), Value.int .i64 (r58.2)]) rfl rfl rfl rfl ?_
          refine r_v (Value.int .i64 (r58.1)) rfl rfl rfl rfl ?_
          refine r_v (Value.int .i64 (r58.2)) rfl rfl rfl rfl ?_
          refine r_v (Value.int .i64 (r58.1)) rfl rfl rfl rfl ?_
          refine r_v (Value.int .i64 (r58.2)) rfl rfl rfl rfl ?_
          refine lx_nil ?_
          refine hK52 _ _ ?_; try clear hK52 K52
          refine A_seq fun K60 hK60 => ?_
          refine A_regC [(some 77, false)] (conG Try.prog [(77, fun _ _ v_ L_ U_ => ∀ u0_, shunterref07_End_v1_m N m3__0 m3__1 m3__2 m3__3 = some u0_ → (pV (Value.tuple #[Value.int .i64 (u0_.1), Value.int .i64 (u0_.2)])) v_ L_ U_)]) ?_
          refine r_l (Value.agg #[vm3__0, Value.int .i64 (m3__1), Value.int .i64 (m3__2), Value.int .i64 (m3__3)]) 0 _ _ _ _ rfl rfl rfl rfl rfl ?_
          replace hM := bind_sm hM; obtain ⟨r61, hr62, hM⟩ := hM
          refine r_gv (Value.tuple #[Value.int .i64 (r61.1), Value.int .i64 (r61.2)]) 16 _ rfl rfl rfl (ev_callF rfl call_16 rfl) (fun own_ nw_ hs_ => shunterref07_End_v1_g N m3__0 m3__1 m3__2 m3__3 _ hr62 hs_.view vm3__0 ((rd_ro hm3__0) own_ nw_ hs_)) (fun _ _ v_ L_ U_ => ⟨fun h_ => h_ _ hr62, fun h_ => by intro _ e_; cases Option.some.inj (e_.symm.trans hr62); exact h_⟩) ?_
          refine r_v (Value.tuple #[Value.int .i64 (r61.1), Value.int .i64 (r61.2)]) rfl rfl rfl rfl ?_
          refine r_v (Value.int .i64 (r61.1)) rfl rfl rfl rfl ?_
          refine r_v (Value.int .i64 (r61.2)) rfl rfl rfl rfl ?_
          refine r_v (Value.int .i64 (r61.1)) rfl rfl rfl rfl ?_
          refine r_v (Value.int .i64 (r61.2)) rfl rfl rfl rfl ?_
          refine lx_nil ?_
          refine hK60 _ _ ?_; try clear hK60 K60
          refine A_seq fun K63 hK63 => ?_
          refine A_reg ?_
          refine r_v (Value.int .i64 (r58.1)) rfl rfl rfl rfl ?_
          refine r_v (Value.int .i64 (r61.1)) rfl rfl rfl rfl ?_
          refine r_v (Value.bool (((r58.1 : Int) == r61.1))) rfl rfl rfl rfl ?_
          refine r_v (Value.bool (((r58.1 : Int) == r61.1))) rfl rfl rfl rfl ?_
          rcases hg64 : (((r58.1 : Int) == r61.1)) with _ | _
          · replace hM := ifn (ne_of_beq_false hg64) hM
            refine r_n false rfl (by decide) rfl ?_
            refine r_n false rfl (by decide) rfl ?_
            refine r_n false rfl (by decide) rfl ?_
            refine r_v (Value.bool (false)) rfl rfl rfl rfl ?_
            refine r_v (Value.bool (false)) rfl rfl rfl rfl ?_
            refine r_n false rfl (by decide) rfl ?_
            refine r_v (Value.bool (false)) rfl rfl rfl rfl ?_
            refine r_v (Value.bool (false)) rfl rfl rfl rfl ?_
            refine lx_nil ?_
            refine hK63 _ _ ?_; try clear hK63 K63
            refine A_gen [(4, Value.bool (false))] rfl (fun T => ?_)
            obtain rfl := Option.some.inj hM
            refine A_ret (fun hn => endsV (v0 := Value.bool (false)) rfl (res1 rfl))
          · replace hM := ifp (eq_of_beq hg64) hM
            refine r_y rfl ?_
            refine r_v (Value.int .i64 (r58.2)) rfl rfl rfl rfl ?_
            refine r_y rfl ?_
            refine r_v (Value.int .i64 (r61.2)) rfl rfl rfl rfl ?_
            refine r_y rfl ?_
            refine r_v (Value.bool (((r58.2 : Int) == r61.2))) rfl rfl rfl rfl ?_
            refine r_v (Value.bool (((r58.2 : Int) == r61.2))) rfl rfl rfl rfl ?_
            refine r_v (Value.bool (((r58.2 : Int) == r61.2))) rfl rfl rfl rfl ?_
            rcases hg65 : (((r58.2 : Int) == r61.2)) with _ | _
            · replace hM := ifn (ne_of_beq_false hg65) hM
              refine r_n false rfl (by decide) rfl ?_
              refine r_v (Value.bool (false)) rfl rfl rfl rfl ?_
              refine r_v (Value.bool (false)) rfl rfl rfl rfl ?_
              refine lx_nil ?_
              refine hK63 _ _ ?_; try clear hK63 K63
              refine A_gen [(4, Value.bool (false))] rfl (fun T => ?_)
              obtain rfl := Option.some.inj hM
              refine A_ret (fun hn => endsV (v0 := Value.bool (false)) rfl (res1 rfl))
            · replace hM := ifp (eq_of_beq hg65) hM
              refine r_y rfl ?_
              replace hM := bind_sm hM; obtain ⟨r66, hr67, hM⟩ := hM
              refine r_c (Value.bool (r66)) rfl _ _ (ev_callF rfl call_7 rfl) (shunterlaw07_lives_g N  _ hr67) ?_
              refine r_v (Value.bool (r66)) rfl rfl rfl rfl ?_
              refine r_v (Value.bool (r66)) rfl rfl rfl rfl ?_
              refine lx_nil ?_
              refine hK63 _ _ ?_; try clear hK63 K63
              refine A_gen [(4, Value.bool (r66))] rfl (fun T => ?_)
              obtain rfl := Option.some.inj hM
              refine A_ret (fun hn => endsV (v0 := Value.bool (r66)) rfl (res1 rfl))
        · obtain ⟨b58, _, ⟨rfl, rfl⟩, rfl⟩ := Sum46.onP_t80 hx55 hp_
          replace hM := Sum46.on_t80 hx55 hM
          refine lx_perm (Ls := [[(b12, 39, #[vm3__0, Value.int .i64 (m3__1), Value.int .i64 (m3__2), Value.int .i64 (m3__3)])], [(b5, 69, #[s6, Value.int .i64 (m4__1), Value.int .i64 (m4__2)])], Ss5_, [(b58, 84, #[Value.int .i64 (x56_0), Value.int .i64 (x57_1)])]]) (Ls' := [[(b12, 39, #[vm3__0, Value.int .i64 (m3__1), Value.int .i64 (m3__2), Value.int .i64 (m3__3)])], [(b5, 69, #[s6, Value.int .i64 (m4__1), Value.int .i64 (m4__2)])], [(b58, 84, #[Value.int .i64 (x56_0), Value.int .i64 (x57_1)])], Ss5_]) [0, 1, 3, 2] rfl rfl ?_
          replace hM := bind_sm hM; obtain ⟨r59, hr60, hM⟩ := hM
          refine r_gv (Value.tuple #[Value.int .i64 (r59.1), Value.int .i64 (r59.2)]) 14 _ rfl rfl rfl (ev_callF rfl call_14 rfl) (fun own_ nw_ hs_ => wire_Why_v2_g N x56_0 x57_1 _ hr60 hs_.view b58 (blk_own 2 rfl rfl own_ nw_ hs_)) (fun _ _ v_ L_ U_ => ⟨fun h_ => h_.2 _ hr54 _ _ hx55 _ hr60, fun h_ => ⟨by intro _ e_; cases Option.some.inj (e_.symm.trans hr54); intro e_; first | (cases (e_.symm.trans hx55); done) | (cases (e_.symm.trans hx55); intro _ e_; cases Option.some.inj (e_.symm.trans hr59); exact h_), by intro _ e_; cases Option.some.inj (e_.symm.trans hr54); intro _ _ e_; first | (cases (e_.symm.trans hx55); done) | (cases (e_.symm.trans hx55); intro _ e_; cases Option.some.inj (e_.symm.trans hr60); exact h_)⟩⟩) ?_
          refine r_v (Value.tuple #[Value.int .i64 (r59.1), Value.int .i64 (r59.2)]) rfl rfl rfl rfl ?_
          refine r_v (Value.int .i64 (r59.1)) rfl rfl rfl rfl ?_
          refine r_v (Value.int .i64 (r59.2)) rfl rfl rfl rfl ?_
          refine r_v (Value.int .i64 (r59.1)) rfl rfl rfl rfl ?_
          refine r_v (Value.int .i64 (r59.2)) rfl rfl rfl rfl ?_
          refine lx_nil ?_
          refine hK52 _ _ ?_; try clear hK52 K52
          refine A_seq fun K61 hK61 => ?_
          refine A_regC [(some 77, false)] (conG Try.prog [(77, fun _ _ v_ L_ U_ => ∀ u0_, shunterref07_End_v1_m N m3__0 m3__1 m3__2 m3__3 = some u0_ → (pV (Value.tuple #[Value.int .i64 (u0_.1), Value.int .i64 (u0_.2)])) v_ L_ U_)]) ?_
          refine r_l (Value.agg #[vm3__0, Value.int .i64 (m3__1), Value.int .i64 (m3__2), Value.int .i64 (m3__3)]) 0 _ _ _ _ rfl rfl rfl rfl rfl ?_
          replace hM := bind_sm hM; obtain ⟨r62, hr63, hM⟩ := hM
          refine r_gv (Value.tuple #[Value.int .i64 (r62.1), Value.int .i64 (r62.2)]) 16 _ rfl rfl rfl (ev_callF rfl call_16 rfl) (fun own_ nw_ hs_ => shunterref07_End_v1_g N m3__0 m3__1 m3__2 m3__3 _ hr63 hs_.view vm3__0 ((rd_ro hm3__0) own_ nw_ hs_)) (fun _ _ v_ L_ U_ => ⟨fun h_ => h_ _ hr63, fun h_ => by intro _ e_; cases Option.some.inj (e_.symm.trans hr63); exact h_⟩) ?_
          refine r_v (Value.tuple #[Value.int .i64 (r62.1), Value.int .i64 (r62.2)]) rfl rfl rfl rfl ?_
          refine r_v (Value.int .i64 (r62.1)) rfl rfl rfl rfl ?_
          refine r_v (Value.int .i64 (r62.2)) rfl rfl rfl rfl ?_
          refine r_v (Value.int .i64 (r62.1)) rfl rfl rfl rfl ?_
          refine r_v (Value.int .i64 (r62.2)) rfl rfl rfl rfl ?_
          refine lx_nil ?_
          refine hK61 _ _ ?_; try clear hK61 K61
          refine A_seq fun K64 hK64 => ?_
          refine A_reg ?_
          refine r_v (Value.int .i64 (r59.1)) rfl rfl rfl rfl ?_
          refine r_v (Value.int .i64 (r62.1)) rfl rfl rfl rfl ?_
          refine r_v (Value.bool (((r59.1 : Int) == r62.1))) rfl rfl rfl rfl ?_
          refine r_v (Value.bool (((r59.1 : Int) == r62.1))) rfl rfl rfl rfl ?_
          rcases hg65 : (((r59.1 : Int) == r62.1)) with _ | _
          · replace hM := ifn (ne_of_beq_false hg65) hM
            refine r_n false rfl (by decide) rfl ?_
            refine r_n false rfl (by decide) rfl ?_
            refine r_n false rfl (by decide) rfl ?_
            refine r_v (Value.bool (false)) rfl rfl rfl rfl ?_
            refine r_v (Value.bool (false)) rfl rfl rfl rfl ?_
            refine r_n false rfl (by decide) rfl ?_
            refine r_v (Value.bool (false)) rfl rfl rfl rfl ?_
            refine r_v (Value.bool (false)) rfl rfl rfl rfl ?_
            refine lx_nil ?_
            refine hK64 _ _ ?_; try clear hK64 K64
            refine A_gen [(4, Value.bool (false))] rfl (fun T => ?_)
            obtain rfl := Option.some.inj hM
            refine A_ret (fun hn => endsV (v0 := Value.bool (false)) rfl (res1 rfl))
          · replace hM := ifp (eq_of_beq hg65) hM
            refine r_y rfl ?_
            refine r_v (Value.int .i64 (r59.2)) rfl rfl rfl rfl ?_
            refine r_y rfl ?_
            refine r_v (Value.int .i64 (r62.2)) rfl rfl rfl rfl ?_
            refine r_y rfl ?_
            refine r_v (Value.bool (((r59.2 : Int) == r62.2))) rfl rfl rfl rfl ?_
            refine r_v (Value.bool (((r59.2 : Int) == r62.2))) rfl rfl rfl rfl ?_
            refine r_v (Value.bool (((r59.2 : Int) == r62.2))) rfl rfl rfl rfl ?_
            rcases hg66 : (((r59.2 : Int) == r62.2)) with _ | _
            · replace hM := ifn (ne_of_beq_false hg66) hM
              refine r_n false rfl (by decide) rfl ?_
              refine r_v (Value.bool (false)) rfl rfl rfl rfl ?_
              refine r_v (Value.bool (false)) rfl rfl rfl rfl ?_
              refine lx_nil ?_
              refine hK64 _ _ ?_; try clear hK64 K64
              refine A_gen [(4, Value.bool (false))] rfl (fun T => ?_)
              obtain rfl := Option.some.inj hM
              refine A_ret (fun hn => endsV (v0 := Value.bool (false)) rfl (res1 rfl))
            · replace hM := ifp (eq_of_beq hg66) hM
              refine r_y rfl ?_
              replace hM := bind_sm hM; obtain ⟨r67, hr68, hM⟩ := hM
              refine r_c (Value.bool (r67)) rfl _ _ (ev_callF rfl call_7 rfl) (shunterlaw07_lives_g N  _ hr68) ?_
              refine r_v (Value.bool (r67)) rfl rfl rfl rfl ?_
              refine r_v (Value.bool (r67)) rfl rfl rfl rfl ?_
              refine lx_nil ?_
              refine hK64 _ _ ?_; try clear hK64 K64
              refine A_gen [(4, Value.bool (r67))] rfl (fun T => ?_)
              obtain rfl := Option.some.inj hM
              refine A_ret (fun hn => endsV (v0 := Value.bool (r67)) rfl (res1 rfl))
end Go.Proofs.Ytdgejbbelmhbdaa
