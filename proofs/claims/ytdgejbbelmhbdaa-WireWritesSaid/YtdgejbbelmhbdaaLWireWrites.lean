/- models of functions and their walks -/
import Derived.Test.YtdgejbbelmhbdaaBf
namespace Go.Proofs.Ytdgejbbelmhbdaa
open Go Go.RowKit Go.Eng
def shunterlaw07_WireWrites_l3 (N : Nat) (ops : List (Int × Int × Int × Int × Int × (BitVec 128) × (List UInt8) × (List (Int × BitVec 128)) × (List Int))) : Nat → List UInt8 → Int → Option (Bool)
  | 0, _, _ => none
  | n13 + 1, b1_, i2_ => if (i2_ : Int) < ((ops).length : Int) then ck (0 ≤ i2_ ∧ i2_ < ((ops).length : Int)) ((shunterlaw07_write_v1_m N b1_ ((ops)[(i2_).toNat]!.1) ((ops)[(i2_).toNat]!.2.1) ((ops)[(i2_).toNat]!.2.2.1) ((ops)[(i2_).toNat]!.2.2.2.1) ((ops)[(i2_).toNat]!.2.2.2.2.1) ((ops)[(i2_).toNat]!.2.2.2.2.2.1) ((ops)[(i2_).toNat]!.2.2.2.2.2.2.1) ((ops)[(i2_).toNat]!.2.2.2.2.2.2.2.1) ((ops)[(i2_).toNat]!.2.2.2.2.2.2.2.2)).bind fun r25 => SumRow5.on r25.1 (ck (((b1_).length : Int) + ((r25.2).length : Int) ≤ 9223372036854775807) (if (b1_) ≠ ((b1_) ++ (r25.2)) then some (false) else ck ((-9223372036854775808 ≤ (i2_ + 1) ∧ (i2_ + 1) ≤ 9223372036854775807)) ((shunterlaw07_WireWrites_l3 N ops n13) (b1_) ((i2_ + 1))))) (fun x31_0 => ck (((b1_).length : Int) + ((r25.2).length : Int) ≤ 9223372036854775807) (if (x31_0) ≠ ((b1_) ++ (r25.2)) then some (false) else ck ((-9223372036854775808 ≤ (i2_ + 1) ∧ (i2_ + 1) ≤ 9223372036854775807)) ((shunterlaw07_WireWrites_l3 N ops n13) (x31_0) ((i2_ + 1)))))) else (shunterlaw07_lives_m N ).bind fun r42 => some (r42)
def shunterlaw07_WireWrites_m (N : Nat) (ops : List (Int × Int × Int × Int × Int × (BitVec 128) × (List UInt8) × (List (Int × BitVec 128)) × (List Int))) : Option (Bool) := (shunterlaw07_light_m N ops).bind fun r4 => if (r4) = true then shunterlaw07_WireWrites_l3 N ops N ([]) (0) else (shunterlaw07_lives_m N ).bind fun r8 => some (r8)
set_option maxRecDepth 100000 in
set_option maxHeartbeats 8000000 in
theorem shunterlaw07_WireWrites_g (N : Nat) (ops : List (Int × Int × Int × Int × Int × (BitVec 128) × (List UInt8) × (List (Int × BitVec 128)) × (List Int))) (r : Bool) (hM : shunterlaw07_WireWrites_m N ops = some r) (ro : Addr → Option Value) (opsv : Value) (hops : RdN encr_34 ro opsv ops) : Does Try.prog 3 #[opsv] ro [] (pV (Value.bool (r))) := by
  unfold shunterlaw07_WireWrites_m at hM
  refine does_of_A follows Try.func3 rfl 36 rfl (upd (fun _ => undef) 0 (opsv)) (by funext k; match k with | 0 => rfl | k + 1 => rfl) (fun base0_ => ?_)
  refine A_seq fun K1 hK1 => ?_
  refine A_reg ?_
  refine r_v (Value.bool (false)) rfl rfl rfl rfl ?_
  refine lx_nil ?_
  refine hK1 _ _ ?_; try clear hK1 K1
  refine A_seq fun K2 hK2 => ?_
  refine A_seq fun K3 hK3 => ?_
  refine A_regC [(some 8, false)] (conG Try.prog [(8, fun _ _ v_ L_ U_ => ∀ u0_, shunterlaw07_light_m N ops = some u0_ → (pV (Value.bool (u0_))) v_ L_ U_)]) ?_
  refine r_v (opsv) rfl rfl rfl rfl ?_
  replace hM := bind_sm hM; obtain ⟨r4, hr5, hM⟩ := hM
  refine r_gv (Value.bool (r4)) 6 _ rfl rfl rfl (ev_callF rfl call_6 rfl) (fun own_ nw_ hs_ => shunterlaw07_light_g N ops _ hr5 hs_.view opsv ((fun own_ nw_ hs_ => RdN.mono hs_.ro_cell hops) own_ nw_ hs_)) (fun _ _ v_ L_ U_ => ⟨fun h_ => h_ _ hr5, fun h_ => by intro _ e_; cases Option.some.inj (e_.symm.trans hr5); exact h_⟩) ?_
  refine r_v (Value.bool (!(r4))) rfl rfl rfl rfl ?_
  refine lx_nil ?_
  refine hK3 _ _ ?_; try clear hK3 K3
  refine A_cond (!(r4)) rfl (fun hc6 => ?_) (fun hc6 => ?_)
  · replace hM := ifn (Bool.eq_false_iff.1 (not_t hc6)) hM
    refine A_seq fun K7 hK7 => ?_
    refine A_reg ?_
    replace hM := bind_sm hM; obtain ⟨r8, hr9, hM⟩ := hM
    refine r_c (Value.bool (r8)) rfl _ _ (ev_callF rfl call_7 rfl) (shunterlaw07_lives_g N  _ hr9) ?_
    refine r_v (Value.bool (r8)) rfl rfl rfl rfl ?_
    refine lx_nil ?_
    refine hK7 _ _ ?_; try clear hK7 K7
    obtain rfl := Option.some.inj hM
    refine A_ret (fun hn => endsV (v0 := Value.bool (r8)) rfl (res1 rfl))
  · replace hM := ifp (not_f hc6) hM
    refine A_skip ?_
    refine hK2 _ _ ?_; try clear hK2 K2
    refine A_seq fun K10 hK10 => ?_
    refine A_reg ?_
    refine r_v (Value.slice none 0 0) rfl rfl rfl rfl ?_
    refine lx_nil ?_
    refine hK10 _ _ ?_; try clear hK10 K10
    refine A_seq fun K11 hK11 => ?_
    refine A_seq fun K12 hK12 => ?_
    refine A_reg ?_
    refine r_v (Value.int .i64 (0)) rfl rfl rfl rfl ?_
    refine lx_nil ?_
    refine hK12 _ _ ?_; try clear hK12 K12
    refine A_block ?_
    refine A_forget _ (Sub.pickE (Ls := [[]]) (Ls0 := []) rfl [0] rfl) ?_
    refine A_loop (fun tt ll nn => ∃ (n13 : Nat) (b1_ : List UInt8) (i2_ : Int), (shunterlaw07_WireWrites_l3 N ops n13 b1_ i2_ = some r) ∧ ∃ (vb1_ : Value) (Sb1_ : List Bl), Sl 5 encY vb1_ b1_ Sb1_ ∧ Is [(0, opsv), (3, vb1_), (4, Value.int .i64 (i2_))] (List.flatten [Sb1_]) tt ll ∧ nn = n13 + 1) (N + 1) ?_ ?_
    · exact ⟨N, [], 0, hM, Value.slice none 0 0, [], Sl.nil, is_mk rfl rfl, rfl⟩
    · clear hM; rintro t l _ ⟨n13, b1_, i2_, hM, vb1_, Sb1_, hb1_, ⟨⟨T, rfl⟩, rfl⟩, rfl⟩
      rcases n13 with _ | n13
      · exact absurd hM (by simp [shunterlaw07_WireWrites_l3])
      rw [shunterlaw07_WireWrites_l3] at hM
      refine A_seq fun K14 hK14 => ?_
      refine A_seq fun K15 hK15 => ?_
      refine A_reg ?_
      refine r_v (Value.int .i64 (i2_)) rfl rfl rfl rfl ?_
      refine r_v (opsv) rfl rfl rfl rfl ?_
      refine r_v (Value.int .i64 (((ops).length : Int))) rfl rfl rfl (ev_lenSl rfl rfl rfl (RdN.shp hops)) ?_
      refine r_v (Value.bool (decide ((i2_ : Int) < ((ops).length : Int)))) rfl rfl rfl rfl ?_
      refine lx_nil ?_
      refine hK15 _ _ ?_; try clear hK15 K15
      refine A_cond (decide ((i2_ : Int) < ((ops).length : Int))) rfl (fun hc16 => ?_) (fun hc16 => ?_)
      · replace hM := ifp (of_decide_eq_true hc16) hM
        refine A_skip ?_
        refine hK14 _ _ ?_; try clear hK14 K14
        refine A_seq fun K17 hK17 => ?_
        refine A_block ?_
        refine A_seq fun K18 hK18 => ?_
        refine A_regC [(some 23, true)] (conG Try.prog [(23, fun _ _ v_ L_ U_ => ∀ u0_, shunterlaw07_write_v1_m N b1_ ((ops)[(i2_).toNat]!.1) ((ops)[(i2_).toNat]!.2.1) ((ops)[(i2_).toNat]!.2.2.1) ((ops)[(i2_).toNat]!.2.2.2.1) ((ops)[(i2_).toNat]!.2.2.2.2.1) ((ops)[(i2_).toNat]!.2.2.2.2.2.1) ((ops)[(i2_).toNat]!.2.2.2.2.2.2.1) ((ops)[(i2_).toNat]!.2.2.2.2.2.2.2.1) ((ops)[(i2_).toNat]!.2.2.2.2.2.2.2.2) = some u0_ → (pO (List.flatten []) (oS 5 encY u0_.2 fun s_0 => (SumRow5.onP u0_.1 (oE (Value.tuple #[vb1_, s_0]) []) (fun y0_0 => (oS 5 encY y0_0 fun ss_0_0 => (oE (Value.tuple #[ss_0_0, s_0]) [])))))) v_ L_ U_)]) ?_
        refine r_v (vb1_) rfl rfl rfl rfl ?_
        refine r_v (opsv) rfl rfl rfl rfl ?_
        refine r_v (Value.int .i64 (i2_)) rfl rfl rfl rfl ?_
        replace hM := ck_some hM; obtain ⟨ck19, hM⟩ := hM
        obtain ⟨_, ⟨s20, s21, hs22, hs23, rfl⟩, hat24⟩ := RdN.at (E := encr_34) hops (get_of ck19)
        refine r_v (elA opsv ((i2_).toNat * 10)) rfl rfl rfl (ev_v (ev_idxSl rfl rfl rfl (RdN.shp hops) ck19)) ?_
        refine r_at (Value.agg #[Value.int .i64 ((ops)[(i2_).toNat]!.1), Value.int .i64 ((ops)[(i2_).toNat]!.2.1), Value.int .i64 ((ops)[(i2_).toNat]!.2.2.1), Value.int .i64 ((ops)[(i2_).toNat]!.2.2.2.1), Value.int .i64 ((ops)[(i2_).toNat]!.2.2.2.2.1), U (hi ((ops)[(i2_).toNat]!.2.2.2.2.2.1)), U (lo ((ops)[(i2_).toNat]!.2.2.2.2.2.1)), Value.string (⟨((ops)[(i2_).toNat]!.2.2.2.2.2.2.1).toArray⟩), s20, s21]) (vs := [Value.int .i64 ((ops)[(i2_).toNat]!.1), Value.int .i64 ((ops)[(i2_).toNat]!.2.1), Value.int .i64 ((ops)[(i2_).toNat]!.2.2.1), Value.int .i64 ((ops)[(i2_).toNat]!.2.2.2.1), Value.int .i64 ((ops)[(i2_).toNat]!.2.2.2.2.1), U (hi ((ops)[(i2_).toNat]!.2.2.2.2.2.1)), U (lo ((ops)[(i2_).toNat]!.2.2.2.2.2.1)), Value.string (⟨((ops)[(i2_).toNat]!.2.2.2.2.2.2.1).toArray⟩), s20, s21]) ((i2_).toNat * 10) 0 rfl rfl (fun own_ nw_ hs_ => At.mono hs_.ro_cell hat24) rfl ?_
        replace hM := bind_sm hM; obtain ⟨r25, hr26, hM⟩ := hM
        refine r_gm (Ls := [Sb1_]) (FL := []) (RL := [Sb1_]) [] (oS 5 encY r25.2 fun s_0 => (SumRow5.onP r25.1 (oE (Value.tuple #[vb1_, s_0]) []) (fun y0_0 => (oS 5 encY y0_0 fun ss_0_0 => (oE (Value.tuple #[ss_0_0, s_0]) []))))) (some 23) 8 _ rfl rfl rfl rfl rfl (ev_callF rfl call_8 rfl) (fun own_ nw_ hn_ hs_ => shunterlaw07_write_v1_g N b1_ ((ops)[(i2_).toNat]!.1) ((ops)[(i2_).toNat]!.2.1) ((ops)[(i2_).toNat]!.2.2.1) ((ops)[(i2_).toNat]!.2.2.2.1) ((ops)[(i2_).toNat]!.2.2.2.2.1) ((ops)[(i2_).toNat]!.2.2.2.2.2.1) ((ops)[(i2_).toNat]!.2.2.2.2.2.2.1) ((ops)[(i2_).toNat]!.2.2.2.2.2.2.2.1) ((ops)[(i2_).toNat]!.2.2.2.2.2.2.2.2) _ hr26 _ vb1_ (rd_sans (Ls := [Sb1_]) (is := []) 0 hb1_ rfl rfl hn_ hs_) s20 (Rd.mono (ro_sans (Ls := [Sb1_]) (is := []) rfl hs_) hs22) s21 (Rd.mono (ro_sans (Ls := [Sb1_]) (is := []) rfl hs_) hs23)) (fun _ _ v_ L_ U_ => ⟨fun h_ => h_ _ hr26, fun h_ => by intro _ e_; cases Option.some.inj (e_.symm.trans hr26); exact h_⟩) (fun h_ => nomatch h_) ?_
        rintro _ _ ⟨s27, S28, _, H29, hp_, rfl⟩
        rcases SumRow5.cases r25.1 with hx30 | ⟨x31_0, hx30⟩
        · obtain ⟨rfl, rfl⟩ := SumRow5.onP_nil hx30 hp_
          replace hM := SumRow5.on_nil hx30 hM
          refine lx_perm (Ls := [Sb1_, S28]) (Ls' := [Sb1_, S28]) [0, 1] rfl rfl ?_
          refine r_v (Value.tuple #[vb1_, s27]) rfl rfl rfl rfl ?_
          refine r_v (vb1_) rfl rfl rfl rfl ?_
          refine r_v (s27) rfl rfl rfl rfl ?_
          refine r_v (vb1_) rfl rfl rfl rfl ?_
          refine r_v (s27) rfl rfl rfl rfl ?_
          refine lx_nil ?_
          refine hK18 _ _ ?_; try clear hK18 K18
          refine A_seq fun K32 hK32 => ?_
          refine A_seq fun K33 hK33 => ?_
          refine A_reg ?_
          refine r_v (vb1_) rfl rfl rfl rfl ?_
          refine r_stl (e := 5) (b1_) rfl rfl rfl rfl rfl (rd_own hb1_ (mem_chunk (Ls := [Sb1_, S28]) (k := 0) rfl rfl)) ?_
          refine r_v (vb1_) rfl rfl rfl rfl ?_
          refine r_stl (e := 5) (b1_) rfl rfl rfl rfl rfl (rd_own hb1_ (mem_chunk (Ls := [Sb1_, S28]) (k := 0) rfl rfl)) ?_
          refine r_v (s27) rfl rfl rfl rfl ?_
          refine r_stl (e := 5) (r25.2) rfl rfl rfl rfl rfl (rd_own H29 (mem_chunk (Ls := [Sb1_, S28]) (k := 1) rfl rfl)) ?_
          replace hM := ck_some hM; obtain ⟨ck34, hM⟩ := hM
          refine r_v (Value.string (⟨((b1_) ++ (r25.2)).toArray⟩)) rfl rfl rfl (ev_addS ck34 rfl rfl) ?_
          refine r_v (Value.bool ((b1_) != ((b1_) ++ (r25.2)))) rfl rfl rfl (ev_neS rfl rfl) ?_
          refine lx_nil ?_
          refine hK33 _ _ ?_; try clear hK33 K33
          refine A_cond ((b1_) != ((b1_) ++ (r25.2))) rfl (fun hc35 => ?_) (fun hc35 => ?_)
          · replace hM := ifp (bne_iff_ne.1 hc35) hM
            refine A_seq fun K36 hK36 => ?_
            refine A_reg ?_
            refine r_v (Value.bool (false)) rfl rfl rfl rfl ?_
            refine lx_nil ?_
            refine hK36 _ _ ?_; try clear hK36 K36
            refine A_gen [(2, Value.bool (false))] rfl (fun T => ?_)
            obtain rfl := Option.some.inj hM
            refine A_ret (fun hn => endsV (v0 := Value.bool (false)) rfl (res1 rfl))
          · replace hM := ifn (bne_f hc35) hM
            refine A_skip ?_
            refine hK32 _ _ ?_; try clear hK32 K32
            refine A_reg ?_
            refine r_v (vb1_) rfl rfl rfl rfl ?_
            refine r_v (vb1_) rfl rfl rfl rfl ?_
            refine lx_nil ?_
            refine hK17 _ _ ?_; try clear hK17 K17
            refine A_reg ?_
            refine r_v (Value.int .i64 (i2_)) rfl rfl rfl rfl ?_
            replace hM := ck_some hM; obtain ⟨ck37, hM⟩ := hM
            refine r_v (Value.int .i64 ((i2_ + 1))) rfl rfl (wi64 rfl ck37.1 ck37.2) rfl ?_
            refine r_v (Value.int .i64 ((i2_ + 1))) rfl rfl rfl rfl ?_
            refine lx_nil ?_
            refine fg _ (Sub.pick [Sb1_, S28] [0] rfl) ?_
            exact ⟨n13 + 1, by omega, n13, b1_, (i2_ + 1), hM, vb1_, Sb1_, hb1_, is_mk rfl rfl, rfl⟩
        · obtain ⟨s32, S33, _, H34, ⟨rfl, rfl⟩, rfl⟩ := SumRow5.onP_t0 hx30 hp_
          replace hM := SumRow5.on_t0 hx30 hM
          refine lx_perm (Ls := [Sb1_, S28, S33]) (Ls' := [Sb1_, S28, S33]) [0, 1, 2] rfl rfl ?_
          refine r_v (Value.tuple #[s32, s27]) rfl rfl rfl rfl ?_
          refine r_v (s32) rfl rfl rfl rfl ?_
          refine r_v (s27) rfl rfl rfl rfl ?_
          refine r_v (s32) rfl rfl rfl rfl ?_
          refine r_v (s27) rfl rfl rfl rfl ?_
          refine lx_nil ?_
          refine hK18 _ _ ?_; try clear hK18 K18
          refine A_seq fun K35 hK35 => ?_
          refine A_seq fun K36 hK36 => ?_
          refine A_reg ?_
          refine r_v (s32) rfl rfl rfl rfl ?_
          refine r_stl (e := 5) (x31_0) rfl rfl rfl rfl rfl (rd_own H34 (mem_chunk (Ls := [Sb1_, S28, S33]) (k := 2) rfl rfl)) ?_
          refine r_v (vb1_) rfl rfl rfl rfl ?_
          refine r_stl (e := 5) (b1_) rfl rfl rfl rfl rfl (rd_own hb1_ (mem_chunk (Ls := [Sb1_, S28, S33]) (k := 0) rfl rfl)) ?_
          refine r_v (s27) rfl rfl rfl rfl ?_
          refine r_stl (e := 5) (r25.2) rfl rfl rfl rfl rfl (rd_own H29 (mem_chunk (Ls := [Sb1_, S28, S33]) (k := 1) rfl rfl)) ?_
          replace hM := ck_some hM; obtain ⟨ck37, hM⟩ := hM
          refine r_v (Value.string (⟨((b1_) ++ (r25.2)).toArray⟩)) rfl rfl rfl (ev_addS ck37 rfl rfl) ?_
          refine r_v (Value.bool ((x31_0) != ((b1_) ++ (r25.2)))) rfl rfl rfl (ev_neS rfl rfl) ?_
          refine lx_nil ?_
          refine hK36 _ _ ?_; try clear hK36 K36
          refine A_cond ((x31_0) != ((b1_) ++ (r25.2))) rfl (fun hc38 => ?_) (fun hc38 => ?_)
          · replace hM := ifp (bne_iff_ne.1 hc38) hM
            refine A_seq fun K39 hK39 => ?_
            refine A_reg ?_
            refine r_v (Value.bool (false)) rfl rfl rfl rfl ?_
            refine lx_nil ?_
            refine hK39 _ _ ?_; try clear hK39 K39
            refine A_gen [(2, Value.bool (false))] rfl (fun T => ?_)
            obtain rfl := Option.some.inj hM
            refine A_ret (fun hn => endsV (v0 := Value.bool (false)) rfl (res1 rfl))
          · replace hM := ifn (bne_f hc38) hM
            refine A_skip ?_
            refine hK35 _ _ ?_; try clear hK35 K35
            refine A_reg ?_
            refine r_v (s32) rfl rfl rfl rfl ?_
            refine r_v (s32) rfl rfl rfl rfl ?_
            refine lx_nil ?_
            refine hK17 _ _ ?_; try clear hK17 K17
            refine A_reg ?_
            refine r_v (Value.int .i64 (i2_)) rfl rfl rfl rfl ?_
            replace hM := ck_some hM; obtain ⟨ck40, hM⟩ := hM
            refine r_v (Value.int .i64 ((i2_ + 1))) rfl rfl (wi64 rfl ck40.1 ck40.2) rfl ?_
            refine r_v (Value.int .i64 ((i2_ + 1))) rfl rfl rfl rfl ?_
            refine lx_nil ?_
            refine fg _ (Sub.pick [Sb1_, S28, S33] [2] rfl) ?_
            exact ⟨n13 + 1, by omega, n13, x31_0, (i2_ + 1), hM, s32, S33, H34, is_mk rfl rfl, rfl⟩
      · replace hM := ifn (of_decide_eq_false hc16) hM
        refine A_exit ?_
        refine hK11 _ _ ?_; try clear hK11 K11
        refine A_seq fun K41 hK41 => ?_
        refine A_reg ?_
        replace hM := bind_sm hM; obtain ⟨r42, hr43, hM⟩ := hM
        refine r_c (Value.bool (r42)) rfl _ _ (ev_callF rfl call_7 rfl) (shunterlaw07_lives_g N  _ hr43) ?_
        refine r_v (Value.bool (r42)) rfl rfl rfl rfl ?_
        refine lx_nil ?_
        refine hK41 _ _ ?_; try clear hK41 K41
        obtain rfl := Option.some.inj hM
        refine A_ret (fun hn => endsV (v0 := Value.bool (r42)) rfl (res1 rfl))
end Go.Proofs.Ytdgejbbelmhbdaa
