/- models of functions and their walks -/
import Derived.Test.YtmfedgmmgehmgaaDoorBc
namespace Go.Proofs.YtmfedgmmgehmgaaDoor
open Go Go.RowKit Go.Eng
abbrev kLCodeTexts27_0 (b : Nat) (x0 : Int) (x1 : Int) (x2 : Int) (x3 : Int) (x4 : BitVec 64) (x5 : BitVec 64) : List Bl := [(b, 27, #[vI x0, vI x1, vI x2, vI x3, U x4, U x5])]
def shunterlaw09_CodeTexts_k4 (s : List UInt8) (r4 : List (List UInt8 × Int × Int × Int × Int × Int × Int × Int × List UInt8)) (at1_ : Int) (i2_ : Int) (rec_shunterlaw09_CodeTexts_l3 : Int → Int → Option Bool) : Option Bool := ck (0 ≤ i2_ ∧ i2_ < ((r4).length : Int)) (if (((r4)[(i2_).toNat]!).1) = s then ck (-9223372036854775808 ≤ (i2_ + 1) ∧ (i2_ + 1) ≤ 9223372036854775807) (rec_shunterlaw09_CodeTexts_l3 i2_ (i2_ + 1)) else ck (-9223372036854775808 ≤ (i2_ + 1) ∧ (i2_ + 1) ≤ 9223372036854775807) (rec_shunterlaw09_CodeTexts_l3 at1_ (i2_ + 1)))
def shunterlaw09_CodeTexts_l3 (N : Nat) (x_0 : Int) (x_1 : Int) (x_2 : Int) (x_3 : Int) (x_4 : BitVec 128) (s : List UInt8) (r4 : List (List UInt8 × Int × Int × Int × Int × Int × Int × Int × List UInt8)) : Nat → Int → Int → Option Bool
  | 0, _, _ => none
  | n12 + 1, at1_, i2_ => if i2_ < ((r4).length : Int) then ck (0 ≤ i2_ ∧ i2_ < ((r4).length : Int)) ((code_Find_m N (((r4)[(i2_).toNat]!).1)).bind fun r19 => (code_Name_m N i2_).bind fun r27 => ck (0 ≤ i2_ ∧ i2_ < ((r4).length : Int)) (if r27 ≠ (((r4)[(i2_).toNat]!).1) then some false else if r19.2 = true then if (r19.1 : Int) ≠ i2_ then some false else shunterlaw09_CodeTexts_k4 s r4 at1_ i2_ (shunterlaw09_CodeTexts_l3 N x_0 x_1 x_2 x_3 x_4 s r4 n12)  else some false)) else (code_Find_m N s).bind fun r37 => (code_Effect_m N ((r4).length : Int)).bind fun r40 => if r37.2 = (decide (at1_ ≥ 0)) then if r37.1 = max at1_ 0 then (code_Name_m N (-1)).bind fun r45 => if r45 = ([]) then (code_Name_m N ((r4).length : Int)).bind fun r48 => if r48 = ([]) then ck (-9223372036854775808 ≤ (r40.1 + r40.2) ∧ (r40.1 + r40.2) ≤ 9223372036854775807) (if ((r40.1 + r40.2) : Int) = 0 then (code_Text_m N x_0 x_1 x_2 x_3 x_4).bind fun r53 => (shunterref09_Text_m N x_0 x_1 x_2 x_3 x_4).bind fun r55 => if r53 = r55 then (shunterlaw09_lives_m N ).bind fun r58 => some r58 else some false else some false) else some false else some false else some false else some false
def shunterlaw09_CodeTexts_m (N : Nat) (x_0 : Int) (x_1 : Int) (x_2 : Int) (x_3 : Int) (x_4 : BitVec 128) (s : List UInt8) : Option Bool := (shunterref09_Table_m N ).bind fun r4 => shunterlaw09_CodeTexts_l3 N x_0 x_1 x_2 x_3 x_4 s r4 N (-1) 0
set_option maxRecDepth 100000 in
set_option maxHeartbeats 8000000 in
theorem shunterlaw09_CodeTexts_g (N : Nat) (x_0 x_1 x_2 x_3 : Int) (x_4 : BitVec 128) (s : List UInt8) (r) (hM : shunterlaw09_CodeTexts_m N x_0 x_1 x_2 x_3 x_4 s = some r) (ro : Addr → Option Value) : DoesI Tryd.prog 7 #[vA #[vI x_0, vI x_1, vI x_2, vI x_3, U (hi x_4), U (lo x_4)], vS s] MemI ro [] (pV (vB r)) := by
 unfold shunterlaw09_CodeTexts_m at hM
 refine doesI_of_A follows Tryd.func7 rfl 102 rfl (upd (upd (fun _ => undef) 1 (vS s)) 0 (vA #[vI x_0, vI x_1, vI x_2, vI x_3, U (hi x_4), U (lo x_4)])) (by funext k; match k with | 0 => rfl | 1 => rfl | k + 2 => rfl) memI_kept (fun base0_ => ?_)
 refine A_sr <| r_a (27, #[vI x_0, vI x_1, vI x_2, vI x_3, U (hi x_4), U (lo x_4)]) rfl rfl rfl (fun b2 => ?_) (.inr rfl)
 refine r_V (vB false) rfl <| lx_nil <| A_sc [(some 14, false)] (conG Tryd.prog [(14, fun _ _ v_ L_ U_ => ∀ u0_, shunterref09_Table_m N  = some u0_ → (p1 (fun s_ => s_) 38 enc_38 u0_) v_ L_ U_)]) ?_
 obtain ⟨r4, hr5, hM⟩ := bind_sm hM
 refine r_g1 (Ls := [(kLCodeTexts27_0 b2 x_0 x_1 x_2 x_3 (hi x_4) (lo x_4))]) (fun s6 => s6) 38 enc_38 r4 13 _ rfl rfl rfl (ev_callF rfl call_13 rfl) (fun own_ nw_ hs_ => (Does.inv (shunterref09_Table_g N  _ hr5 hs_.view ) _)) (conE hr5) (fun s6 S7 H8 => ?_)
 refine r_V s6 rfl <| lx_nil <| A_sr <| r_V (vI (-1)) rfl <| lx_nil <| A_seq fun K10 hK10 => A_sr <| r_V (vI 0) rfl <| lx_nil <| A_block <| A_forget _ (Sub.pick [(kLCodeTexts27_0 b2 x_0 x_1 x_2 x_3 (hi x_4) (lo x_4)), S7] [0, 1] rfl) <| A_loop (fun tt ll nn => ∃ (n12 : Nat) (at1_ : Int) (i2_ : Int), (shunterlaw09_CodeTexts_l3 N x_0 x_1 x_2 x_3 x_4 s r4 n12 at1_ i2_ = some r) ∧ Is [(1, vS s), (2, vP b2 0), (5, s6), (6, vI at1_), (7, vI i2_)] (List.flatten [(kLCodeTexts27_0 b2 x_0 x_1 x_2 x_3 (hi x_4) (lo x_4)), S7]) tt ll ∧ nn = n12 + 1) (N + 1) ?_ ?_
 ·exact ⟨N, -1, 0, hM, is_mk rfl rfl, rfl⟩
 clear hM; rintro t l _ ⟨n12, at1_, i2_, hM, ⟨⟨T, rfl⟩, rfl⟩, rfl⟩
 rcases n12 with _ | n12
 ·exact absurd hM (by simp [shunterlaw09_CodeTexts_l3])
 rw [shunterlaw09_CodeTexts_l3] at hM
 refine A_seq fun K13 hK13 => A_sr <| r_R [vI i2_, s6] rfl <| r_W (vI ((r4).length : Int)) rfl (ev_lenSl rfl rfl rfl (Sl.shp H8)) <| r_V (vB (decide (i2_ < ((r4).length : Int)))) rfl <| lx_nil <| A_cond (decide (i2_ < ((r4).length : Int))) rfl (fun hc15 => ?_) (fun hc15 => ?_)
 ·replace hM := ifp (of_decide_eq_true hc15) hM
  refine A_skip <| hK13 _ _ ?_; try clear hK13 K13
  refine A_seq fun K16 hK16 => A_block <| A_sc [(some 27, false)] (conG Tryd.prog [(27, fun _ _ v_ L_ U_ => ∀ u0_, code_Find_m N (((r4)[(i2_).toNat]!).1) = some u0_ → (pV (vT #[vI u0_.1, vB u0_.2])) v_ L_ U_)]) <| r_R [s6, vI i2_] rfl ?_
  obtain ⟨ck18, hM⟩ := ck_some hM
  refine r_W (elA s6 ((i2_).toNat * 9)) rfl (ev_v (ev_idxSl rfl rfl rfl (Sl.shp H8) ck18)) <| r_W (elA s6 ((i2_).toNat * 9 + 0)) rfl (ev_v (ev_fieldX rfl rfl rfl rfl rfl rfl (Sl.shp H8) (pos_of ck18))) <| r_le (vS (((r4)[(i2_).toNat]!).1)) (En := enc_38) ((r4)[(i2_).toNat]!) ((i2_).toNat) 0 rfl rfl (rd_own H8 (mem_chunk (Ls := [(kLCodeTexts27_0 b2 x_0 x_1 x_2 x_3 (hi x_4) (lo x_4)), S7]) (k := 1) rfl rfl)) (get_of ck18) rfl ?_
  obtain ⟨r19, hr20, hM⟩ := bind_sm hM
  refine r_gv (vT #[vI r19.1, vB r19.2]) 19 _ rfl rfl rfl (ev_callF rfl call_19 rfl) (fun own_ nw_ hs_ => code_Find_g N (((r4)[(i2_).toNat]!).1) _ hr20 hs_.view ) (conE hr20) <| r_R [vT #[vI r19.1, vB r19.2], vI r19.1, vB r19.2, vI r19.1, vB r19.2] rfl <| lx_nil <| A_cut (fun tt ll => (shunterlaw09_CodeTexts_k4 s r4 at1_ i2_ (shunterlaw09_CodeTexts_l3 N x_0 x_1 x_2 x_3 x_4 s r4 n12)  = some r) ∧ Is [(1, vS s), (2, vP b2 0), (5, s6), (6, vI at1_), (7, vI i2_)] (List.flatten [(kLCodeTexts27_0 b2 x_0 x_1 x_2 x_3 (hi x_4) (lo x_4)), S7]) tt ll) ?_ ?_
  ·refine A_seq fun K26 hK26 => A_drawR [(some 31, false)] (conG Tryd.prog [(31, fun _ _ v_ L_ U_ => ∀ u0_, code_Name_m N i2_ = some u0_ → (pV (vS u0_)) v_ L_ U_)]) [] (by decide +kernel) (fun hn => sep_nil) <| r_V (vI i2_) rfl ?_
   obtain ⟨r27, hr28, hM⟩ := bind_sm hM
   refine r_gv (vS r27) 20 _ rfl rfl rfl (ev_callF rfl call_20 rfl) (fun own_ nw_ hs_ => code_Name_g N i2_ _ hr28 hs_.view ) (conE hr28) <| r_R [s6, vI i2_] rfl ?_
   obtain ⟨ck29, hM⟩ := ck_some hM
   refine r_W (elA s6 ((i2_).toNat * 9)) rfl (ev_v (ev_idxSl rfl rfl rfl (Sl.shp H8) ck29)) <| r_W (elA s6 ((i2_).toNat * 9 + 0)) rfl (ev_v (ev_fieldX rfl rfl rfl rfl rfl rfl (Sl.shp H8) (pos_of ck29))) <| r_le (vS (((r4)[(i2_).toNat]!).1)) (En := enc_38) ((r4)[(i2_).toNat]!) ((i2_).toNat) 0 rfl rfl (rd_own H8 (mem_chunk (Ls := [(kLCodeTexts27_0 b2 x_0 x_1 x_2 x_3 (hi x_4) (lo x_4)), S7]) (k := 1) rfl rfl)) (get_of ck29) rfl <| r_W (vB (r27 != (((r4)[(i2_).toNat]!).1))) rfl (ev_neS rfl rfl) <| r_V (vB (r27 != (((r4)[(i2_).toNat]!).1))) rfl ?_
   rcases hg30 : (r27 != (((r4)[(i2_).toNat]!).1)) with _ | _
   ·replace hM := ifn (bne_f hg30) hM
    refine r_R [vB r19.2, vB (!(r19.2)), vB (!(r19.2)), vB (!(r19.2))] rfl ?_
    rcases hg31 : (!(r19.2)) with _ | _
    ·replace hM := ifp (not_f hg31) hM
     refine r_R [vI r19.1, vI i2_, vB (r19.1 != i2_), vB (r19.1 != i2_)] rfl <| lx_nil <| hK26 _ _ ?_; try clear hK26 K26
     refine A_gen [(1, vS s), (2, vP b2 0), (5, s6), (6, vI at1_), (7, vI i2_), (46, vB (r19.1 != i2_))] rfl (fun T => ?_)
     refine A_cond (r19.1 != i2_) rfl (fun hc32 => ?_) (fun hc32 => ?_)
     ·replace hM := ifp (bne_iff_ne.1 hc32) hM
      refine A_sr <| r_V (vB false) rfl <| lx_nil ?_
      obtain rfl := Option.some.inj hM
      refine A_ret (fun hn => endsV (v0 := vB false) rfl (res1 rfl))
     replace hM := ifn (bne_f hc32) hM
     refine A_skip <| fg _ (Sub.pick [(kLCodeTexts27_0 b2 x_0 x_1 x_2 x_3 (hi x_4) (lo x_4)), S7] [0, 1] rfl) ?_
     exact ⟨hM, is_mk rfl rfl⟩
    replace hM := ifn (Bool.eq_false_iff.1 (not_t hg31)) hM
    refine r_R [none, none, none, vB true] rfl <| lx_nil <| hK26 _ _ ?_; try clear hK26 K26
    refine A_gen [(1, vS s), (2, vP b2 0), (5, s6), (6, vI at1_), (7, vI i2_), (46, vB true)] rfl (fun T => ?_)
    refine A_cond true rfl (fun _ => ?_) (fun h_ => nomatch h_)
    refine A_sr <| r_V (vB false) rfl <| lx_nil ?_
    obtain rfl := Option.some.inj hM
    refine A_ret (fun hn => endsV (v0 := vB false) rfl (res1 rfl))
   replace hM := ifp (bne_iff_ne.1 hg30) hM
   refine r_R [none, none, vB true, vB true, none, none, none, vB true] rfl <| lx_nil <| hK26 _ _ ?_; try clear hK26 K26
   refine A_gen [(1, vS s), (2, vP b2 0), (5, s6), (6, vI at1_), (7, vI i2_), (46, vB true)] rfl (fun T => ?_)
   refine A_cond true rfl (fun _ => ?_) (fun h_ => nomatch h_)
   refine A_sr <| r_V (vB false) rfl <| lx_nil ?_
   obtain rfl := Option.some.inj hM
   refine A_ret (fun hn => endsV (v0 := vB false) rfl (res1 rfl))
  clear hM; rintro t l ⟨hM, ⟨T, rfl⟩, rfl⟩
  unfold shunterlaw09_CodeTexts_k4 at hM
  refine A_sr <| r_R [s6, vI i2_] rfl ?_
  obtain ⟨ck22, hM⟩ := ck_some hM
  refine r_W (elA s6 ((i2_).toNat * 9)) rfl (ev_v (ev_idxSl rfl rfl rfl (Sl.shp H8) ck22)) <| r_W (elA s6 ((i2_).toNat * 9 + 0)) rfl (ev_v (ev_fieldX rfl rfl rfl rfl rfl rfl (Sl.shp H8) (pos_of ck22))) <| r_le (vS (((r4)[(i2_).toNat]!).1)) (En := enc_38) ((r4)[(i2_).toNat]!) ((i2_).toNat) 0 rfl rfl (rd_own H8 (mem_chunk (Ls := [(kLCodeTexts27_0 b2 x_0 x_1 x_2 x_3 (hi x_4) (lo x_4)), S7]) (k := 1) rfl rfl)) (get_of ck22) rfl <| r_V (vS s) rfl <| r_W (vB ((((r4)[(i2_).toNat]!).1) == s)) rfl (ev_eqS rfl rfl) <| lx_nil <| A_cond ((((r4)[(i2_).toNat]!).1) == s) rfl (fun hc23 => ?_) (fun hc23 => ?_)
  ·replace hM := ifp (eq_of_beq hc23) hM
   refine A_reg <| r_R [vI i2_, vI i2_] rfl <| lx_nil <| hK16 _ _ ?_; try clear hK16 K16
   refine A_reg <| r_V (vI i2_) rfl ?_
   obtain ⟨ck24, hM⟩ := ck_some hM
   refine r_X (vI (i2_ + 1)) rfl (wi64 rfl ck24.1 ck24.2) rfl <| r_V (vI (i2_ + 1)) rfl <| lx_nil <| fg _ (Sub.pick [(kLCodeTexts27_0 b2 x_0 x_1 x_2 x_3 (hi x_4) (lo x_4)), S7] [0, 1] rfl) ?_
   exact ⟨n12 + 1, by omega, n12, i2_, (i2_ + 1), hM, is_mk rfl rfl, rfl⟩
  replace hM := ifn (ne_of_beq_false hc23) hM
  refine A_skip <| hK16 _ _ ?_; try clear hK16 K16
  refine A_reg <| r_V (vI i2_) rfl ?_
  obtain ⟨ck25, hM⟩ := ck_some hM
  refine r_X (vI (i2_ + 1)) rfl (wi64 rfl ck25.1 ck25.2) rfl <| r_V (vI (i2_ + 1)) rfl <| lx_nil <| fg _ (Sub.pick [(kLCodeTexts27_0 b2 x_0 x_1 x_2 x_3 (hi x_4) (lo x_4)), S7] [0, 1] rfl) ?_
  exact ⟨n12 + 1, by omega, n12, at1_, (i2_ + 1), hM, is_mk rfl rfl, rfl⟩
 replace hM := ifn (of_decide_eq_false hc15) hM
 refine A_exit <| hK10 _ _ ?_; try clear hK10 K10
 refine A_sc [(some 57, false)] (conG Tryd.prog [(57, fun _ _ v_ L_ U_ => ∀ u0_, code_Find_m N s = some u0_ → (pV (vT #[vI u0_.1, vB u0_.2])) v_ L_ U_)]) <| r_V (vS s) rfl ?_
 obtain ⟨r37, hr38, hM⟩ := bind_sm hM
 refine r_gv (vT #[vI r37.1, vB r37.2]) 19 _ rfl rfl rfl (ev_callF rfl call_19 rfl) (fun own_ nw_ hs_ => code_Find_g N s _ hr38 hs_.view ) (conE hr38) <| r_R [vT #[vI r37.1, vB r37.2], vI r37.1, vB r37.2, vI r37.1, vB r37.2] rfl <| lx_nil <| A_sr <| r_V s6 rfl <| r_W (vI ((r4).length : Int)) rfl (ev_lenSl rfl rfl rfl (Sl.shp H8)) ?_
 obtain ⟨r40, hr41, hM⟩ := bind_sm hM
 refine r_c (vT #[vI r40.1, vI r40.2]) rfl _ _ (ev_callF rfl call_17 rfl) (code_Effect_g N ((r4).length : Int) _ hr41) <| r_R [vT #[vI r40.1, vI r40.2], vI r40.1, vI r40.2, vI r40.1, vI r40.2] rfl <| lx_nil <| A_seq fun K42 hK42 => ?_
 refine A_drawR [(some 77, false), (some 83, false), (some 94, false), (some 100, false)] (conG Tryd.prog [(77, fun _ _ v_ L_ U_ => ∀ u0_, code_Name_m N (-1) = some u0_ → (pV (vS u0_)) v_ L_ U_), (83, fun _ _ v_ L_ U_ => ∀ u0_, code_Name_m N ((r4).length : Int) = some u0_ → (pV (vS u0_)) v_ L_ U_), (94, fun _ _ v_ L_ U_ => ∀ u0_, code_Text_m N x_0 x_1 x_2 x_3 x_4 = some u0_ → (pV (vS u0_)) v_ L_ U_), (100, fun _ _ v_ L_ U_ => ∀ u0_, shunterlaw09_lives_m N  = some u0_ → (pV (vB u0_)) v_ L_ U_)]) [] (by decide +kernel) (fun hn => sep_nil) <| r_R [vB r37.2, vI at1_, vB (decide (at1_ ≥ 0))] rfl <| r_W (vB (r37.2 == (decide (at1_ ≥ 0)))) rfl (ev_binB rfl rfl rfl) ?_
 refine r_V (vB (r37.2 == (decide (at1_ ≥ 0)))) rfl ?_
 rcases hg43 : (r37.2 == (decide (at1_ ≥ 0))) with _ | _
 ·replace hM := ifn (ne_of_beq_false hg43) hM
  refine r_R [none, none, none, none, vB false, vB false, none, none, vB false, vB false, none, none, none, none, vB false, vB false, none, none, none, none, vB false, vB false, none, none] rfl <| r_R [none, none, none, vB false, vB false, none, vB false, vB false] rfl <| lx_nil <| hK42 _ _ ?_; try clear hK42 K42
  refine A_gen [(4, vB false)] rfl (fun T => ?_)
  obtain rfl := Option.some.inj hM
  refine A_ret (fun hn => endsV (v0 := vB false) rfl (res1 rfl))
 replace hM := ifp (eq_of_beq hg43) hM
 refine r_R [vI r37.1, vI at1_] rfl <| r_y rfl <| r_W (vI (max at1_ 0)) rfl (ev_max rfl rfl) <| r_R [vB (r37.1 == max at1_ 0), vB (r37.1 == max at1_ 0), vB (r37.1 == max at1_ 0)] rfl ?_
 rcases hg44 : (r37.1 == max at1_ 0) with _ | _
 ·replace hM := ifn (ne_of_beq_false hg44) hM
  refine r_R [none, none, vB false, vB false, none, none, none, none, vB false, vB false, none, none, none, none, vB false, vB false, none, none, none, none, none, vB false, vB false, none] rfl <| r_R [vB false, vB false] rfl <| lx_nil <| hK42 _ _ ?_; try clear hK42 K42
  refine A_gen [(4, vB false)] rfl (fun T => ?_)
  obtain rfl := Option.some.inj hM
  refine A_ret (fun hn => endsV (v0 := vB false) rfl (res1 rfl))
 replace hM := ifp (eq_of_beq hg44) hM
 refine r_y rfl ?_
 obtain ⟨r45, hr46, hM⟩ := bind_sm hM
 refine r_gv (vS r45) 20 _ rfl rfl rfl (ev_callF rfl call_20 rfl) (fun own_ nw_ hs_ => code_Name_g N (-1) _ hr46 hs_.view ) (conE hr46) <| r_y rfl <| r_W (vB (r45 == ([]))) rfl (ev_eqS rfl rfl) <| r_R [vB (r45 == ([])), vB (r45 == ([]))] rfl ?_
 rcases hg47 : (r45 == ([])) with _ | _
 ·replace hM := ifn (ne_of_beq_false hg47) hM
  refine r_R [none, none, none, none, vB false, vB false, none, none, none, none, vB false, vB false, none, none, none, none, none, vB false, vB false, none, vB false, vB false] rfl <| lx_nil <| hK42 _ _ ?_; try clear hK42 K42
  refine A_gen [(4, vB false)] rfl (fun T => ?_)
  obtain rfl := Option.some.inj hM
  refine A_ret (fun hn => endsV (v0 := vB false) rfl (res1 rfl))
 replace hM := ifp (eq_of_beq hg47) hM
 refine r_R [s6] rfl <| r_y rfl <| r_W (vI ((r4).length : Int)) rfl (ev_lenSl rfl rfl rfl (Sl.shp H8)) <| r_y rfl ?_
 obtain ⟨r48, hr49, hM⟩ := bind_sm hM
 refine r_gv (vS r48) 20 _ rfl rfl rfl (ev_callF rfl call_20 rfl) (fun own_ nw_ hs_ => code_Name_g N ((r4).length : Int) _ hr49 hs_.view ) (conE hr49) <| r_y rfl <| r_W (vB (r48 == ([]))) rfl (ev_eqS rfl rfl) <| r_R [vB (r48 == ([])), vB (r48 == ([]))] rfl ?_
 rcases hg50 : (r48 == ([])) with _ | _
 ·replace hM := ifn (ne_of_beq_false hg50) hM
  refine r_R [none, none, none, none, vB false, vB false, none, none, none, none, none, vB false, vB false, none, vB false, vB false] rfl <| lx_nil <| hK42 _ _ ?_; try clear hK42 K42
  refine A_gen [(4, vB false)] rfl (fun T => ?_)
  obtain rfl := Option.some.inj hM
  refine A_ret (fun hn => endsV (v0 := vB false) rfl (res1 rfl))
 replace hM := ifp (eq_of_beq hg50) hM
 refine r_R [vI r40.1, vI r40.2] rfl <| r_y rfl ?_
 obtain ⟨ck51, hM⟩ := ck_some hM
 refine r_X (vI (r40.1 + r40.2)) rfl (wi64 rfl ck51.1 ck51.2) rfl <| r_R [vB (((r40.1 + r40.2) : Int) == 0), vB (((r40.1 + r40.2) : Int) == 0), vB (((r40.1 + r40.2) : Int) == 0)] rfl ?_
 rcases hg52 : (((r40.1 + r40.2) : Int) == 0) with _ | _
 ·replace hM := ifn (ne_of_beq_false hg52) hM
  refine r_R [none, none, none, none, none, vB false, vB false, none, vB false, vB false] rfl <| lx_nil <| hK42 _ _ ?_; try clear hK42 K42
  refine A_gen [(4, vB false)] rfl (fun T => ?_)
  obtain rfl := Option.some.inj hM
  refine A_ret (fun hn => endsV (v0 := vB false) rfl (res1 rfl))
 replace hM := ifp (eq_of_beq hg52) hM
 refine r_y rfl <| r_l (vA #[vI x_0, vI x_1, vI x_2, vI x_3, U (hi x_4), U (lo x_4)]) 0 _ _ _ _ rfl rfl rfl rfl rfl <| r_y rfl ?_
 obtain ⟨r53, hr54, hM⟩ := bind_sm hM
 refine r_gv (vS r53) 21 _ rfl rfl rfl (ev_callF rfl call_21 rfl) (fun own_ nw_ hs_ => code_Text_g N x_0 x_1 x_2 x_3 x_4 _ hr54 hs_.view ) (conE hr54) <| r_y rfl <| r_l (vA #[vI x_0, vI x_1, vI x_2, vI x_3, U (hi x_4), U (lo x_4)]) 0 _ _ _ _ rfl rfl rfl rfl rfl <| r_y rfl ?_
 obtain ⟨r55, hr56, hM⟩ := bind_sm hM
 refine r_c (vS r55) rfl _ _ (ev_callF rfl call_22 rfl) (shunterref09_Text_g N x_0 x_1 x_2 x_3 x_4 _ hr56) <| r_y rfl <| r_W (vB (r53 == r55)) rfl (ev_eqS rfl rfl) <| r_R [vB (r53 == r55), vB (r53 == r55)] rfl ?_
 rcases hg57 : (r53 == r55) with _ | _
 ·replace hM := ifn (ne_of_beq_false hg57) hM
  refine r_R [none, vB false, vB false] rfl <| lx_nil <| hK42 _ _ ?_; try clear hK42 K42
  refine A_gen [(4, vB false)] rfl (fun T => ?_)
  obtain rfl := Option.some.inj hM
  refine A_ret (fun hn => endsV (v0 := vB false) rfl (res1 rfl))
 replace hM := ifp (eq_of_beq hg57) hM
 refine r_y rfl ?_
 obtain ⟨r58, hr59, hM⟩ := bind_sm hM
 refine r_gv (vB r58) 11 _ rfl rfl rfl (ev_callF rfl call_11 rfl) (fun own_ nw_ hs_ => shunterlaw09_lives_g N  _ hr59 hs_.view ) (conE hr59) <| r_R [vB r58, vB r58] rfl <| lx_nil <| hK42 _ _ ?_; try clear hK42 K42
 refine A_gen [(4, vB r58)] rfl (fun T => ?_)
 obtain rfl := Option.some.inj hM
 refine A_ret (fun hn => endsV (v0 := vB r58) rfl (res1 rfl))
end Go.Proofs.YtmfedgmmgehmgaaDoor
