/- models of functions and their walks -/
import Derived.Test.YtnpbpllibmcokaaBa
namespace Go.Proofs.Ytnpbpllibmcokaa
open Go Go.RowKit Go.Eng
abbrev kLExactKeeps31_0 (b : Nat) (x0 : Int) (x1 : BitVec 64) (x2 : BitVec 64) : List Bl := [(b, 31, #[vI x0, U x1, U x2])]
abbrev kLExactKeeps53_1 (b : Nat) (x0 : Value) (x1 : Int) (x2 : Int) : List Bl := [(b, 53, #[x0, vI x1, vI x2])]
def shunterlaw19_ExactKeeps_k9 (i2_ : Int) (rec_shunterlaw19_ExactKeeps_l5 : Int → List (Int × BitVec 128 × Int) → Int → Int → Option Bool) (s7_ : List (Int × BitVec 128 × Int)) (m6__1 : Int) (m6__2 : Int) (b46 : Bool) : Option Bool := if b46 = true then some false else ck (-9223372036854775808 ≤ (i2_ + 1) ∧ (i2_ + 1) ≤ 9223372036854775807) (rec_shunterlaw19_ExactKeeps_l5 (i2_ + 1) s7_ m6__1 m6__2)
def shunterlaw19_ExactKeeps_k8 (N : Nat) (key_0 : Int) (key_1 : BitVec 128) (n : Int) (i2_ : Int) (rec_shunterlaw19_ExactKeeps_l5 : Int → List (Int × BitVec 128 × Int) → Int → Int → Option Bool) (s7_ : List (Int × BitVec 128 × Int)) (m6__1 : Int) (m6__2 : Int) : Option Bool := (exact_Map_Get_v1_m N s7_ m6__1 m6__2 key_0 key_1).bind fun r43 => if (r43.1 : Int) ≠ n then shunterlaw19_ExactKeeps_k9 i2_ rec_shunterlaw19_ExactKeeps_l5 s7_ m6__1 m6__2 true else shunterlaw19_ExactKeeps_k9 i2_ rec_shunterlaw19_ExactKeeps_l5 s7_ m6__1 m6__2 (!(r43.2))
def shunterlaw19_ExactKeeps_k10 (N : Nat) (key_0 : Int) (key_1 : BitVec 128) (r79 : Int × (List (Int × BitVec 128 × Int)) × Int × Int) (b90 : Bool) : Option Bool := if b90 = true then (exact_Map_Drop_v1_m N r79.2.1 r79.2.2.1 r79.2.2.2 key_0 key_1).bind fun r92 => ck ((r92.2.1).length = (r79.2.1).length) (if r92.1 = 5 then (shunterlaw19_lives_m N ).bind fun r98 => some r98 else some false) else some false
def shunterlaw19_ExactKeeps_l5 (N : Nat) (ops : List (Int × Int × Int × BitVec 128)) (key_0 : Int) (key_1 : BitVec 128) (n : Int) : Nat → Int → List (Int × BitVec 128 × Int) → Int → Int → Option Bool
  | 0, _, _, _, _ => none
  | n32 + 1, i2_, s4_, m3__1, m3__2 => if i2_ < ((ops).length : Int) then ck (0 ≤ i2_ ∧ i2_ < ((ops).length : Int)) (if (((((ops)[(i2_).toNat]!).2.2.1) == key_0) && ((((ops)[(i2_).toNat]!).2.2.2) == key_1)) = true then ck (-9223372036854775808 ≤ (i2_ + 1) ∧ (i2_ + 1) ≤ 9223372036854775807) ((shunterlaw19_ExactKeeps_l5 N ops key_0 key_1 n n32) (i2_ + 1) s4_ m3__1 m3__2) else ck (0 ≤ i2_ ∧ i2_ < ((ops).length : Int)) (if (((ops)[(i2_).toNat]!).1 : Int) = 0 then ck (0 ≤ i2_ ∧ i2_ < ((ops).length : Int)) (ck (0 ≤ i2_ ∧ i2_ < ((ops).length : Int)) ((exact_Map_Put_v1_m N s4_ m3__1 m3__2 (((ops)[(i2_).toNat]!).2.2.1) (((ops)[(i2_).toNat]!).2.2.2) (((ops)[(i2_).toNat]!).2.1)).bind fun r57 => ck ((r57.2.1).length = (s4_).length) (shunterlaw19_ExactKeeps_k8 N key_0 key_1 n i2_ (shunterlaw19_ExactKeeps_l5 N ops key_0 key_1 n n32) r57.2.1 r57.2.2.1 r57.2.2.2))) else if (((ops)[(i2_).toNat]!).1 : Int) = 1 then ck (0 ≤ i2_ ∧ i2_ < ((ops).length : Int)) (ck (0 ≤ i2_ ∧ i2_ < ((ops).length : Int)) ((exact_Map_Set_v1_m N s4_ m3__1 m3__2 (((ops)[(i2_).toNat]!).2.2.1) (((ops)[(i2_).toNat]!).2.2.2) (((ops)[(i2_).toNat]!).2.1)).bind fun r66 => ck ((r66.2.1).length = (s4_).length) (shunterlaw19_ExactKeeps_k8 N key_0 key_1 n i2_ (shunterlaw19_ExactKeeps_l5 N ops key_0 key_1 n n32) r66.2.1 r66.2.2.1 r66.2.2.2))) else ck (0 ≤ i2_ ∧ i2_ < ((ops).length : Int)) ((exact_Map_Drop_v1_m N s4_ m3__1 m3__2 (((ops)[(i2_).toNat]!).2.2.1) (((ops)[(i2_).toNat]!).2.2.2)).bind fun r72 => ck ((r72.2.1).length = (s4_).length) (shunterlaw19_ExactKeeps_k8 N key_0 key_1 n i2_ (shunterlaw19_ExactKeeps_l5 N ops key_0 key_1 n n32) r72.2.1 r72.2.2.1 r72.2.2.2)))) else (exact_Map_Drop_v1_m N s4_ m3__1 m3__2 key_0 key_1).bind fun r79 => ck ((r79.2.1).length = (s4_).length) (if (r79.1 : Int) ≠ 0 then some false else (exact_Map_Get_v1_m N r79.2.1 r79.2.2.1 r79.2.2.2 key_0 key_1).bind fun r87 => if r87.1 = 0 then shunterlaw19_ExactKeeps_k10 N key_0 key_1 r79 (!(r87.2)) else shunterlaw19_ExactKeeps_k10 N key_0 key_1 r79 false)
def shunterlaw19_ExactKeeps_k1 (N : Nat) (ops : List (Int × Int × Int × BitVec 128)) (key_0 : Int) (key_1 : BitVec 128) (n : Int) (b5 : Bool) : Option Bool := if b5 = true then (shunterlaw19_lives_m N ).bind fun r8 => some r8 else (exact_New_m N 256).bind fun r11 => Sum23.on r11 (some false) (fun x14_0 x15_1 x16_2 => (exact_Map_Put_v1_m N x14_0 x15_1 x16_2 key_0 key_1 n).bind fun r23 => ck ((r23.2.1).length = (x14_0).length) (if (r23.1 : Int) ≠ 0 then some false else shunterlaw19_ExactKeeps_l5 N ops key_0 key_1 n N 0 r23.2.1 r23.2.2.1 r23.2.2.2))
def shunterlaw19_ExactKeeps_m (N : Nat) (ops : List (Int × Int × Int × BitVec 128)) (key_0 : Int) (key_1 : BitVec 128) (n : Int) : Option Bool := if (((ops).length : Int) : Int) > 600 then shunterlaw19_ExactKeeps_k1 N ops key_0 key_1 n true else (shunterref02_May_m N key_0 key_1).bind fun r102 => shunterlaw19_ExactKeeps_k1 N ops key_0 key_1 n (!(r102))
set_option maxRecDepth 100000 in
set_option maxHeartbeats 8000000 in
theorem shunterlaw19_ExactKeeps_g (N : Nat) (ops : List (Int × Int × Int × BitVec 128)) (key_0 : Int) (key_1 : BitVec 128) (n : Int) (r) (hM : shunterlaw19_ExactKeeps_m N ops key_0 key_1 n = some r) (ro : Addr → Option Value) (opsv : Value) (hops : Rd enc_33 ro opsv ops) : Does Try.prog 5 #[opsv, vA #[vI key_0, U (hi key_1), U (lo key_1)], vI n] ro [] (pV (vB r)) := by
 unfold shunterlaw19_ExactKeeps_m at hM
 refine does_of_A follows Try.func5 rfl 123 rfl (upd (upd (upd (fun _ => undef) 2 (vI n)) 1 (vA #[vI key_0, U (hi key_1), U (lo key_1)])) 0 opsv) (by funext k; match k with | 0 => rfl | 1 => rfl | 2 => rfl | k + 3 => rfl) (fun base0_ => ?_)
 refine A_sr <| r_a (31, #[vI key_0, U (hi key_1), U (lo key_1)]) rfl rfl rfl (fun b2 => ?_) (.inr rfl)
 refine r_V (vB false) rfl <| lx_nil <| A_seq fun K3 hK3 => A_seq fun K4 hK4 => A_reg <| r_V opsv rfl <| r_W (vI ((ops).length : Int)) rfl (ev_lenSl rfl rfl rfl (Rd.shp hops)) <| r_R [vB (decide ((((ops).length : Int) : Int) > 600)), vB (decide ((((ops).length : Int) : Int) > 600))] rfl <| lx_jn 4 20 [(0, opsv), (2, vI n), (4, vP b2 0)] vB (fun b_ => shunterlaw19_ExactKeeps_k1 N ops key_0 key_1 n b_ = some r) (fun b5 hM T => ?_) (fun HJ => ?_)
 ·unfold shunterlaw19_ExactKeeps_k1 at hM
  refine lx_nil <| hK4 _ _ ?_; try clear hK4 K4
  refine A_cond b5 rfl (fun hc6 => ?_) (fun hc6 => ?_)
  ·replace hM := ifp hc6 hM
   refine A_sr ?_
   obtain ⟨r8, hr9, hM⟩ := bind_sm hM
   refine r_c (vB r8) rfl _ _ (ev_callF rfl call_8 rfl) (shunterlaw19_lives_g N  _ hr9) <| r_V (vB r8) rfl <| lx_nil ?_
   obtain rfl := Option.some.inj hM
   refine A_ret (fun hn => endsV (v0 := vB r8) rfl (res1 rfl))
  replace hM := ifn (Bool.eq_false_iff.1 hc6) hM
  refine A_skip <| hK3 _ _ ?_; try clear hK3 K3
  refine A_seq fun K10 hK10 => A_reg ?_
  obtain ⟨r11, hr12, hM⟩ := bind_sm hM
  refine cA 22 <| r_gm (Ls := [(kLExactKeeps31_0 b2 key_0 (hi key_1) (lo key_1))]) (FL := []) [] _ (some 22) 7 _ rfl rfl rfl rfl rfl (ev_callF rfl call_7 rfl) (fun own_ nw_ hn_ hs_ => exact_New_g N 256 _ hr12 _ ) (fun _ _ _ _ _ => Iff.rfl) (fun h_ => nomatch h_) ?_
  rcases Sum23.cases r11 with hx13 | ⟨x14_0, x15_1, x16_2, hx13⟩
  ·rintro _ _ hp_
   obtain ⟨rfl, rfl⟩ := Sum23.onP_nil hx13 hp_
   replace hM := Sum23.on_nil hx13 hM
   refine lx_perm (Ls := [(kLExactKeeps31_0 b2 key_0 (hi key_1) (lo key_1))]) (Ls' := [(kLExactKeeps31_0 b2 key_0 (hi key_1) (lo key_1))]) [0] rfl rfl <| r_V (Value.pointer none) rfl <| lx_nil <| hK10 _ _ ?_; try clear hK10 K10
   refine A_seq fun K17 hK17 => A_sr <| r_R [Value.pointer none, vB true, vB true, none, none, none, none, none, vB true] rfl <| lx_nil <| A_cond true rfl (fun _ => ?_) (fun h_ => nomatch h_)
   refine A_sr <| r_V (vB false) rfl <| lx_nil ?_
   obtain rfl := Option.some.inj hM
   refine A_ret (fun hn => endsV (v0 := vB false) rfl (res1 rfl))
  rintro _ _ hp_
  obtain ⟨s17, S18, _, H19, ⟨b20, _, ⟨rfl, rfl⟩, rfl⟩, rfl⟩ := Sum23.onP_t53 hx13 hp_
  replace hM := Sum23.on_t53 hx13 hM
  refine lx_perm (Ls := [(kLExactKeeps31_0 b2 key_0 (hi key_1) (lo key_1)), S18, (kLExactKeeps53_1 b20 s17 x15_1 x16_2)]) (Ls' := [(kLExactKeeps31_0 b2 key_0 (hi key_1) (lo key_1)), (kLExactKeeps53_1 b20 s17 x15_1 x16_2), S18]) [0, 2, 1] rfl rfl <| r_V (vP b20 0) rfl <| lx_nil <| hK10 _ _ ?_; try clear hK10 K10
  refine A_seq fun K21 hK21 => A_sr <| r_R [vP b20 0, vB false, vB false, vP b20 0] rfl <| r_y rfl <| r_l (vA #[vI key_0, U (hi key_1), U (lo key_1)]) 0 _ _ _ _ rfl rfl rfl rfl rfl <| r_R [vI n] rfl <| r_y rfl ?_
  obtain ⟨r23, hr24, hM⟩ := bind_sm hM
  obtain ⟨ck25, hM⟩ := ck_some hM
  refine cA 29 <| r_gm (Ls := [(kLExactKeeps31_0 b2 key_0 (hi key_1) (lo key_1)), (kLExactKeeps53_1 b20 s17 x15_1 x16_2), S18]) (FL := [(kLExactKeeps53_1 b20 s17 x15_1 x16_2), S18]) [1, 2] _ (some 29) 16 _ rfl rfl rfl rfl rfl (ev_callF rfl call_16 rfl) (fun own_ nw_ hn_ hs_ => exact_Map_Put_v1_g N x14_0 x15_1 x16_2 key_0 key_1 n _ hr24 _ b20 s17 S18 H19) (fun _ _ _ _ _ => Iff.rfl) (fun h_ => nomatch h_) ?_
  rintro _ _ ⟨S26, _, H27, ⟨rfl, rfl⟩, rfl⟩
  refine lx_perm (Ls := [(kLExactKeeps31_0 b2 key_0 (hi key_1) (lo key_1)), S26, (kLExactKeeps53_1 b20 s17 r23.2.2.1 r23.2.2.2)]) (Ls' := [(kLExactKeeps31_0 b2 key_0 (hi key_1) (lo key_1)), (kLExactKeeps53_1 b20 s17 r23.2.2.1 r23.2.2.2), S26]) [0, 2, 1] rfl rfl <| r_R [vB (r23.1 != 0), vB (r23.1 != 0)] rfl <| lx_nil <| A_cond (r23.1 != 0) rfl (fun hc28 => ?_) (fun hc28 => ?_)
  ·replace hM := ifp (bne_iff_ne.1 hc28) hM
   refine A_sr <| r_V (vB false) rfl <| lx_nil ?_
   obtain rfl := Option.some.inj hM
   refine A_ret (fun hn => endsV (v0 := vB false) rfl (res1 rfl))
  replace hM := ifn (bne_f hc28) hM
  refine A_skip <| hK21 _ _ ?_; try clear hK21 K21
  refine A_seq fun K30 hK30 => A_sr <| r_V (vI 0) rfl <| lx_nil <| A_block <| A_forget _ (Sub.pick [(kLExactKeeps31_0 b2 key_0 (hi key_1) (lo key_1)), (kLExactKeeps53_1 b20 s17 r23.2.2.1 r23.2.2.2), S26] [0, 1, 2] rfl) <| A_loop (fun tt ll nn => ∃ (n32 : Nat) (i2_ : Int) (s4_ : List (Int × BitVec 128 × Int)) (m3__1 : Int) (m3__2 : Int), (shunterlaw19_ExactKeeps_l5 N ops key_0 key_1 n n32 i2_ s4_ m3__1 m3__2 = some r) ∧ ∃ (Ss4_ : List Bl), Sl 40 enc_40 s17 s4_ Ss4_ ∧ Is [(0, opsv), (2, vI n), (4, vP b2 0), (7, vP b20 0), (8, vI i2_)] (List.flatten [(kLExactKeeps31_0 b2 key_0 (hi key_1) (lo key_1)), (kLExactKeeps53_1 b20 s17 m3__1 m3__2), Ss4_]) tt ll ∧ nn = n32 + 1) (N + 1) ?_ ?_
  ·exact ⟨N, 0, r23.2.1, r23.2.2.1, r23.2.2.2, hM, S26, H27, is_mk rfl rfl, rfl⟩
  clear hM; rintro t l _ ⟨n32, i2_, s4_, m3__1, m3__2, hM, Ss4_, hs4_, ⟨⟨T, rfl⟩, rfl⟩, rfl⟩
  rcases n32 with _ | n32
  ·exact absurd hM (by simp [shunterlaw19_ExactKeeps_l5])
  rw [shunterlaw19_ExactKeeps_l5] at hM
  refine A_seq fun K33 hK33 => A_sr <| r_R [vI i2_, opsv] rfl <| r_W (vI ((ops).length : Int)) rfl (ev_lenSl rfl rfl rfl (Rd.shp hops)) <| r_V (vB (decide (i2_ < ((ops).length : Int)))) rfl <| lx_nil <| A_cond (decide (i2_ < ((ops).length : Int))) rfl (fun hc35 => ?_) (fun hc35 => ?_)
  ·replace hM := ifp (of_decide_eq_true hc35) hM
   refine A_skip <| hK33 _ _ ?_; try clear hK33 K33
   refine A_seq fun K36 hK36 => A_block <| A_seq fun K37 hK37 => A_seq fun K38 hK38 => A_draw [] (by decide +kernel) (fun hn => sep_nil) <| r_R [opsv, vI i2_] rfl ?_
   obtain ⟨ck39, hM⟩ := ck_some hM
   refine r_W (elA opsv ((i2_).toNat * 5)) rfl (ev_v (ev_idxSl rfl rfl rfl (Rd.shp hops) ck39)) <| r_W (elA opsv ((i2_).toNat * 5 + 2)) rfl (ev_v (ev_fieldX rfl rfl rfl rfl rfl rfl (Rd.shp hops) (pos_of ck39))) <| r_le (vA #[vI (((ops)[(i2_).toNat]!).2.2.1), U (hi (((ops)[(i2_).toNat]!).2.2.2)), U (lo (((ops)[(i2_).toNat]!).2.2.2))]) (En := enc_33) ((ops)[(i2_).toNat]!) ((i2_).toNat) 2 rfl rfl (rd_ro hops) (get_of ck39) rfl <| r_l (vA #[vI key_0, U (hi key_1), U (lo key_1)]) 0 _ _ _ _ rfl rfl rfl rfl rfl ?_
   refine r_W (vB (((((ops)[(i2_).toNat]!).2.2.1) == key_0) && ((((ops)[(i2_).toNat]!).2.2.2) == key_1))) rfl (ev_binEq rfl rfl eg_31 (eqst_31 (((ops)[(i2_).toNat]!).2.2.1) key_0 (((ops)[(i2_).toNat]!).2.2.2) key_1)) <| lx_nil <| hK38 _ _ ?_; try clear hK38 K38
   refine A_cond (((((ops)[(i2_).toNat]!).2.2.1) == key_0) && ((((ops)[(i2_).toNat]!).2.2.2) == key_1)) rfl (fun hc40 => ?_) (fun hc40 => ?_)
   ·replace hM := ifp hc40 hM
    refine A_exit <| hK36 _ _ ?_; try clear hK36 K36
    refine A_reg <| r_V (vI i2_) rfl ?_
    obtain ⟨ck41, hM⟩ := ck_some hM
    refine r_X (vI (i2_ + 1)) rfl (wi64 rfl ck41.1 ck41.2) rfl <| r_V (vI (i2_ + 1)) rfl <| lx_nil <| fg _ (Sub.pick [(kLExactKeeps31_0 b2 key_0 (hi key_1) (lo key_1)), (kLExactKeeps53_1 b20 s17 m3__1 m3__2), Ss4_] [0, 1, 2] rfl) ?_
    exact ⟨n32 + 1, by omega, n32, (i2_ + 1), s4_, m3__1, m3__2, hM, Ss4_, hs4_, is_mk rfl rfl, rfl⟩
   replace hM := ifn (Bool.eq_false_iff.1 hc40) hM
   refine A_skip <| hK37 _ _ ?_; try clear hK37 K37
   refine A_cut (fun tt ll => ∃ (s7_ : List (Int × BitVec 128 × Int)) (m6__1 : Int) (m6__2 : Int), (shunterlaw19_ExactKeeps_k8 N key_0 key_1 n i2_ (shunterlaw19_ExactKeeps_l5 N ops key_0 key_1 n n32) s7_ m6__1 m6__2 = some r) ∧ ∃ (Ss7_ : List Bl), Sl 40 enc_40 s17 s7_ Ss7_ ∧ Is [(0, opsv), (2, vI n), (4, vP b2 0), (7, vP b20 0), (8, vI i2_)] (List.flatten [(kLExactKeeps31_0 b2 key_0 (hi key_1) (lo key_1)), (kLExactKeeps53_1 b20 s17 m6__1 m6__2), Ss7_]) tt ll) ?_ ?_
   ·refine A_sr <| r_R [opsv, vI i2_] rfl ?_
    obtain ⟨ck52, hM⟩ := ck_some hM
    refine r_W (elA opsv ((i2_).toNat * 5)) rfl (ev_v (ev_idxSl rfl rfl rfl (Rd.shp hops) ck52)) <| r_W (elA opsv ((i2_).toNat * 5 + 0)) rfl (ev_v (ev_fieldX rfl rfl rfl rfl rfl rfl (Rd.shp hops) (pos_of ck52))) <| r_le (vI (((ops)[(i2_).toNat]!).1)) (En := enc_33) ((ops)[(i2_).toNat]!) ((i2_).toNat) 0 rfl rfl (rd_ro hops) (get_of ck52) rfl <| lx_nil <| A_block <| A_sr <| r_R [vB (((((ops)[(i2_).toNat]!).1 : Int) == 0)), vB (((((ops)[(i2_).toNat]!).1 : Int) == 0))] rfl <| lx_nil <| A_cond (((((ops)[(i2_).toNat]!).1 : Int) == 0)) rfl (fun hc54 => ?_) (fun hc54 => ?_)
    ·replace hM := ifp (eq_of_beq hc54) hM
     refine A_drawR [(some 70, true)] (conG Try.prog [(70, fun _ _ v_ L_ U_ => ∀ u0_, exact_Map_Put_v1_m N s4_ m3__1 m3__2 (((ops)[(i2_).toNat]!).2.2.1) (((ops)[(i2_).toNat]!).2.2.2) (((ops)[(i2_).toNat]!).2.1) = some u0_ → (pO (List.flatten [(kLExactKeeps53_1 b20 s17 m3__1 m3__2), Ss4_]) (oI 40 enc_40 s17 u0_.2.1 (oE (vI u0_.1) [(kLExactKeeps53_1 b20 s17 u0_.2.2.1 u0_.2.2.2)]))) v_ L_ U_)]) [] (by decide +kernel) (fun hn => sep_nil) <| r_R [vP b20 0, opsv, vI i2_] rfl ?_
     obtain ⟨ck55, hM⟩ := ck_some hM
     refine r_W (elA opsv ((i2_).toNat * 5)) rfl (ev_v (ev_idxSl rfl rfl rfl (Rd.shp hops) ck55)) <| r_W (elA opsv ((i2_).toNat * 5 + 2)) rfl (ev_v (ev_fieldX rfl rfl rfl rfl rfl rfl (Rd.shp hops) (pos_of ck55))) <| r_le (vA #[vI (((ops)[(i2_).toNat]!).2.2.1), U (hi (((ops)[(i2_).toNat]!).2.2.2)), U (lo (((ops)[(i2_).toNat]!).2.2.2))]) (En := enc_33) ((ops)[(i2_).toNat]!) ((i2_).toNat) 2 rfl rfl (rd_ro hops) (get_of ck55) rfl <| r_R [opsv, vI i2_] rfl ?_
     obtain ⟨ck56, hM⟩ := ck_some hM
     refine r_W (elA opsv ((i2_).toNat * 5)) rfl (ev_v (ev_idxSl rfl rfl rfl (Rd.shp hops) ck56)) <| r_W (elA opsv ((i2_).toNat * 5 + 1)) rfl (ev_v (ev_fieldX rfl rfl rfl rfl rfl rfl (Rd.shp hops) (pos_of ck56))) <| r_le (vI (((ops)[(i2_).toNat]!).2.1)) (En := enc_33) ((ops)[(i2_).toNat]!) ((i2_).toNat) 1 rfl rfl (rd_ro hops) (get_of ck56) rfl ?_
     obtain ⟨r57, hr58, hM⟩ := bind_sm hM
     obtain ⟨ck59, hM⟩ := ck_some hM
     refine r_gm (Ls := [(kLExactKeeps31_0 b2 key_0 (hi key_1) (lo key_1)), (kLExactKeeps53_1 b20 s17 m3__1 m3__2), Ss4_]) (FL := [(kLExactKeeps53_1 b20 s17 m3__1 m3__2), Ss4_]) [1, 2] _ (some 70) 16 _ rfl rfl rfl rfl rfl (ev_callF rfl call_16 rfl) (fun own_ nw_ hn_ hs_ => exact_Map_Put_v1_g N s4_ m3__1 m3__2 (((ops)[(i2_).toNat]!).2.2.1) (((ops)[(i2_).toNat]!).2.2.2) (((ops)[(i2_).toNat]!).2.1) _ hr58 _ b20 s17 Ss4_ hs4_) (conE hr58) (fun _ => (NiceO.sub (R := (Ss4_ ++ ((kLExactKeeps53_1 b20 s17 m3__1 m3__2) ++ []))) (niceI hs4_ ck59 (niceE rfl)) (Sub.pick [(kLExactKeeps53_1 b20 s17 m3__1 m3__2), Ss4_] [1, 0] rfl))) ?_
     rintro _ _ ⟨S60, _, H61, ⟨rfl, rfl⟩, rfl⟩
     refine lx_perm (Ls := [(kLExactKeeps31_0 b2 key_0 (hi key_1) (lo key_1)), S60, (kLExactKeeps53_1 b20 s17 r57.2.2.1 r57.2.2.2)]) (Ls' := [(kLExactKeeps31_0 b2 key_0 (hi key_1) (lo key_1)), (kLExactKeeps53_1 b20 s17 r57.2.2.1 r57.2.2.2), S60]) [0, 2, 1] rfl rfl <| lx_nil <| fg _ (Sub.pick [(kLExactKeeps31_0 b2 key_0 (hi key_1) (lo key_1)), (kLExactKeeps53_1 b20 s17 r57.2.2.1 r57.2.2.2), S60] [0, 1, 2] rfl) ?_
     exact ⟨r57.2.1, r57.2.2.1, r57.2.2.2, hM, S60, H61, is_mk rfl rfl⟩
    replace hM := ifn (ne_of_beq_false hc54) hM
    refine A_sr <| r_R [vB (((((ops)[(i2_).toNat]!).1 : Int) == 1)), vB (((((ops)[(i2_).toNat]!).1 : Int) == 1))] rfl <| lx_nil <| A_cond (((((ops)[(i2_).toNat]!).1 : Int) == 1)) rfl (fun hc63 => ?_) (fun hc63 => ?_)
    ·replace hM := ifp (eq_of_beq hc63) hM
     refine A_drawR [(some 84, true)] (conG Try.prog [(84, fun _ _ v_ L_ U_ => ∀ u0_, exact_Map_Set_v1_m N s4_ m3__1 m3__2 (((ops)[(i2_).toNat]!).2.2.1) (((ops)[(i2_).toNat]!).2.2.2) (((ops)[(i2_).toNat]!).2.1) = some u0_ → (pO (List.flatten [(kLExactKeeps53_1 b20 s17 m3__1 m3__2), Ss4_]) (oI 40 enc_40 s17 u0_.2.1 (oE (vI u0_.1) [(kLExactKeeps53_1 b20 s17 u0_.2.2.1 u0_.2.2.2)]))) v_ L_ U_)]) [] (by decide +kernel) (fun hn => sep_nil) <| r_R [vP b20 0, opsv, vI i2_] rfl ?_
     obtain ⟨ck64, hM⟩ := ck_some hM
     refine r_W (elA opsv ((i2_).toNat * 5)) rfl (ev_v (ev_idxSl rfl rfl rfl (Rd.shp hops) ck64)) <| r_W (elA opsv ((i2_).toNat * 5 + 2)) rfl (ev_v (ev_fieldX rfl rfl rfl rfl rfl rfl (Rd.shp hops) (pos_of ck64))) <| r_le (vA #[vI (((ops)[(i2_).toNat]!).2.2.1), U (hi (((ops)[(i2_).toNat]!).2.2.2)), U (lo (((ops)[(i2_).toNat]!).2.2.2))]) (En := enc_33) ((ops)[(i2_).toNat]!) ((i2_).toNat) 2 rfl rfl (rd_ro hops) (get_of ck64) rfl <| r_R [opsv, vI i2_] rfl ?_
     obtain ⟨ck65, hM⟩ := ck_some hM
     refine r_W (elA opsv ((i2_).toNat * 5)) rfl (ev_v (ev_idxSl rfl rfl rfl (Rd.shp hops) ck65)) <| r_W (elA opsv ((i2_).toNat * 5 + 1)) rfl (ev_v (ev_fieldX rfl rfl rfl rfl rfl rfl (Rd.shp hops) (pos_of ck65))) <| r_le (vI (((ops)[(i2_).toNat]!).2.1)) (En := enc_33) ((ops)[(i2_).toNat]!) ((i2_).toNat) 1 rfl rfl (rd_ro hops) (get_of ck65) rfl ?_
     obtain ⟨r66, hr67, hM⟩ := bind_sm hM
     obtain ⟨ck68, hM⟩ := ck_some hM
     refine r_gm (Ls := [(kLExactKeeps31_0 b2 key_0 (hi key_1) (lo key_1)), (kLExactKeeps53_1 b20 s17 m3__1 m3__2), Ss4_]) (FL := [(kLExactKeeps53_1 b20 s17 m3__1 m3__2), Ss4_]) [1, 2] _ (some 84) 17 _ rfl rfl rfl rfl rfl (ev_callF rfl call_17 rfl) (fun own_ nw_ hn_ hs_ => exact_Map_Set_v1_g N s4_ m3__1 m3__2 (((ops)[(i2_).toNat]!).2.2.1) (((ops)[(i2_).toNat]!).2.2.2) (((ops)[(i2_).toNat]!).2.1) _ hr67 _ b20 s17 Ss4_ hs4_) (conE hr67) (fun _ => (NiceO.sub (R := (Ss4_ ++ ((kLExactKeeps53_1 b20 s17 m3__1 m3__2) ++ []))) (niceI hs4_ ck68 (niceE rfl)) (Sub.pick [(kLExactKeeps53_1 b20 s17 m3__1 m3__2), Ss4_] [1, 0] rfl))) ?_
     rintro _ _ ⟨S69, _, H70, ⟨rfl, rfl⟩, rfl⟩
     refine lx_perm (Ls := [(kLExactKeeps31_0 b2 key_0 (hi key_1) (lo key_1)), S69, (kLExactKeeps53_1 b20 s17 r66.2.2.1 r66.2.2.2)]) (Ls' := [(kLExactKeeps31_0 b2 key_0 (hi key_1) (lo key_1)), (kLExactKeeps53_1 b20 s17 r66.2.2.1 r66.2.2.2), S69]) [0, 2, 1] rfl rfl <| lx_nil <| fg _ (Sub.pick [(kLExactKeeps31_0 b2 key_0 (hi key_1) (lo key_1)), (kLExactKeeps53_1 b20 s17 r66.2.2.1 r66.2.2.2), S69] [0, 1, 2] rfl) ?_
     exact ⟨r66.2.1, r66.2.2.1, r66.2.2.2, hM, S69, H70, is_mk rfl rfl⟩
    replace hM := ifn (ne_of_beq_false hc63) hM
    refine A_reg <| r_R [vP b20 0, opsv, vI i2_] rfl ?_
    obtain ⟨ck71, hM⟩ := ck_some hM
    refine r_W (elA opsv ((i2_).toNat * 5)) rfl (ev_v (ev_idxSl rfl rfl rfl (Rd.shp hops) ck71)) <| r_W (elA opsv ((i2_).toNat * 5 + 2)) rfl (ev_v (ev_fieldX rfl rfl rfl rfl rfl rfl (Rd.shp hops) (pos_of ck71))) <| r_le (vA #[vI (((ops)[(i2_).toNat]!).2.2.1), U (hi (((ops)[(i2_).toNat]!).2.2.2)), U (lo (((ops)[(i2_).toNat]!).2.2.2))]) (En := enc_33) ((ops)[(i2_).toNat]!) ((i2_).toNat) 2 rfl rfl (rd_ro hops) (get_of ck71) rfl ?_
    obtain ⟨r72, hr73, hM⟩ := bind_sm hM
    obtain ⟨ck74, hM⟩ := ck_some hM
    refine cA 56 <| r_gm (Ls := [(kLExactKeeps31_0 b2 key_0 (hi key_1) (lo key_1)), (kLExactKeeps53_1 b20 s17 m3__1 m3__2), Ss4_]) (FL := [(kLExactKeeps53_1 b20 s17 m3__1 m3__2), Ss4_]) [1, 2] _ (some 56) 18 _ rfl rfl rfl rfl rfl (ev_callF rfl call_18 rfl) (fun own_ nw_ hn_ hs_ => exact_Map_Drop_v1_g N s4_ m3__1 m3__2 (((ops)[(i2_).toNat]!).2.2.1) (((ops)[(i2_).toNat]!).2.2.2) _ hr73 _ b20 s17 Ss4_ hs4_) (fun _ _ _ _ _ => Iff.rfl) (fun h_ => nomatch h_) ?_
    rintro _ _ ⟨S75, _, H76, ⟨rfl, rfl⟩, rfl⟩
    refine lx_perm (Ls := [(kLExactKeeps31_0 b2 key_0 (hi key_1) (lo key_1)), S75, (kLExactKeeps53_1 b20 s17 r72.2.2.1 r72.2.2.2)]) (Ls' := [(kLExactKeeps31_0 b2 key_0 (hi key_1) (lo key_1)), (kLExactKeeps53_1 b20 s17 r72.2.2.1 r72.2.2.2), S75]) [0, 2, 1] rfl rfl <| lx_nil <| fg _ (Sub.pick [(kLExactKeeps31_0 b2 key_0 (hi key_1) (lo key_1)), (kLExactKeeps53_1 b20 s17 r72.2.2.1 r72.2.2.2), S75] [0, 1, 2] rfl) ?_
    exact ⟨r72.2.1, r72.2.2.1, r72.2.2.2, hM, S75, H76, is_mk rfl rfl⟩
   clear hM; rintro t l ⟨s7_, m6__1, m6__2, hM, Ss7_, hs7_, ⟨T, rfl⟩, rfl⟩
   unfold shunterlaw19_ExactKeeps_k8 at hM
   refine A_sr <| r_V (vP b20 0) rfl <| r_l (vA #[vI key_0, U (hi key_1), U (lo key_1)]) 0 _ _ _ _ rfl rfl rfl rfl rfl ?_
   obtain ⟨r43, hr44, hM⟩ := bind_sm hM
   refine cB 88 <| r_gv (vT #[vI r43.1, vB r43.2]) 19 _ rfl rfl rfl (ev_callF rfl call_19 rfl) (fun own_ nw_ hs_ => exact_Map_Get_v1_g N s7_ m6__1 m6__2 key_0 key_1 _ hr44 hs_.view b20 s17 ((rd_own hs7_ (mem_chunk (Ls := [(kLExactKeeps31_0 b2 key_0 (hi key_1) (lo key_1)), (kLExactKeeps53_1 b20 s17 m6__1 m6__2), Ss7_]) (k := 2) rfl rfl)) own_ nw_ hs_) (blk_own 1 rfl rfl own_ nw_ hs_)) (fun _ _ _ _ _ => Iff.rfl) <| r_R [vT #[vI r43.1, vB r43.2], vI r43.1, vB r43.2, vI r43.1, vB r43.2] rfl <| lx_nil <| A_seq fun K45 hK45 => A_reg <| r_R [vI r43.1, vI n, vB (r43.1 != n), vB (r43.1 != n)] rfl ?_
   refine lx_jn 3 97 [(0, opsv), (2, vI n), (4, vP b2 0), (7, vP b20 0), (8, vI i2_)] vB (fun b_ => shunterlaw19_ExactKeeps_k9 i2_ (shunterlaw19_ExactKeeps_l5 N ops key_0 key_1 n n32) s7_ m6__1 m6__2 b_ = some r) (fun b46 hM T => ?_) (fun HJ => ?_)
   ·unfold shunterlaw19_ExactKeeps_k9 at hM
    refine lx_nil <| hK45 _ _ ?_; try clear hK45 K45
    refine A_cond b46 rfl (fun hc47 => ?_) (fun hc47 => ?_)
    ·replace hM := ifp hc47 hM
     refine A_sr <| r_V (vB false) rfl <| lx_nil ?_
     obtain rfl := Option.some.inj hM
     refine A_ret (fun hn => endsV (v0 := vB false) rfl (res1 rfl))
    replace hM := ifn (Bool.eq_false_iff.1 hc47) hM
    refine A_skip <| hK36 _ _ ?_; try clear hK36 K36
    refine A_reg <| r_V (vI i2_) rfl ?_
    obtain ⟨ck49, hM⟩ := ck_some hM
    refine r_X (vI (i2_ + 1)) rfl (wi64 rfl ck49.1 ck49.2) rfl <| r_V (vI (i2_ + 1)) rfl <| lx_nil <| fg _ (Sub.pick [(kLExactKeeps31_0 b2 key_0 (hi key_1) (lo key_1)), (kLExactKeeps53_1 b20 s17 m6__1 m6__2), Ss7_] [0, 1, 2] rfl) ?_
    exact ⟨n32 + 1, by omega, n32, (i2_ + 1), s7_, m6__1, m6__2, hM, Ss7_, hs7_, is_mk rfl rfl, rfl⟩
   rcases hg50 : (r43.1 != n) with _ | _
   ·replace hM := ifn (bne_f hg50) hM
    refine r_R [vB r43.2, vB (!(r43.2)), vB (!(r43.2))] rfl ?_
    first | exact HJ _ _ hM rfl rfl | exact lx_cn _ _ (HJ _ _ hM rfl rfl)
   replace hM := ifp (bne_iff_ne.1 hg50) hM
   refine r_R [none, none, vB true] rfl ?_
   first | exact HJ _ _ hM rfl rfl | exact lx_cn _ _ (HJ _ _ hM rfl rfl)
  replace hM := ifn (of_decide_eq_false hc35) hM
  refine A_exit <| hK30 _ _ ?_; try clear hK30 K30
  refine A_seq fun K77 hK77 => A_sr <| r_V (vP b20 0) rfl <| r_l (vA #[vI key_0, U (hi key_1), U (lo key_1)]) 0 _ _ _ _ rfl rfl rfl rfl rfl ?_
  obtain ⟨r79, hr80, hM⟩ := bind_sm hM
  obtain ⟨ck81, hM⟩ := ck_some hM
  refine cA 100 <| r_gm (Ls := [(kLExactKeeps31_0 b2 key_0 (hi key_1) (lo key_1)), (kLExactKeeps53_1 b20 s17 m3__1 m3__2), Ss4_]) (FL := [(kLExactKeeps53_1 b20 s17 m3__1 m3__2), Ss4_]) [1, 2] _ (some 100) 18 _ rfl rfl rfl rfl rfl (ev_callF rfl call_18 rfl) (fun own_ nw_ hn_ hs_ => exact_Map_Drop_v1_g N s4_ m3__1 m3__2 key_0 key_1 _ hr80 _ b20 s17 Ss4_ hs4_) (fun _ _ _ _ _ => Iff.rfl) (fun h_ => nomatch h_) ?_
  rintro _ _ ⟨S82, _, H83, ⟨rfl, rfl⟩, rfl⟩
  refine lx_perm (Ls := [(kLExactKeeps31_0 b2 key_0 (hi key_1) (lo key_1)), S82, (kLExactKeeps53_1 b20 s17 r79.2.2.1 r79.2.2.2)]) (Ls' := [(kLExactKeeps31_0 b2 key_0 (hi key_1) (lo key_1)), (kLExactKeeps53_1 b20 s17 r79.2.2.1 r79.2.2.2), S82]) [0, 2, 1] rfl rfl <| r_V (vB (r79.1 != 0)) rfl <| lx_nil <| A_cond (r79.1 != 0) rfl (fun hc84 => ?_) (fun hc84 => ?_)
  ·replace hM := ifp (bne_iff_ne.1 hc84) hM
   refine A_sr <| r_V (vB false) rfl <| lx_nil ?_
   obtain rfl := Option.some.inj hM
   refine A_ret (fun hn => endsV (v0 := vB false) rfl (res1 rfl))
  replace hM := ifn (bne_f hc84) hM
  refine A_skip <| hK77 _ _ ?_; try clear hK77 K77
  refine A_sr <| r_V (vP b20 0) rfl <| r_l (vA #[vI key_0, U (hi key_1), U (lo key_1)]) 0 _ _ _ _ rfl rfl rfl rfl rfl ?_
  obtain ⟨r87, hr88, hM⟩ := bind_sm hM
  refine cB 105 <| r_gv (vT #[vI r87.1, vB r87.2]) 19 _ rfl rfl rfl (ev_callF rfl call_19 rfl) (fun own_ nw_ hs_ => exact_Map_Get_v1_g N r79.2.1 r79.2.2.1 r79.2.2.2 key_0 key_1 _ hr88 hs_.view b20 s17 ((rd_own H83 (mem_chunk (Ls := [(kLExactKeeps31_0 b2 key_0 (hi key_1) (lo key_1)), (kLExactKeeps53_1 b20 s17 r79.2.2.1 r79.2.2.2), S82]) (k := 2) rfl rfl)) own_ nw_ hs_) (blk_own 1 rfl rfl own_ nw_ hs_)) (fun _ _ _ _ _ => Iff.rfl) <| r_R [vT #[vI r87.1, vB r87.2], vI r87.1, vB r87.2, vI r87.1, vB r87.2] rfl <| lx_nil <| A_seq fun K89 hK89 => A_reg <| r_R [vI r87.1, vB (r87.1 == 0), vB (r87.1 == 0)] rfl ?_
  refine lx_jn 3 113 [(4, vP b2 0), (7, vP b20 0)] vB (fun b_ => shunterlaw19_ExactKeeps_k10 N key_0 key_1 r79 b_ = some r) (fun b90 hM T => ?_) (fun HJ => ?_)
  ·unfold shunterlaw19_ExactKeeps_k10 at hM
   refine r_V (vB b90) rfl ?_
   rcases hg91 : b90 with _ | _
   ·replace hM := ifn (Bool.eq_false_iff.1 hg91) hM
    refine r_R [none, none, none, none, vB false, vB false, none, vB false, vB false] rfl <| lx_nil <| hK89 _ _ ?_; try clear hK89 K89
    obtain rfl := Option.some.inj hM
    refine A_ret (fun hn => endsV (v0 := vB false) rfl (res1 rfl))
   replace hM := ifp hg91 hM
   refine r_R [vP b20 0] rfl <| r_y rfl <| r_l (vA #[vI key_0, U (hi key_1), U (lo key_1)]) 0 _ _ _ _ rfl rfl rfl rfl rfl <| r_y rfl ?_
   obtain ⟨r92, hr93, hM⟩ := bind_sm hM
   obtain ⟨ck94, hM⟩ := ck_some hM
   refine cA 117 <| r_gm (Ls := [(kLExactKeeps31_0 b2 key_0 (hi key_1) (lo key_1)), (kLExactKeeps53_1 b20 s17 r79.2.2.1 r79.2.2.2), S82]) (FL := [(kLExactKeeps53_1 b20 s17 r79.2.2.1 r79.2.2.2), S82]) [1, 2] _ (some 117) 18 _ rfl rfl rfl rfl rfl (ev_callF rfl call_18 rfl) (fun own_ nw_ hn_ hs_ => exact_Map_Drop_v1_g N r79.2.1 r79.2.2.1 r79.2.2.2 key_0 key_1 _ hr93 _ b20 s17 S82 H83) (fun _ _ _ _ _ => Iff.rfl) (fun h_ => nomatch h_) ?_
   rintro _ _ ⟨S95, _, H96, ⟨rfl, rfl⟩, rfl⟩
   refine lx_perm (Ls := [(kLExactKeeps31_0 b2 key_0 (hi key_1) (lo key_1)), S95, (kLExactKeeps53_1 b20 s17 r92.2.2.1 r92.2.2.2)]) (Ls' := [(kLExactKeeps31_0 b2 key_0 (hi key_1) (lo key_1)), (kLExactKeeps53_1 b20 s17 r92.2.2.1 r92.2.2.2), S95]) [0, 2, 1] rfl rfl <| r_R [vB (r92.1 == 5), vB (r92.1 == 5), vB (r92.1 == 5)] rfl ?_
   rcases hg97 : (r92.1 == 5) with _ | _
   ·replace hM := ifn (ne_of_beq_false hg97) hM
    refine r_R [none, vB false, vB false] rfl <| lx_nil <| hK89 _ _ ?_; try clear hK89 K89
    obtain rfl := Option.some.inj hM
    refine A_ret (fun hn => endsV (v0 := vB false) rfl (res1 rfl))
   replace hM := ifp (eq_of_beq hg97) hM
   refine r_y rfl ?_
   obtain ⟨r98, hr99, hM⟩ := bind_sm hM
   refine r_c (vB r98) rfl _ _ (ev_callF rfl call_8 rfl) (shunterlaw19_lives_g N  _ hr99) <| r_R [vB r98, vB r98] rfl <| lx_nil <| hK89 _ _ ?_; try clear hK89 K89
   obtain rfl := Option.some.inj hM
   refine A_ret (fun hn => endsV (v0 := vB r98) rfl (res1 rfl))
  rcases hg100 : (r87.1 == 0) with _ | _
  ·replace hM := ifn (ne_of_beq_false hg100) hM
   refine r_R [none, none, vB false] rfl ?_
   first | exact HJ _ _ hM rfl rfl | exact lx_cn _ _ (HJ _ _ hM rfl rfl)
  replace hM := ifp (eq_of_beq hg100) hM
  refine r_R [vB r87.2, vB (!(r87.2)), vB (!(r87.2))] rfl ?_
  first | exact HJ _ _ hM rfl rfl | exact lx_cn _ _ (HJ _ _ hM rfl rfl)
 rcases hg101 : (decide ((((ops).length : Int) : Int) > 600)) with _ | _
 ·replace hM := ifn (of_decide_eq_false hg101) hM
  refine r_y rfl <| r_l (vA #[vI key_0, U (hi key_1), U (lo key_1)]) 0 _ _ _ _ rfl rfl rfl rfl rfl <| r_y rfl ?_
  obtain ⟨r102, hr103, hM⟩ := bind_sm hM
  refine r_c (vB r102) rfl _ _ (ev_callF rfl call_15 rfl) (shunterref02_May_g N key_0 key_1 _ hr103) <| r_R [vB (!(r102)), vB (!(r102))] rfl ?_
  first | exact HJ _ _ hM rfl rfl | exact lx_cn _ _ (HJ _ _ hM rfl rfl)
 replace hM := ifp (of_decide_eq_true hg101) hM
 refine r_R [none, none, none, vB true] rfl ?_
 first | exact HJ _ _ hM rfl rfl | exact lx_cn _ _ (HJ _ _ hM rfl rfl)
end Go.Proofs.Ytnpbpllibmcokaa
