/- models of functions and their walks -/
import Derived.Test.YtdmakhnmfnkcmaaBc
namespace Go.Proofs.Ytdmakhnmfnkcmaa
open Go Go.RowKit Go.Eng
abbrev kLShapeOffsets24_0 (b : Nat) (x0 : List UInt8) (x1 : Value) (x2 : Int) (x3 : Int) (x4 : Int) (x5 : Int) : List Bl := [(b, 24, #[vS x0, x1, vI x2, vI x3, vI x4, vI x5])]
def shunterlaw08_ShapeOffsets_v1_k5 (h_1 : List (List UInt8 × Int)) (n2_ : Int) (i3_ : Int) (rec_shunterlaw08_ShapeOffsets_v1_l4 : Int → Int → Option Bool) : Option Bool := ck (0 ≤ i3_ ∧ i3_ < ((h_1).length : Int)) (ck ((-9223372036854775808 ≤ (n2_ + ((h_1)[(i3_).toNat]!).2) ∧ (n2_ + ((h_1)[(i3_).toNat]!).2) ≤ 9223372036854775807)) (ck (-9223372036854775808 ≤ (i3_ + 1) ∧ (i3_ + 1) ≤ 9223372036854775807) (rec_shunterlaw08_ShapeOffsets_v1_l4 (n2_ + ((h_1)[(i3_).toNat]!).2) (i3_ + 1))))
def shunterlaw08_ShapeOffsets_v1_l4 (N : Nat) (h_0 : List UInt8) (h_1 : List (List UInt8 × Int)) (h_2 : Int) (h_3 : Int) (h_4 : Int) (h_5 : Int) : Nat → Int → Int → Option Bool
  | 0, _, _ => none
  | n6 + 1, n2_, i3_ => if i3_ < ((h_1).length : Int) then (shape_Offset_v1_m N h_0 h_1 h_2 h_3 h_4 h_5 i3_).bind fun r12 => if (r12.1 : Int) ≠ n2_ then some false else if r12.2 = true then shunterlaw08_ShapeOffsets_v1_k5 h_1 n2_ i3_ (shunterlaw08_ShapeOffsets_v1_l4 N h_0 h_1 h_2 h_3 h_4 h_5 n6)  else some false else (shape_Bits_v1_m N h_0 h_1 h_2 h_3 h_4 h_5).bind fun r23 => if n2_ = r23 then (shape_Bytes_v1_m N h_0 h_1 h_2 h_3 h_4 h_5).bind fun r26 => ck (-9223372036854775808 ≤ (8 * r26) ∧ (8 * r26) ≤ 9223372036854775807) (if n2_ = (8 * r26) then (shape_Most_v1_m N h_0 h_1 h_2 h_3 h_4 h_5).bind fun r30 => (shape_Bytes_v1_m N h_0 h_1 h_2 h_3 h_4 h_5).bind fun r32 => if r30 ≥ r32 then (shape_Most_v1_m N h_0 h_1 h_2 h_3 h_4 h_5).bind fun r35 => if r35 ≤ 320 then (shunterlaw08_lives_m N ).bind fun r38 => some r38 else some false else some false else some false) else some false
def shunterlaw08_ShapeOffsets_v1_k1 (N : Nat) (h_0 : List UInt8) (h_1 : List (List UInt8 × Int)) (h_2 : Int) (h_3 : Int) (h_4 : Int) (h_5 : Int) : Option Bool := shunterlaw08_ShapeOffsets_v1_l4 N h_0 h_1 h_2 h_3 h_4 h_5 N 0 0
def shunterlaw08_ShapeOffsets_v1_m (N : Nat) (h_0 : List UInt8) (h_1 : List (List UInt8 × Int)) (h_2 : Int) (h_3 : Int) (h_4 : Int) (h_5 : Int) : Option Bool := (shunterlaw08_light_v1_m N h_0 h_1 h_2 h_3 h_4 h_5).bind fun r41 => if r41 = true then (shape_May_v1_m N h_0 h_1 h_2 h_3 h_4 h_5).bind fun r44 => if (r44 : Int) ≠ 0 then (shunterlaw08_lives_m N ).bind fun r48 => some r48 else shunterlaw08_ShapeOffsets_v1_k1 N h_0 h_1 h_2 h_3 h_4 h_5  else (shunterlaw08_lives_m N ).bind fun r51 => some r51
set_option maxRecDepth 100000 in
set_option maxHeartbeats 8000000 in
theorem shunterlaw08_ShapeOffsets_v1_g (N : Nat) (h_0 : List UInt8) (h_1 : List (List UInt8 × Int)) (h_2 : Int) (h_3 : Int) (h_4 : Int) (h_5 : Int) (r) (hM : shunterlaw08_ShapeOffsets_v1_m N h_0 h_1 h_2 h_3 h_4 h_5 = some r) (ro : Addr → Option Value) (h_1v : Value) (hh_1 : Rd enc_52 ro h_1v h_1) : Does Try.prog 6 #[vA #[vS h_0, h_1v, vI h_2, vI h_3, vI h_4, vI h_5]] ro [] (pV (vB r)) := by
 unfold shunterlaw08_ShapeOffsets_v1_m at hM
 refine does_of_A follows Try.func6 rfl 70 rfl (upd (fun _ => undef) 0 (vA #[vS h_0, h_1v, vI h_2, vI h_3, vI h_4, vI h_5])) (by funext k; match k with | 0 => rfl | k + 1 => rfl) (fun base0_ => ?_)
 refine A_sr <| r_a (24, #[vS h_0, h_1v, vI h_2, vI h_3, vI h_4, vI h_5]) rfl rfl rfl (fun b2 => ?_) (.inr rfl)
 refine r_V (vB false) rfl <| lx_nil <| A_cut (fun tt ll => (shunterlaw08_ShapeOffsets_v1_k1 N h_0 h_1 h_2 h_3 h_4 h_5  = some r) ∧ Is [(1, vP b2 0)] (kLShapeOffsets24_0 b2 h_0 h_1v h_2 h_3 h_4 h_5) tt ll) ?_ ?_
 ·refine A_seq fun K40 hK40 => A_regC [(some 8, false), (some 12, false)] (conG Try.prog [(8, fun _ _ v_ L_ U_ => ∀ u0_, shunterlaw08_light_v1_m N h_0 h_1 h_2 h_3 h_4 h_5 = some u0_ → (pV (vB u0_)) v_ L_ U_), (12, fun _ _ v_ L_ U_ => ∀ u0_, shape_May_v1_m N h_0 h_1 h_2 h_3 h_4 h_5 = some u0_ → (pV (vI u0_)) v_ L_ U_)]) <| r_l (vA #[vS h_0, h_1v, vI h_2, vI h_3, vI h_4, vI h_5]) 0 _ _ _ _ rfl rfl rfl rfl rfl ?_
  obtain ⟨r41, hr42, hM⟩ := bind_sm hM
  refine r_gv (vB r41) 7 _ rfl rfl rfl (ev_callF rfl call_7 rfl) (fun own_ nw_ hs_ => shunterlaw08_light_v1_g N h_0 h_1 h_2 h_3 h_4 h_5 _ hr42 hs_.view h_1v ((rd_ro hh_1) own_ nw_ hs_)) (conE hr42) <| r_R [vB (!(r41)), vB (!(r41))] rfl ?_
  rcases hg43 : (!(r41)) with _ | _
  ·replace hM := ifp (not_f hg43) hM
   refine r_y rfl <| r_l (vA #[vS h_0, h_1v, vI h_2, vI h_3, vI h_4, vI h_5]) 0 _ _ _ _ rfl rfl rfl rfl rfl <| r_y rfl ?_
   obtain ⟨r44, hr45, hM⟩ := bind_sm hM
   refine r_gv (vI r44) 22 _ rfl rfl rfl (ev_callF rfl call_22 rfl) (fun own_ nw_ hs_ => shape_May_v1_g N h_0 h_1 h_2 h_3 h_4 h_5 _ hr45 hs_.view h_1v ((rd_ro hh_1) own_ nw_ hs_)) (conE hr45) <| r_R [vB (r44 != 0), vB (r44 != 0)] rfl <| lx_nil <| hK40 _ _ ?_; try clear hK40 K40
   refine A_cond (r44 != 0) rfl (fun hc46 => ?_) (fun hc46 => ?_)
   ·replace hM := ifp (bne_iff_ne.1 hc46) hM
    refine A_sr ?_
    obtain ⟨r48, hr49, hM⟩ := bind_sm hM
    refine r_c (vB r48) rfl _ _ (ev_callF rfl call_8 rfl) (shunterlaw08_lives_g N  _ hr49) <| r_V (vB r48) rfl <| lx_nil ?_
    obtain rfl := Option.some.inj hM
    refine A_ret (fun hn => endsV (v0 := vB r48) rfl (res1 rfl))
   replace hM := ifn (bne_f hc46) hM
   refine A_skip <| fg _ (Sub.of (List.Sublist.cons_cons _ List.Sublist.slnil)) ?_
   exact ⟨hM, is_mk rfl rfl⟩
  replace hM := ifn (Bool.eq_false_iff.1 (not_t hg43)) hM
  refine r_R [none, none, none, vB true] rfl <| lx_nil <| hK40 _ _ ?_; try clear hK40 K40
  refine A_cond true rfl (fun _ => ?_) (fun h_ => nomatch h_)
  refine A_sr ?_
  obtain ⟨r51, hr52, hM⟩ := bind_sm hM
  refine r_c (vB r51) rfl _ _ (ev_callF rfl call_8 rfl) (shunterlaw08_lives_g N  _ hr52) <| r_V (vB r51) rfl <| lx_nil ?_
  obtain rfl := Option.some.inj hM
  refine A_ret (fun hn => endsV (v0 := vB r51) rfl (res1 rfl))
 clear hM; rintro t l ⟨hM, ⟨T, rfl⟩, rfl⟩
 unfold shunterlaw08_ShapeOffsets_v1_k1 at hM
 refine A_sr <| r_V (vI 0) rfl <| lx_nil <| A_seq fun K4 hK4 => A_sr <| r_V (vI 0) rfl <| lx_nil <| A_block <| A_loop (fun tt ll nn => ∃ (n6 : Nat) (n2_ : Int) (i3_ : Int), (shunterlaw08_ShapeOffsets_v1_l4 N h_0 h_1 h_2 h_3 h_4 h_5 n6 n2_ i3_ = some r) ∧ Is [(1, vP b2 0), (3, vI n2_), (4, vI i3_)] (kLShapeOffsets24_0 b2 h_0 h_1v h_2 h_3 h_4 h_5) tt ll ∧ nn = n6 + 1) (N + 1) ?_ ?_
 ·exact ⟨N, 0, 0, hM, is_mk rfl rfl, rfl⟩
 clear hM; rintro t l _ ⟨n6, n2_, i3_, hM, ⟨⟨T, rfl⟩, rfl⟩, rfl⟩
 rcases n6 with _ | n6
 ·exact absurd hM (by simp [shunterlaw08_ShapeOffsets_v1_l4])
 rw [shunterlaw08_ShapeOffsets_v1_l4] at hM
 refine A_seq fun K7 hK7 => A_sr <| r_R [vI i3_, vP b2 1] rfl <| r_l h_1v 0 _ _ _ _ rfl rfl rfl rfl rfl <| r_W (vI ((h_1).length : Int)) rfl (ev_lenSl rfl rfl rfl (Rd.shp hh_1)) <| r_V (vB (decide (i3_ < ((h_1).length : Int)))) rfl <| lx_nil <| A_cond (decide (i3_ < ((h_1).length : Int))) rfl (fun hc9 => ?_) (fun hc9 => ?_)
 ·replace hM := ifp (of_decide_eq_true hc9) hM
  refine A_skip <| hK7 _ _ ?_; try clear hK7 K7
  refine A_seq fun K10 hK10 => A_block <| A_sc [(some 26, false)] (conG Try.prog [(26, fun _ _ v_ L_ U_ => ∀ u0_, shape_Offset_v1_m N h_0 h_1 h_2 h_3 h_4 h_5 i3_ = some u0_ → (pV (vT #[vI u0_.1, vB u0_.2])) v_ L_ U_)]) <| r_l (vA #[vS h_0, h_1v, vI h_2, vI h_3, vI h_4, vI h_5]) 0 _ _ _ _ rfl rfl rfl rfl rfl <| r_V (vI i3_) rfl ?_
  obtain ⟨r12, hr13, hM⟩ := bind_sm hM
  refine r_gv (vT #[vI r12.1, vB r12.2]) 23 _ rfl rfl rfl (ev_callF rfl call_23 rfl) (fun own_ nw_ hs_ => shape_Offset_v1_g N h_0 h_1 h_2 h_3 h_4 h_5 i3_ _ hr13 hs_.view h_1v ((rd_ro hh_1) own_ nw_ hs_)) (conE hr13) <| r_R [vT #[vI r12.1, vB r12.2], vI r12.1, vB r12.2, vI r12.1, vB r12.2] rfl <| lx_nil <| A_cut (fun tt ll => (shunterlaw08_ShapeOffsets_v1_k5 h_1 n2_ i3_ (shunterlaw08_ShapeOffsets_v1_l4 N h_0 h_1 h_2 h_3 h_4 h_5 n6)  = some r) ∧ Is [(1, vP b2 0), (3, vI n2_), (4, vI i3_)] (kLShapeOffsets24_0 b2 h_0 h_1v h_2 h_3 h_4 h_5) tt ll) ?_ ?_
  ·refine A_seq fun K17 hK17 => A_reg <| r_R [vI r12.1, vI n2_, vB (r12.1 != n2_), vB (r12.1 != n2_)] rfl ?_
   rcases hg18 : (r12.1 != n2_) with _ | _
   ·replace hM := ifn (bne_f hg18) hM
    refine r_R [vB r12.2, vB (!(r12.2)), vB (!(r12.2))] rfl <| lx_nil <| hK17 _ _ ?_; try clear hK17 K17
    refine A_cond (!(r12.2)) rfl (fun hc19 => ?_) (fun hc19 => ?_)
    ·replace hM := ifn (Bool.eq_false_iff.1 (not_t hc19)) hM
     refine A_sr <| r_V (vB false) rfl <| lx_nil ?_
     obtain rfl := Option.some.inj hM
     refine A_ret (fun hn => endsV (v0 := vB false) rfl (res1 rfl))
    replace hM := ifp (not_f hc19) hM
    refine A_skip <| fg _ (Sub.of (List.Sublist.cons_cons _ List.Sublist.slnil)) ?_
    exact ⟨hM, is_mk rfl rfl⟩
   replace hM := ifp (bne_iff_ne.1 hg18) hM
   refine r_R [none, none, vB true] rfl <| lx_nil <| hK17 _ _ ?_; try clear hK17 K17
   refine A_cond true rfl (fun _ => ?_) (fun h_ => nomatch h_)
   refine A_sr <| r_V (vB false) rfl <| lx_nil ?_
   obtain rfl := Option.some.inj hM
   refine A_ret (fun hn => endsV (v0 := vB false) rfl (res1 rfl))
  clear hM; rintro t l ⟨hM, ⟨T, rfl⟩, rfl⟩
  unfold shunterlaw08_ShapeOffsets_v1_k5 at hM
  refine A_reg <| r_R [vI n2_, vP b2 1] rfl <| r_l h_1v 0 _ _ _ _ rfl rfl rfl rfl rfl <| r_V (vI i3_) rfl ?_
  obtain ⟨ck14, hM⟩ := ck_some hM
  refine r_W (elA h_1v ((i3_).toNat * 2)) rfl (ev_v (ev_idxSl rfl rfl rfl (Rd.shp hh_1) ck14)) <| r_W (elA h_1v ((i3_).toNat * 2 + 1)) rfl (ev_v (ev_fieldX rfl rfl rfl rfl rfl rfl (Rd.shp hh_1) (pos_of ck14))) <| r_le (vI (((h_1)[(i3_).toNat]!).2)) (En := enc_52) ((h_1)[(i3_).toNat]!) ((i3_).toNat) 1 rfl rfl (rd_ro hh_1) (get_of ck14) rfl ?_
  obtain ⟨ck15, hM⟩ := ck_some hM
  refine r_X (vI (n2_ + ((h_1)[(i3_).toNat]!).2)) rfl (wi64 rfl ck15.1 ck15.2) rfl <| r_V (vI (n2_ + ((h_1)[(i3_).toNat]!).2)) rfl <| lx_nil <| hK10 _ _ ?_; try clear hK10 K10
  refine A_reg <| r_V (vI i3_) rfl ?_
  obtain ⟨ck16, hM⟩ := ck_some hM
  refine r_X (vI (i3_ + 1)) rfl (wi64 rfl ck16.1 ck16.2) rfl <| r_V (vI (i3_ + 1)) rfl <| lx_nil <| fg _ (Sub.of (List.Sublist.cons_cons _ List.Sublist.slnil)) ?_
  exact ⟨n6 + 1, by omega, n6, (n2_ + ((h_1)[(i3_).toNat]!).2), (i3_ + 1), hM, is_mk rfl rfl, rfl⟩
 replace hM := ifn (of_decide_eq_false hc9) hM
 refine A_exit <| hK4 _ _ ?_; try clear hK4 K4
 refine A_seq fun K22 hK22 => ?_
 refine A_drawR [(some 46, false), (some 51, false), (some 57, false), (some 59, false), (some 64, false)] (conG Try.prog [(46, fun _ _ v_ L_ U_ => ∀ u0_, shape_Bits_v1_m N h_0 h_1 h_2 h_3 h_4 h_5 = some u0_ → (pV (vI u0_)) v_ L_ U_), (51, fun _ _ v_ L_ U_ => ∀ u0_, shape_Bytes_v1_m N h_0 h_1 h_2 h_3 h_4 h_5 = some u0_ → (pV (vI u0_)) v_ L_ U_), (57, fun _ _ v_ L_ U_ => ∀ u0_, shape_Most_v1_m N h_0 h_1 h_2 h_3 h_4 h_5 = some u0_ → (pV (vI u0_)) v_ L_ U_), (59, fun _ _ v_ L_ U_ => ∀ u0_, shape_Bytes_v1_m N h_0 h_1 h_2 h_3 h_4 h_5 = some u0_ → (pV (vI u0_)) v_ L_ U_), (64, fun _ _ v_ L_ U_ => ∀ u0_, shape_Most_v1_m N h_0 h_1 h_2 h_3 h_4 h_5 = some u0_ → (pV (vI u0_)) v_ L_ U_)]) [] (by decide +kernel) (fun hn => sep_nil) ?_
 refine r_V (vI n2_) rfl <| r_l (vA #[vS h_0, h_1v, vI h_2, vI h_3, vI h_4, vI h_5]) 0 _ _ _ _ rfl rfl rfl rfl rfl ?_
 obtain ⟨r23, hr24, hM⟩ := bind_sm hM
 refine r_gv (vI r23) 24 _ rfl rfl rfl (ev_callF rfl call_24 rfl) (fun own_ nw_ hs_ => shape_Bits_v1_g N h_0 h_1 h_2 h_3 h_4 h_5 _ hr24 hs_.view h_1v ((rd_ro hh_1) own_ nw_ hs_)) (conE hr24) <| r_R [vB (n2_ == r23), vB (n2_ == r23)] rfl ?_
 rcases hg25 : (n2_ == r23) with _ | _
 ·replace hM := ifn (ne_of_beq_false hg25) hM
  refine r_R [none, none, none, none, none, vB false, vB false, none, none, none, none, none, vB false, vB false, none, none, none, vB false, vB false, none, vB false, vB false] rfl <| lx_nil <| hK22 _ _ ?_; try clear hK22 K22
  refine A_gen [(2, vB false)] rfl (fun T => ?_)
  obtain rfl := Option.some.inj hM
  refine A_ret (fun hn => endsV (v0 := vB false) rfl (res1 rfl))
 replace hM := ifp (eq_of_beq hg25) hM
 refine r_R [vI n2_] rfl <| r_y rfl <| r_l (vA #[vS h_0, h_1v, vI h_2, vI h_3, vI h_4, vI h_5]) 0 _ _ _ _ rfl rfl rfl rfl rfl <| r_y rfl ?_
 obtain ⟨r26, hr27, hM⟩ := bind_sm hM
 refine r_gv (vI r26) 25 _ rfl rfl rfl (ev_callF rfl call_25 rfl) (fun own_ nw_ hs_ => shape_Bytes_v1_g N h_0 h_1 h_2 h_3 h_4 h_5 _ hr27 hs_.view h_1v ((rd_ro hh_1) own_ nw_ hs_)) (conE hr27) <| r_y rfl ?_
 obtain ⟨ck28, hM⟩ := ck_some hM
 refine r_X (vI (8 * r26)) rfl (wi64 rfl ck28.1 ck28.2) rfl <| r_R [vB (n2_ == (8 * r26)), vB (n2_ == (8 * r26)), vB (n2_ == (8 * r26))] rfl ?_
 rcases hg29 : (n2_ == (8 * r26)) with _ | _
 ·replace hM := ifn (ne_of_beq_false hg29) hM
  refine r_R [none, none, none, none, none, vB false, vB false, none, none, none, vB false, vB false, none, vB false, vB false] rfl <| lx_nil <| hK22 _ _ ?_; try clear hK22 K22
  refine A_gen [(2, vB false)] rfl (fun T => ?_)
  obtain rfl := Option.some.inj hM
  refine A_ret (fun hn => endsV (v0 := vB false) rfl (res1 rfl))
 replace hM := ifp (eq_of_beq hg29) hM
 refine r_y rfl <| r_l (vA #[vS h_0, h_1v, vI h_2, vI h_3, vI h_4, vI h_5]) 0 _ _ _ _ rfl rfl rfl rfl rfl <| r_y rfl ?_
 obtain ⟨r30, hr31, hM⟩ := bind_sm hM
 refine r_gv (vI r30) 26 _ rfl rfl rfl (ev_callF rfl call_26 rfl) (fun own_ nw_ hs_ => shape_Most_v1_g N h_0 h_1 h_2 h_3 h_4 h_5 _ hr31 hs_.view h_1v ((rd_ro hh_1) own_ nw_ hs_)) (conE hr31) <| r_y rfl <| r_l (vA #[vS h_0, h_1v, vI h_2, vI h_3, vI h_4, vI h_5]) 0 _ _ _ _ rfl rfl rfl rfl rfl <| r_y rfl ?_
 obtain ⟨r32, hr33, hM⟩ := bind_sm hM
 refine r_gv (vI r32) 25 _ rfl rfl rfl (ev_callF rfl call_25 rfl) (fun own_ nw_ hs_ => shape_Bytes_v1_g N h_0 h_1 h_2 h_3 h_4 h_5 _ hr33 hs_.view h_1v ((rd_ro hh_1) own_ nw_ hs_)) (conE hr33) <| r_R [vB (decide (r30 ≥ r32)), vB (decide (r30 ≥ r32)), vB (decide (r30 ≥ r32))] rfl ?_
 rcases hg34 : (decide (r30 ≥ r32)) with _ | _
 ·replace hM := ifn (of_decide_eq_false hg34) hM
  refine r_R [none, none, none, vB false, vB false, none, vB false, vB false] rfl <| lx_nil <| hK22 _ _ ?_; try clear hK22 K22
  refine A_gen [(2, vB false)] rfl (fun T => ?_)
  obtain rfl := Option.some.inj hM
  refine A_ret (fun hn => endsV (v0 := vB false) rfl (res1 rfl))
 replace hM := ifp (of_decide_eq_true hg34) hM
 refine r_y rfl <| r_l (vA #[vS h_0, h_1v, vI h_2, vI h_3, vI h_4, vI h_5]) 0 _ _ _ _ rfl rfl rfl rfl rfl <| r_y rfl ?_
 obtain ⟨r35, hr36, hM⟩ := bind_sm hM
 refine r_gv (vI r35) 26 _ rfl rfl rfl (ev_callF rfl call_26 rfl) (fun own_ nw_ hs_ => shape_Most_v1_g N h_0 h_1 h_2 h_3 h_4 h_5 _ hr36 hs_.view h_1v ((rd_ro hh_1) own_ nw_ hs_)) (conE hr36) <| r_R [vB (decide (r35 ≤ 320)), vB (decide (r35 ≤ 320)), vB (decide (r35 ≤ 320))] rfl ?_
 rcases hg37 : (decide (r35 ≤ 320)) with _ | _
 ·replace hM := ifn (of_decide_eq_false hg37) hM
  refine r_R [none, vB false, vB false] rfl <| lx_nil <| hK22 _ _ ?_; try clear hK22 K22
  refine A_gen [(2, vB false)] rfl (fun T => ?_)
  obtain rfl := Option.some.inj hM
  refine A_ret (fun hn => endsV (v0 := vB false) rfl (res1 rfl))
 replace hM := ifp (of_decide_eq_true hg37) hM
 refine r_y rfl ?_
 obtain ⟨r38, hr39, hM⟩ := bind_sm hM
 refine r_c (vB r38) rfl _ _ (ev_callF rfl call_8 rfl) (shunterlaw08_lives_g N  _ hr39) <| r_R [vB r38, vB r38] rfl <| lx_nil <| hK22 _ _ ?_; try clear hK22 K22
 refine A_gen [(2, vB r38)] rfl (fun T => ?_)
 obtain rfl := Option.some.inj hM
 refine A_ret (fun hn => endsV (v0 := vB r38) rfl (res1 rfl))
end Go.Proofs.Ytdmakhnmfnkcmaa
