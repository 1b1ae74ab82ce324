/- models of functions and their walks -/
import Derived.Test.YtdmakhnmfnkcmaaBc
namespace Go.Proofs.Ytdmakhnmfnkcmaa
open Go Go.RowKit Go.Eng
def shunterlaw08_ShapeFits_l8 (N : Nat) (l' : List (List UInt8 × Int × Int)) (n1_ : Int) (j2_ : Int) (rec_shunterlaw08_ShapeFits_l3 : Int → Int → Option Bool) (r19 : Int × Bool) : Nat → Int → Option Bool
  | 0, _ => none
  | n34 + 1, d7_ => if d7_ < max (((l')[(j2_).toNat]!).2.2) 1 then ck (-9223372036854775808 ≤ (r19.1 + d7_) ∧ (r19.1 + d7_) ≤ 9223372036854775807) ((shape_Of_m N l' (r19.1 + d7_)).bind fun r41 => if (r41.1 : Int) ≠ j2_ then some false else if (r41.2.1 : Int) ≠ d7_ then some false else if r41.2.2 = true then ck (-9223372036854775808 ≤ (d7_ + 1) ∧ (d7_ + 1) ≤ 9223372036854775807) ((shunterlaw08_ShapeFits_l8 N l' n1_ j2_ rec_shunterlaw08_ShapeFits_l3 r19 n34) (d7_ + 1)) else some false) else ck ((-9223372036854775808 ≤ (n1_ + max (((l')[(j2_).toNat]!).2.2) 1) ∧ (n1_ + max (((l')[(j2_).toNat]!).2.2) 1) ≤ 9223372036854775807)) (ck (-9223372036854775808 ≤ (j2_ + 1) ∧ (j2_ + 1) ≤ 9223372036854775807) (rec_shunterlaw08_ShapeFits_l3 ((n1_ + max (((l')[(j2_).toNat]!).2.2) 1)) (j2_ + 1)))
def shunterlaw08_ShapeFits_k6 (N : Nat) (l' : List (List UInt8 × Int × Int)) (n1_ : Int) (j2_ : Int) (rec_shunterlaw08_ShapeFits_l3 : Int → Int → Option Bool) (r19 : Int × Bool) : Option Bool := shunterlaw08_ShapeFits_l8 N l' n1_ j2_ rec_shunterlaw08_ShapeFits_l3 r19 N 0
def shunterlaw08_ShapeFits_k5 (N : Nat) (l' : List (List UInt8 × Int × Int)) (n1_ : Int) (j2_ : Int) (rec_shunterlaw08_ShapeFits_l3 : Int → Int → Option Bool) (r19 : Int × Bool) (x4_ : Bool) : Option Bool := if x4_ = true then if r19.2 = true then some false else if (r19.1 : Int) ≠ 0 then some false else ck (-9223372036854775808 ≤ (j2_ + 1) ∧ (j2_ + 1) ≤ 9223372036854775807) (rec_shunterlaw08_ShapeFits_l3 n1_ (j2_ + 1)) else if r19.2 = true then if (r19.1 : Int) ≠ n1_ then some false else shunterlaw08_ShapeFits_k6 N l' n1_ j2_ rec_shunterlaw08_ShapeFits_l3 r19  else some false
def shunterlaw08_ShapeFits_l3 (N : Nat) (l' : List (List UInt8 × Int × Int)) : Nat → Int → Int → Option Bool
  | 0, _, _ => none
  | n13 + 1, n1_, j2_ => if j2_ < ((l').length : Int) then (shape_First_m N l' j2_).bind fun r19 => ck (0 ≤ j2_ ∧ j2_ < ((l').length : Int)) (ck (0 ≤ j2_ ∧ j2_ < ((l').length : Int)) (if (((l')[(j2_).toNat]!).2.2 : Int) < 0 then shunterlaw08_ShapeFits_k5 N l' n1_ j2_ (shunterlaw08_ShapeFits_l3 N l' n13) r19 true else ck (0 ≤ j2_ ∧ j2_ < ((l').length : Int)) (shunterlaw08_ShapeFits_k5 N l' n1_ j2_ (shunterlaw08_ShapeFits_l3 N l' n13) r19 (decide ((((l')[(j2_).toNat]!).2.2 : Int) > 4))))) else (shape_First_m N l' ((l').length : Int)).bind fun r62 => (shape_Slots_m N l').bind fun r65 => if n1_ = r65 then if r62.1 = 0 then if r62.2 = true then some false else (shunterlaw08_lives_m N ).bind fun r70 => some r70 else some false else some false
def shunterlaw08_ShapeFits_m (N : Nat) (l' : List (List UInt8 × Int × Int)) : Option Bool := (shunterlaw08_few_m N ([]) l').bind fun r4 => if r4 = true then shunterlaw08_ShapeFits_l3 N l' N 0 0 else (shunterlaw08_lives_m N ).bind fun r8 => some r8
set_option maxRecDepth 100000 in
set_option maxHeartbeats 8000000 in
theorem shunterlaw08_ShapeFits_g (N : Nat) (l' : List (List UInt8 × Int × Int)) (r) (hM : shunterlaw08_ShapeFits_m N l' = some r) (ro : Addr → Option Value) (l'v : Value) (hl' : Rd enc_44 ro l'v l') : Does Try.prog 5 #[l'v] ro [] (pV (vB r)) := by
 unfold shunterlaw08_ShapeFits_m at hM
 refine does_of_A follows Try.func5 rfl 113 rfl (upd (fun _ => undef) 0 l'v) (by funext k; match k with | 0 => rfl | k + 1 => rfl) (fun base0_ => ?_)
 refine A_sr <| r_V (vB false) rfl <| lx_nil <| A_seq fun K2 hK2 => A_sc [(some 15, false)] (conG Try.prog [(15, fun _ _ v_ L_ U_ => ∀ u0_, shunterlaw08_few_m N ([]) l' = some u0_ → (pV (vB u0_)) v_ L_ U_)]) <| r_V l'v rfl ?_
 obtain ⟨r4, hr5, hM⟩ := bind_sm hM
 refine r_gv (vB r4) 12 _ rfl rfl rfl (ev_callF rfl call_12 rfl) (fun own_ nw_ hs_ => shunterlaw08_few_g N ([]) l' _ hr5 hs_.view nS ((fun _ _ _ => .inl ⟨rfl, rfl⟩) own_ nw_ hs_) l'v ((rd_ro hl') own_ nw_ hs_)) (conE hr5) <| r_V (vB (!(r4))) rfl <| lx_nil <| A_cond (!(r4)) rfl (fun hc6 => ?_) (fun hc6 => ?_)
 ·replace hM := ifn (Bool.eq_false_iff.1 (not_t hc6)) hM
  refine A_sr ?_
  obtain ⟨r8, hr9, hM⟩ := bind_sm hM
  refine r_c (vB r8) rfl _ _ (ev_callF rfl call_8 rfl) (shunterlaw08_lives_g N  _ hr9) <| r_V (vB r8) rfl <| lx_nil ?_
  obtain rfl := Option.some.inj hM
  refine A_ret (fun hn => endsV (v0 := vB r8) rfl (res1 rfl))
 replace hM := ifp (not_f hc6) hM
 refine A_skip <| hK2 _ _ ?_; try clear hK2 K2
 refine A_sr <| r_V (vI 0) rfl <| lx_nil <| A_seq fun K11 hK11 => A_sr <| r_V (vI 0) rfl <| lx_nil <| A_block <| A_loop (fun tt ll nn => ∃ (n13 : Nat) (n1_ : Int) (j2_ : Int), (shunterlaw08_ShapeFits_l3 N l' n13 n1_ j2_ = some r) ∧ Is [(0, l'v), (3, vI n1_), (4, vI j2_)] [] tt ll ∧ nn = n13 + 1) (N + 1) ?_ ?_
 ·exact ⟨N, 0, 0, hM, is_mk rfl rfl, rfl⟩
 clear hM; rintro t l _ ⟨n13, n1_, j2_, hM, ⟨⟨T, rfl⟩, rfl⟩, rfl⟩
 rcases n13 with _ | n13
 ·exact absurd hM (by simp [shunterlaw08_ShapeFits_l3])
 rw [shunterlaw08_ShapeFits_l3] at hM
 refine A_seq fun K14 hK14 => A_sr <| r_R [vI j2_, l'v] rfl <| r_W (vI ((l').length : Int)) rfl (ev_lenSl rfl rfl rfl (Rd.shp hl')) <| r_V (vB (decide (j2_ < ((l').length : Int)))) rfl <| lx_nil <| A_cond (decide (j2_ < ((l').length : Int))) rfl (fun hc16 => ?_) (fun hc16 => ?_)
 ·replace hM := ifp (of_decide_eq_true hc16) hM
  refine A_skip <| hK14 _ _ ?_; try clear hK14 K14
  refine A_seq fun K17 hK17 => A_block <| A_sc [(some 27, false)] (conG Try.prog [(27, fun _ _ v_ L_ U_ => ∀ u0_, shape_First_m N l' j2_ = some u0_ → (pV (vT #[vI u0_.1, vB u0_.2])) v_ L_ U_)]) <| r_R [l'v, vI j2_] rfl ?_
  obtain ⟨r19, hr20, hM⟩ := bind_sm hM
  refine r_gv (vT #[vI r19.1, vB r19.2]) 21 _ rfl rfl rfl (ev_callF rfl call_21 rfl) (fun own_ nw_ hs_ => shape_First_g N l' j2_ _ hr20 hs_.view l'v ((rd_ro hl') own_ nw_ hs_)) (conE hr20) <| r_R [vT #[vI r19.1, vB r19.2], vI r19.1, vB r19.2, vI r19.1, vB r19.2] rfl <| lx_nil <| A_sr <| r_R [l'v, vI j2_] rfl ?_
  obtain ⟨ck22, hM⟩ := ck_some hM
  refine r_W (elA l'v ((j2_).toNat * 3)) rfl (ev_v (ev_idxSl rfl rfl rfl (Rd.shp hl') ck22)) <| r_W (elA l'v ((j2_).toNat * 3 + 2)) rfl (ev_v (ev_fieldX rfl rfl rfl rfl rfl rfl (Rd.shp hl') (pos_of ck22))) <| r_le (vI (((l')[(j2_).toNat]!).2.2)) (En := enc_44) ((l')[(j2_).toNat]!) ((j2_).toNat) 2 rfl rfl (rd_ro hl') (get_of ck22) rfl <| r_W (vI (max (((l')[(j2_).toNat]!).2.2) 1)) rfl (ev_max rfl rfl) <| r_V (vI (max (((l')[(j2_).toNat]!).2.2) 1)) rfl <| lx_nil <| A_seq fun K23 hK23 => ?_
  refine A_cut (fun tt ll => ∃ (x4_ : Bool), (shunterlaw08_ShapeFits_k5 N l' n1_ j2_ (shunterlaw08_ShapeFits_l3 N l' n13) r19 x4_ = some r) ∧ Is [(0, l'v), (3, vI n1_), (4, vI j2_), (5, vI r19.1), (6, vB r19.2), (7, vI (max (((l')[(j2_).toNat]!).2.2) 1)), (49, vB x4_)] [] tt ll) ?_ ?_
  ·refine A_reg <| r_R [l'v, vI j2_] rfl ?_
   obtain ⟨ck58, hM⟩ := ck_some hM
   refine r_W (elA l'v ((j2_).toNat * 3)) rfl (ev_v (ev_idxSl rfl rfl rfl (Rd.shp hl') ck58)) <| r_W (elA l'v ((j2_).toNat * 3 + 2)) rfl (ev_v (ev_fieldX rfl rfl rfl rfl rfl rfl (Rd.shp hl') (pos_of ck58))) <| r_le (vI (((l')[(j2_).toNat]!).2.2)) (En := enc_44) ((l')[(j2_).toNat]!) ((j2_).toNat) 2 rfl rfl (rd_ro hl') (get_of ck58) rfl <| r_R [vB (decide ((((l')[(j2_).toNat]!).2.2 : Int) < 0)), vB (decide ((((l')[(j2_).toNat]!).2.2 : Int) < 0))] rfl ?_
   rcases hg59 : (decide ((((l')[(j2_).toNat]!).2.2 : Int) < 0)) with _ | _
   ·replace hM := ifn (of_decide_eq_false hg59) hM
    refine r_R [l'v, vI j2_] rfl <| r_y rfl ?_
    obtain ⟨ck60, hM⟩ := ck_some hM
    refine r_W (elA l'v ((j2_).toNat * 3)) rfl (ev_v (ev_idxSl rfl rfl rfl (Rd.shp hl') ck60)) <| r_y rfl <| r_W (elA l'v ((j2_).toNat * 3 + 2)) rfl (ev_v (ev_fieldX rfl rfl rfl rfl rfl rfl (Rd.shp hl') (pos_of ck60))) <| r_y rfl <| r_le (vI (((l')[(j2_).toNat]!).2.2)) (En := enc_44) ((l')[(j2_).toNat]!) ((j2_).toNat) 2 rfl rfl (rd_ro hl') (get_of ck60) rfl <| r_R [vB (decide ((((l')[(j2_).toNat]!).2.2 : Int) > 4)), vB (decide ((((l')[(j2_).toNat]!).2.2 : Int) > 4))] rfl <| lx_nil <| fg _ (Sub.of List.Sublist.slnil) ?_
    exact ⟨decide ((((l')[(j2_).toNat]!).2.2 : Int) > 4), hM, is_mk (by first | rfl | (simp only [hg59]; done) | (simp only [hg59]; rfl) | (simp only [app_hl]; rfl)) rfl⟩
   replace hM := ifp (of_decide_eq_true hg59) hM
   refine r_R [none, none, none, none, none, none, vB true] rfl <| lx_nil <| fg _ (Sub.of List.Sublist.slnil) ?_
   exact ⟨true, hM, is_mk (by first | rfl | (simp only [hg59]; done) | (simp only [hg59]; rfl) | (simp only [app_hl]; rfl)) rfl⟩
  clear hM; rintro t l ⟨x4_, hM, ⟨T, rfl⟩, rfl⟩
  unfold shunterlaw08_ShapeFits_k5 at hM
  refine A_cond x4_ rfl (fun hc24 => ?_) (fun hc24 => ?_)
  ·replace hM := ifp hc24 hM
   refine A_seq fun K25 hK25 => A_seq fun K26 hK26 => A_reg <| r_R [vB r19.2, vB r19.2] rfl ?_
   rcases hg27 : r19.2 with _ | _
   ·replace hM := ifn (Bool.eq_false_iff.1 hg27) hM
    refine r_R [vI r19.1, vB (r19.1 != 0), vB (r19.1 != 0)] rfl <| lx_nil <| hK26 _ _ ?_; try clear hK26 K26
    refine A_cond (r19.1 != 0) rfl (fun hc28 => ?_) (fun hc28 => ?_)
    ·replace hM := ifp (bne_iff_ne.1 hc28) hM
     refine A_sr <| r_V (vB false) rfl <| lx_nil ?_
     obtain rfl := Option.some.inj hM
     refine A_ret (fun hn => endsV (v0 := vB false) rfl (res1 rfl))
    replace hM := ifn (bne_f hc28) hM
    refine A_skip <| hK25 _ _ ?_; try clear hK25 K25
    refine A_exit <| hK17 _ _ ?_; try clear hK17 K17
    refine A_reg <| r_V (vI j2_) rfl ?_
    obtain ⟨ck30, hM⟩ := ck_some hM
    refine r_X (vI (j2_ + 1)) rfl (wi64 rfl ck30.1 ck30.2) rfl <| r_V (vI (j2_ + 1)) rfl <| lx_nil <| fg _ (Sub.of List.Sublist.slnil) ?_
    exact ⟨n13 + 1, by omega, n13, n1_, (j2_ + 1), hM, is_mk (by first | rfl | (simp only [hg27]; done) | (simp only [hg27]; rfl) | (simp only [app_hl]; rfl)) rfl, rfl⟩
   replace hM := ifp hg27 hM
   refine r_R [none, none, vB true] rfl <| lx_nil <| hK26 _ _ ?_; try clear hK26 K26
   refine A_cond true rfl (fun _ => ?_) (fun h_ => nomatch h_)
   refine A_sr <| r_V (vB false) rfl <| lx_nil ?_
   obtain rfl := Option.some.inj hM
   refine A_ret (fun hn => endsV (v0 := vB false) rfl (res1 rfl))
  replace hM := ifn (Bool.eq_false_iff.1 hc24) hM
  refine A_skip <| hK23 _ _ ?_; try clear hK23 K23
  refine A_cut (fun tt ll => (shunterlaw08_ShapeFits_k6 N l' n1_ j2_ (shunterlaw08_ShapeFits_l3 N l' n13) r19  = some r) ∧ Is [(0, l'v), (3, vI n1_), (4, vI j2_), (5, vI r19.1), (7, vI (max (((l')[(j2_).toNat]!).2.2) 1))] [] tt ll) ?_ ?_
  ·refine A_seq fun K53 hK53 => A_reg <| r_R [vB r19.2, vB (!(r19.2)), vB (!(r19.2))] rfl ?_
   rcases hg54 : (!(r19.2)) with _ | _
   ·replace hM := ifp (not_f hg54) hM
    refine r_R [vI r19.1, vI n1_, vB (r19.1 != n1_), vB (r19.1 != n1_)] rfl <| lx_nil <| hK53 _ _ ?_; try clear hK53 K53
    refine A_cond (r19.1 != n1_) rfl (fun hc55 => ?_) (fun hc55 => ?_)
    ·replace hM := ifp (bne_iff_ne.1 hc55) hM
     refine A_sr <| r_V (vB false) rfl <| lx_nil ?_
     obtain rfl := Option.some.inj hM
     refine A_ret (fun hn => endsV (v0 := vB false) rfl (res1 rfl))
    replace hM := ifn (bne_f hc55) hM
    refine A_skip <| fg _ (Sub.of List.Sublist.slnil) ?_
    exact ⟨hM, is_mk rfl rfl⟩
   replace hM := ifn (Bool.eq_false_iff.1 (not_t hg54)) hM
   refine r_R [none, none, none, vB true] rfl <| lx_nil <| hK53 _ _ ?_; try clear hK53 K53
   refine A_cond true rfl (fun _ => ?_) (fun h_ => nomatch h_)
   refine A_sr <| r_V (vB false) rfl <| lx_nil ?_
   obtain rfl := Option.some.inj hM
   refine A_ret (fun hn => endsV (v0 := vB false) rfl (res1 rfl))
  clear hM; rintro t l ⟨hM, ⟨T, rfl⟩, rfl⟩
  unfold shunterlaw08_ShapeFits_k6 at hM
  refine A_seq fun K32 hK32 => A_sr <| r_V (vI 0) rfl <| lx_nil <| A_block <| A_loop (fun tt ll nn => ∃ (n34 : Nat) (d7_ : Int), (shunterlaw08_ShapeFits_l8 N l' n1_ j2_ (shunterlaw08_ShapeFits_l3 N l' n13) r19 n34 d7_ = some r) ∧ Is [(0, l'v), (3, vI n1_), (4, vI j2_), (5, vI r19.1), (7, vI (max (((l')[(j2_).toNat]!).2.2) 1)), (8, vI d7_)] [] tt ll ∧ nn = n34 + 1) (N + 1) ?_ ?_
  ·exact ⟨N, 0, hM, is_mk rfl rfl, rfl⟩
  clear hM; rintro t l _ ⟨n34, d7_, hM, ⟨⟨T, rfl⟩, rfl⟩, rfl⟩
  rcases n34 with _ | n34
  ·exact absurd hM (by simp [shunterlaw08_ShapeFits_l8])
  rw [shunterlaw08_ShapeFits_l8] at hM
  refine A_seq fun K35 hK35 => A_sr <| r_R [vI d7_, vI (max (((l')[(j2_).toNat]!).2.2) 1), vB (decide (d7_ < max (((l')[(j2_).toNat]!).2.2) 1))] rfl <| lx_nil <| A_cond (decide (d7_ < max (((l')[(j2_).toNat]!).2.2) 1)) rfl (fun hc37 => ?_) (fun hc37 => ?_)
  ·replace hM := ifp (of_decide_eq_true hc37) hM
   refine A_skip <| hK35 _ _ ?_; try clear hK35 K35
   refine A_seq fun K38 hK38 => A_block <| A_sc [(some 72, false)] (conG Try.prog [(72, fun _ _ v_ L_ U_ => ∀ u0_, shape_Of_m N l' (r19.1 + d7_) = some u0_ → (pV (vT #[vI u0_.1, vI u0_.2.1, vB u0_.2.2])) v_ L_ U_)]) <| r_R [l'v, vI r19.1, vI d7_] rfl ?_
   obtain ⟨ck40, hM⟩ := ck_some hM
   refine r_X (vI (r19.1 + d7_)) rfl (wi64 rfl ck40.1 ck40.2) rfl ?_
   obtain ⟨r41, hr42, hM⟩ := bind_sm hM
   refine r_gv (vT #[vI r41.1, vI r41.2.1, vB r41.2.2]) 17 _ rfl rfl rfl (ev_callF rfl call_17 rfl) (fun own_ nw_ hs_ => shape_Of_g N l' (r19.1 + d7_) _ hr42 hs_.view l'v ((rd_ro hl') own_ nw_ hs_)) (conE hr42) <| r_R [vT #[vI r41.1, vI r41.2.1, vB r41.2.2], vI r41.1, vI r41.2.1, vB r41.2.2, vI r41.1, vI r41.2.1, vB r41.2.2] rfl <| lx_nil <| A_seq fun K43 hK43 => A_reg <| r_R [vI r41.1, vI j2_, vB (r41.1 != j2_), vB (r41.1 != j2_)] rfl ?_
   rcases hg44 : (r41.1 != j2_) with _ | _
   ·replace hM := ifn (bne_f hg44) hM
    refine r_R [vI r41.2.1, vI d7_, vB (r41.2.1 != d7_), vB (r41.2.1 != d7_), vB (r41.2.1 != d7_)] rfl ?_
    rcases hg45 : (r41.2.1 != d7_) with _ | _
    ·replace hM := ifn (bne_f hg45) hM
     refine r_R [vB r41.2.2, vB (!(r41.2.2)), vB (!(r41.2.2))] rfl <| lx_nil <| hK43 _ _ ?_; try clear hK43 K43
     refine A_gen [(0, l'v), (3, vI n1_), (4, vI j2_), (5, vI r19.1), (7, vI (max (((l')[(j2_).toNat]!).2.2) 1)), (8, vI d7_), (87, vB (!(r41.2.2)))] rfl (fun T => ?_)
     refine A_cond (!(r41.2.2)) rfl (fun hc46 => ?_) (fun hc46 => ?_)
     ·replace hM := ifn (Bool.eq_false_iff.1 (not_t hc46)) hM
      refine A_sr <| r_V (vB false) rfl <| lx_nil ?_
      obtain rfl := Option.some.inj hM
      refine A_ret (fun hn => endsV (v0 := vB false) rfl (res1 rfl))
     replace hM := ifp (not_f hc46) hM
     refine A_skip <| hK38 _ _ ?_; try clear hK38 K38
     refine A_reg <| r_V (vI d7_) rfl ?_
     obtain ⟨ck48, hM⟩ := ck_some hM
     refine r_X (vI (d7_ + 1)) rfl (wi64 rfl ck48.1 ck48.2) rfl <| r_V (vI (d7_ + 1)) rfl <| lx_nil <| fg _ (Sub.of List.Sublist.slnil) ?_
     exact ⟨n34 + 1, by omega, n34, (d7_ + 1), hM, is_mk (by first | rfl | (simp only [hg44, hg45]; done) | (simp only [hg44, hg45]; rfl) | (simp only [app_hl]; rfl)) rfl, rfl⟩
    replace hM := ifp (bne_iff_ne.1 hg45) hM
    refine r_R [none, none, vB true] rfl <| lx_nil <| hK43 _ _ ?_; try clear hK43 K43
    refine A_gen [(0, l'v), (3, vI n1_), (4, vI j2_), (5, vI r19.1), (7, vI (max (((l')[(j2_).toNat]!).2.2) 1)), (8, vI d7_), (87, vB true)] rfl (fun T => ?_)
    refine A_cond true rfl (fun _ => ?_) (fun h_ => nomatch h_)
    refine A_sr <| r_V (vB false) rfl <| lx_nil ?_
    obtain rfl := Option.some.inj hM
    refine A_ret (fun hn => endsV (v0 := vB false) rfl (res1 rfl))
   replace hM := ifp (bne_iff_ne.1 hg44) hM
   refine r_R [none, none, none, vB true, vB true, none, none, vB true] rfl <| lx_nil <| hK43 _ _ ?_; try clear hK43 K43
   refine A_gen [(0, l'v), (3, vI n1_), (4, vI j2_), (5, vI r19.1), (7, vI (max (((l')[(j2_).toNat]!).2.2) 1)), (8, vI d7_), (87, vB true)] rfl (fun T => ?_)
   refine A_cond true rfl (fun _ => ?_) (fun h_ => nomatch h_)
   refine A_sr <| r_V (vB false) rfl <| lx_nil ?_
   obtain rfl := Option.some.inj hM
   refine A_ret (fun hn => endsV (v0 := vB false) rfl (res1 rfl))
  replace hM := ifn (of_decide_eq_false hc37) hM
  refine A_exit <| hK32 _ _ ?_; try clear hK32 K32
  refine A_reg <| r_R [vI n1_, vI (max (((l')[(j2_).toNat]!).2.2) 1)] rfl ?_
  obtain ⟨ck51, hM⟩ := ck_some hM
  refine r_X (vI ((n1_ + max (((l')[(j2_).toNat]!).2.2) 1))) rfl (wi64 rfl ck51.1 ck51.2) rfl <| r_V (vI ((n1_ + max (((l')[(j2_).toNat]!).2.2) 1))) rfl <| lx_nil <| hK17 _ _ ?_; try clear hK17 K17
  refine A_reg <| r_V (vI j2_) rfl ?_
  obtain ⟨ck52, hM⟩ := ck_some hM
  refine r_X (vI (j2_ + 1)) rfl (wi64 rfl ck52.1 ck52.2) rfl <| r_V (vI (j2_ + 1)) rfl <| lx_nil <| fg _ (Sub.of List.Sublist.slnil) ?_
  exact ⟨n13 + 1, by omega, n13, (n1_ + max (((l')[(j2_).toNat]!).2.2) 1), (j2_ + 1), hM, is_mk rfl rfl, rfl⟩
 replace hM := ifn (of_decide_eq_false hc16) hM
 refine A_exit <| hK11 _ _ ?_; try clear hK11 K11
 refine A_sc [(some 95, false)] (conG Try.prog [(95, fun _ _ v_ L_ U_ => ∀ u0_, shape_First_m N l' ((l').length : Int) = some u0_ → (pV (vT #[vI u0_.1, vB u0_.2])) v_ L_ U_)]) <| r_R [l'v, l'v] rfl <| r_W (vI ((l').length : Int)) rfl (ev_lenSl rfl rfl rfl (Rd.shp hl')) ?_
 obtain ⟨r62, hr63, hM⟩ := bind_sm hM
 refine r_gv (vT #[vI r62.1, vB r62.2]) 21 _ rfl rfl rfl (ev_callF rfl call_21 rfl) (fun own_ nw_ hs_ => shape_First_g N l' ((l').length : Int) _ hr63 hs_.view l'v ((rd_ro hl') own_ nw_ hs_)) (conE hr63) <| r_R [vT #[vI r62.1, vB r62.2], vI r62.1, vB r62.2, vI r62.1, vB r62.2] rfl <| lx_nil <| A_seq fun K64 hK64 => A_regC [(some 100, false)] (conG Try.prog [(100, fun _ _ v_ L_ U_ => ∀ u0_, shape_Slots_m N l' = some u0_ → (pV (vI u0_)) v_ L_ U_)]) <| r_R [vI n1_, l'v] rfl ?_
 obtain ⟨r65, hr66, hM⟩ := bind_sm hM
 refine r_gv (vI r65) 16 _ rfl rfl rfl (ev_callF rfl call_16 rfl) (fun own_ nw_ hs_ => shape_Slots_g N l' _ hr66 hs_.view l'v ((rd_ro hl') own_ nw_ hs_)) (conE hr66) <| r_R [vB (n1_ == r65), vB (n1_ == r65)] rfl ?_
 rcases hg67 : (n1_ == r65) with _ | _
 ·replace hM := ifn (ne_of_beq_false hg67) hM
  refine r_R [none, none, vB false, vB false, none, none, vB false, vB false, none, vB false, vB false] rfl <| lx_nil <| hK64 _ _ ?_; try clear hK64 K64
  refine A_gen [(2, vB false)] rfl (fun T => ?_)
  obtain rfl := Option.some.inj hM
  refine A_ret (fun hn => endsV (v0 := vB false) rfl (res1 rfl))
 replace hM := ifp (eq_of_beq hg67) hM
 refine r_R [vI r62.1, vB (r62.1 == 0), vB (r62.1 == 0), vB (r62.1 == 0)] rfl ?_
 rcases hg68 : (r62.1 == 0) with _ | _
 ·replace hM := ifn (ne_of_beq_false hg68) hM
  refine r_R [none, none, vB false, vB false, none, vB false, vB false] rfl <| lx_nil <| hK64 _ _ ?_; try clear hK64 K64
  refine A_gen [(2, vB false)] rfl (fun T => ?_)
  obtain rfl := Option.some.inj hM
  refine A_ret (fun hn => endsV (v0 := vB false) rfl (res1 rfl))
 replace hM := ifp (eq_of_beq hg68) hM
 refine r_R [vB r62.2, vB (!(r62.2)), vB (!(r62.2)), vB (!(r62.2))] rfl ?_
 rcases hg69 : (!(r62.2)) with _ | _
 ·replace hM := ifp (not_f hg69) hM
  refine r_R [none, vB false, vB false] rfl <| lx_nil <| hK64 _ _ ?_; try clear hK64 K64
  refine A_gen [(2, vB false)] rfl (fun T => ?_)
  obtain rfl := Option.some.inj hM
  refine A_ret (fun hn => endsV (v0 := vB false) rfl (res1 rfl))
 replace hM := ifn (Bool.eq_false_iff.1 (not_t hg69)) hM
 refine r_y rfl ?_
 obtain ⟨r70, hr71, hM⟩ := bind_sm hM
 refine r_c (vB r70) rfl _ _ (ev_callF rfl call_8 rfl) (shunterlaw08_lives_g N  _ hr71) <| r_R [vB r70, vB r70] rfl <| lx_nil <| hK64 _ _ ?_; try clear hK64 K64
 refine A_gen [(2, vB r70)] rfl (fun T => ?_)
 obtain rfl := Option.some.inj hM
 refine A_ret (fun hn => endsV (v0 := vB r70) rfl (res1 rfl))
end Go.Proofs.Ytdmakhnmfnkcmaa
