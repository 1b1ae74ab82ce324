/- models of functions and their walks -/
import Derived.Test.YtdmakhnmfnkcmaaBc
namespace Go.Proofs.Ytdmakhnmfnkcmaa
open Go Go.RowKit Go.Eng
abbrev kLShapeInsts24_0 (b : Nat) (x0 : List UInt8) (x1 : Value) (x2 : Int) (x3 : Int) (x4 : Int) (x5 : Int) : List Bl := [(b, 24, #[vS x0, x1, vI x2, vI x3, vI x4, vI x5])]
def shunterlaw08_ShapeInsts_k7 (headers : List ((List UInt8) × (List (List UInt8 × Int)) × Int × Int × Int × Int)) (l' : List (List UInt8 × Int × Int)) (r3 : List (Int × Int)) (i3_ : Int) (rec_shunterlaw08_ShapeInsts_l4 : Int → Option Bool) (r19 : (List UInt8) × (List (List UInt8 × Int)) × Int × Int × Int × Int × Bool) : Option Bool := if r19.2.2.2.2.2.2 = true then ck (0 ≤ ((l')[(((r3)[(i3_).toNat]!).1).toNat]!).2.1 ∧ ((l')[(((r3)[(i3_).toNat]!).1).toNat]!).2.1 < ((headers).length : Int)) (if r19.1 ≠ ((headers)[(((l')[(((r3)[(i3_).toNat]!).1).toNat]!).2.1).toNat]!.1) then some false else ck (-9223372036854775808 ≤ (i3_ + 1) ∧ (i3_ + 1) ≤ 9223372036854775807) (rec_shunterlaw08_ShapeInsts_l4 (i3_ + 1))) else ck (-9223372036854775808 ≤ (i3_ + 1) ∧ (i3_ + 1) ≤ 9223372036854775807) (rec_shunterlaw08_ShapeInsts_l4 (i3_ + 1))
def shunterlaw08_ShapeInsts_k6 (headers : List ((List UInt8) × (List (List UInt8 × Int)) × Int × Int × Int × Int)) (l' : List (List UInt8 × Int × Int)) (r3 : List (Int × Int)) (i3_ : Int) (rec_shunterlaw08_ShapeInsts_l4 : Int → Option Bool) (r16 : Int × Int × Bool) (r19 : (List UInt8) × (List (List UInt8 × Int)) × Int × Int × Int × Int × Bool) (x5_ : Bool) : Option Bool := if x5_ = true then if (r16.1 : Int) ≠ 0 then some false else if (r16.2.1 : Int) ≠ 0 then some false else if r16.2.2 = true then some false else if r19.2.2.2.2.2.2 = true then some false else if r19.1 ≠ ([]) then some false else ck (-9223372036854775808 ≤ (i3_ + 1) ∧ (i3_ + 1) ≤ 9223372036854775807) (rec_shunterlaw08_ShapeInsts_l4 (i3_ + 1)) else ck (0 ≤ i3_ ∧ i3_ < ((r3).length : Int)) (ck (0 ≤ ((r3)[(i3_).toNat]!).1 ∧ ((r3)[(i3_).toNat]!).1 < ((l').length : Int)) (ck (0 ≤ i3_ ∧ i3_ < ((r3).length : Int)) (if (r16.1 : Int) ≠ ((r3)[(i3_).toNat]!).1 then some false else ck (0 ≤ i3_ ∧ i3_ < ((r3).length : Int)) (if (r16.2.1 : Int) ≠ ((r3)[(i3_).toNat]!).2 then some false else if r16.2.2 = true then if (((l')[(((r3)[(i3_).toNat]!).1).toNat]!).2.1 : Int) ≥ 0 then if r19.2.2.2.2.2.2 ≠ (decide ((((l')[(((r3)[(i3_).toNat]!).1).toNat]!).2.1 : Int) < ((headers).length : Int))) then some false else shunterlaw08_ShapeInsts_k7 headers l' r3 i3_ rec_shunterlaw08_ShapeInsts_l4 r19  else if r19.2.2.2.2.2.2 ≠ false then some false else shunterlaw08_ShapeInsts_k7 headers l' r3 i3_ rec_shunterlaw08_ShapeInsts_l4 r19  else some false))))
def shunterlaw08_ShapeInsts_l10 (N : Nat) (l' : List (List UInt8 × Int × Int)) (s : List UInt8) : Nat → Int → Int → Option Bool
  | 0, _, _ => none
  | n72 + 1, want8_, i9_ => if i9_ ≥ 0 then ck (0 ≤ i9_ ∧ i9_ < ((l').length : Int)) ((shunterref08_Alike_m N (((l')[(i9_).toNat]!).1) s).bind fun r79 => if r79 = true then ck (-9223372036854775808 ≤ (i9_ - 1) ∧ (i9_ - 1) ≤ 9223372036854775807) ((shunterlaw08_ShapeInsts_l10 N l' s n72) i9_ (i9_ - 1)) else ck (-9223372036854775808 ≤ (i9_ - 1) ∧ (i9_ - 1) ≤ 9223372036854775807) ((shunterlaw08_ShapeInsts_l10 N l' s n72) want8_ (i9_ - 1))) else (shape_Find_m N l' s).bind fun r85 => if r85 = want8_ then (shunterlaw08_lives_m N ).bind fun r88 => some r88 else some false
def shunterlaw08_ShapeInsts_l4 (N : Nat) (headers : List ((List UInt8) × (List (List UInt8 × Int)) × Int × Int × Int × Int)) (l' : List (List UInt8 × Int × Int)) (s : List UInt8) (r3 : List (Int × Int)) : Nat → Int → Option Bool
  | 0, _ => none
  | n10 + 1, i3_ => if i3_ ≤ ((r3).length : Int) then (shape_Of_m N l' i3_).bind fun r16 => (shape_Header_m N headers l' i3_).bind fun r19 => if i3_ < 0 then shunterlaw08_ShapeInsts_k6 headers l' r3 i3_ (shunterlaw08_ShapeInsts_l4 N headers l' s r3 n10) r16 r19 true else shunterlaw08_ShapeInsts_k6 headers l' r3 i3_ (shunterlaw08_ShapeInsts_l4 N headers l' s r3 n10) r16 r19 (i3_ == ((r3).length : Int)) else ck ((-9223372036854775808 ≤ (((l').length : Int) - 1) ∧ (((l').length : Int) - 1) ≤ 9223372036854775807)) (shunterlaw08_ShapeInsts_l10 N l' s N (-1) (((l').length : Int) - 1))
def shunterlaw08_ShapeInsts_k2 (N : Nat) (headers : List ((List UInt8) × (List (List UInt8 × Int)) × Int × Int × Int × Int)) (l' : List (List UInt8 × Int × Int)) (s : List UInt8) (r3 : List (Int × Int)) : Option Bool := shunterlaw08_ShapeInsts_l4 N headers l' s r3 N (-1)
def shunterlaw08_ShapeInsts_k1 (N : Nat) (headers : List ((List UInt8) × (List (List UInt8 × Int)) × Int × Int × Int × Int)) (l' : List (List UInt8 × Int × Int)) (s : List UInt8) : Option Bool := (shunterref08_Slots_m N l').bind fun r3 => (shape_Insts_m N headers l').bind fun r91 => (shunterref08_Insts_m N headers l').bind fun r93 => if (r91 : Int) ≠ r93 then some false else (shape_Slots_m N l').bind fun r96 => if (r96 : Int) ≠ ((r3).length : Int) then some false else shunterlaw08_ShapeInsts_k2 N headers l' s r3 
def shunterlaw08_ShapeInsts_m (N : Nat) (headers : List ((List UInt8) × (List (List UInt8 × Int)) × Int × Int × Int × Int)) (l' : List (List UInt8 × Int × Int)) (s : List UInt8) : Option Bool := (shunterlaw08_few_m N headers l').bind fun r102 => if r102 = true then if (((s).length : Int) : Int) > 200 then (shunterlaw08_lives_m N ).bind fun r107 => some r107 else shunterlaw08_ShapeInsts_k1 N headers l' s  else (shunterlaw08_lives_m N ).bind fun r110 => some r110
set_option maxRecDepth 100000 in
set_option maxHeartbeats 8000000 in
theorem shunterlaw08_ShapeInsts_g (N : Nat) (headers : List ((List UInt8) × (List (List UInt8 × Int)) × Int × Int × Int × Int)) (l' : List (List UInt8 × Int × Int)) (s : List UInt8) (r) (hM : shunterlaw08_ShapeInsts_m N headers l' s = some r) (ro : Addr → Option Value) (headersv : Value) (hheaders : RdN encr_24 ro headersv headers) (l'v : Value) (hl' : Rd enc_44 ro l'v l') : Does Try.prog 4 #[headersv, l'v, vS s] ro [] (pV (vB r)) := by
 unfold shunterlaw08_ShapeInsts_m at hM
 refine does_of_A follows Try.func4 rfl 163 rfl (upd (upd (upd (fun _ => undef) 2 (vS s)) 1 l'v) 0 headersv) (by funext k; match k with | 0 => rfl | 1 => rfl | 2 => rfl | k + 3 => rfl) (fun base0_ => ?_)
 refine A_sr <| r_V (vB false) rfl <| lx_nil <| A_cut (fun tt ll => (shunterlaw08_ShapeInsts_k1 N headers l' s  = some r) ∧ Is [(0, headersv), (1, l'v), (2, vS s)] [] tt ll) ?_ ?_
 ·refine A_seq fun K101 hK101 => A_regC [(some 19, false)] (conG Try.prog [(19, fun _ _ v_ L_ U_ => ∀ u0_, shunterlaw08_few_m N headers l' = some u0_ → (pV (vB u0_)) v_ L_ U_)]) <| r_R [headersv, l'v] rfl ?_
  obtain ⟨r102, hr103, hM⟩ := bind_sm hM
  refine r_gv (vB r102) 12 _ rfl rfl rfl (ev_callF rfl call_12 rfl) (fun own_ nw_ hs_ => shunterlaw08_few_g N headers l' _ hr103 hs_.view headersv ((fun own_ nw_ hs_ => RdN.mono hs_.ro_cell hheaders) own_ nw_ hs_) l'v ((rd_ro hl') own_ nw_ hs_)) (conE hr103) <| r_R [vB (!(r102)), vB (!(r102))] rfl ?_
  rcases hg104 : (!(r102)) with _ | _
  ·replace hM := ifp (not_f hg104) hM
   refine r_R [vS s] rfl <| r_y rfl <| r_W (vI ((s).length : Int)) rfl (ev_lenS rfl rfl rfl) <| r_R [vB (decide ((((s).length : Int) : Int) > 200)), vB (decide ((((s).length : Int) : Int) > 200))] rfl <| lx_nil <| hK101 _ _ ?_; try clear hK101 K101
   refine A_cond (decide ((((s).length : Int) : Int) > 200)) rfl (fun hc105 => ?_) (fun hc105 => ?_)
   ·replace hM := ifp (of_decide_eq_true hc105) hM
    refine A_sr ?_
    obtain ⟨r107, hr108, hM⟩ := bind_sm hM
    refine r_c (vB r107) rfl _ _ (ev_callF rfl call_8 rfl) (shunterlaw08_lives_g N  _ hr108) <| r_V (vB r107) rfl <| lx_nil ?_
    obtain rfl := Option.some.inj hM
    refine A_ret (fun hn => endsV (v0 := vB r107) rfl (res1 rfl))
   replace hM := ifn (of_decide_eq_false hc105) hM
   refine A_skip <| fg _ (Sub.of List.Sublist.slnil) ?_
   exact ⟨hM, is_mk rfl rfl⟩
  replace hM := ifn (Bool.eq_false_iff.1 (not_t hg104)) hM
  refine r_R [none, none, none, vB true] rfl <| lx_nil <| hK101 _ _ ?_; try clear hK101 K101
  refine A_cond true rfl (fun _ => ?_) (fun h_ => nomatch h_)
  refine A_sr ?_
  obtain ⟨r110, hr111, hM⟩ := bind_sm hM
  refine r_c (vB r110) rfl _ _ (ev_callF rfl call_8 rfl) (shunterlaw08_lives_g N  _ hr111) <| r_V (vB r110) rfl <| lx_nil ?_
  obtain rfl := Option.some.inj hM
  refine A_ret (fun hn => endsV (v0 := vB r110) rfl (res1 rfl))
 clear hM; rintro t l ⟨hM, ⟨T, rfl⟩, rfl⟩
 unfold shunterlaw08_ShapeInsts_k1 at hM
 refine A_sc [(some 28, false)] (conG Try.prog [(28, fun _ _ v_ L_ U_ => ∀ u0_, shunterref08_Slots_m N l' = some u0_ → (p1 (fun s_ => s_) 45 enc_45 u0_) v_ L_ U_)]) <| r_V l'v rfl ?_
 obtain ⟨r3, hr4, hM⟩ := bind_sm hM
 refine r_g1 (Ls := []) (fun s5 => s5) 45 enc_45 r3 13 _ rfl rfl rfl (ev_callF rfl call_13 rfl) (fun own_ nw_ hs_ => shunterref08_Slots_g N l' _ hr4 hs_.view l'v ((rd_ro hl') own_ nw_ hs_)) (conE hr4) (fun s5 S6 H7 => ?_)
 refine r_V s5 rfl <| lx_nil <| A_cut (fun tt ll => (shunterlaw08_ShapeInsts_k2 N headers l' s r3  = some r) ∧ Is [(0, headersv), (1, l'v), (2, vS s), (7, s5)] (List.flatten [S6]) tt ll) ?_ ?_
 ·refine A_seq fun K90 hK90 => A_regC [(some 31, false), (some 34, false), (some 38, false)] (conG Try.prog [(31, fun _ _ v_ L_ U_ => ∀ u0_, shape_Insts_m N headers l' = some u0_ → (pV (vI u0_)) v_ L_ U_), (34, fun _ _ v_ L_ U_ => ∀ u0_, shunterref08_Insts_m N headers l' = some u0_ → (pV (vI u0_)) v_ L_ U_), (38, fun _ _ v_ L_ U_ => ∀ u0_, shape_Slots_m N l' = some u0_ → (pV (vI u0_)) v_ L_ U_)]) <| r_R [headersv, l'v] rfl ?_
  obtain ⟨r91, hr92, hM⟩ := bind_sm hM
  refine r_gv (vI r91) 14 _ rfl rfl rfl (ev_callF rfl call_14 rfl) (fun own_ nw_ hs_ => shape_Insts_g N headers l' _ hr92 hs_.view headersv ((fun own_ nw_ hs_ => RdN.mono hs_.ro_cell hheaders) own_ nw_ hs_) l'v ((rd_ro hl') own_ nw_ hs_)) (conE hr92) <| r_R [headersv, l'v] rfl ?_
  obtain ⟨r93, hr94, hM⟩ := bind_sm hM
  refine r_gv (vI r93) 15 _ rfl rfl rfl (ev_callF rfl call_15 rfl) (fun own_ nw_ hs_ => shunterref08_Insts_g N headers l' _ hr94 hs_.view headersv ((fun own_ nw_ hs_ => RdN.mono hs_.ro_cell hheaders) own_ nw_ hs_) l'v ((rd_ro hl') own_ nw_ hs_)) (conE hr94) <| r_R [vB (r91 != r93), vB (r91 != r93)] rfl ?_
  rcases hg95 : (r91 != r93) with _ | _
  ·replace hM := ifn (bne_f hg95) hM
   refine r_R [l'v] rfl <| r_y rfl ?_
   obtain ⟨r96, hr97, hM⟩ := bind_sm hM
   refine r_gv (vI r96) 16 _ rfl rfl rfl (ev_callF rfl call_16 rfl) (fun own_ nw_ hs_ => shape_Slots_g N l' _ hr97 hs_.view l'v ((rd_ro hl') own_ nw_ hs_)) (conE hr97) <| r_R [s5] rfl <| r_y rfl <| r_W (vI ((r3).length : Int)) rfl (ev_lenSl rfl rfl rfl (Sl.shp H7)) <| r_R [vB (r96 != ((r3).length : Int)), vB (r96 != ((r3).length : Int))] rfl <| lx_nil <| hK90 _ _ ?_; try clear hK90 K90
   refine A_cond (r96 != ((r3).length : Int)) rfl (fun hc98 => ?_) (fun hc98 => ?_)
   ·replace hM := ifp (bne_iff_ne.1 hc98) hM
    refine A_sr <| r_V (vB false) rfl <| lx_nil ?_
    obtain rfl := Option.some.inj hM
    refine A_ret (fun hn => endsV (v0 := vB false) rfl (res1 rfl))
   replace hM := ifn (bne_f hc98) hM
   refine A_skip <| fg _ (Sub.pick [S6] [0] rfl) ?_
   exact ⟨hM, is_mk rfl rfl⟩
  replace hM := ifp (bne_iff_ne.1 hg95) hM
  refine r_R [none, none, none, none, none, vB true] rfl <| lx_nil <| hK90 _ _ ?_; try clear hK90 K90
  refine A_cond true rfl (fun _ => ?_) (fun h_ => nomatch h_)
  refine A_sr <| r_V (vB false) rfl <| lx_nil ?_
  obtain rfl := Option.some.inj hM
  refine A_ret (fun hn => endsV (v0 := vB false) rfl (res1 rfl))
 clear hM; rintro t l ⟨hM, ⟨T, rfl⟩, rfl⟩
 unfold shunterlaw08_ShapeInsts_k2 at hM
 refine A_seq fun K8 hK8 => A_sr <| r_V (vI (-1)) rfl <| lx_nil <| A_block <| A_forget _ (Sub.pick [S6] [0] rfl) <| A_loop (fun tt ll nn => ∃ (n10 : Nat) (i3_ : Int), (shunterlaw08_ShapeInsts_l4 N headers l' s r3 n10 i3_ = some r) ∧ Is [(0, headersv), (1, l'v), (2, vS s), (7, s5), (8, vI i3_)] (List.flatten [S6]) tt ll ∧ nn = n10 + 1) (N + 1) ?_ ?_
 ·exact ⟨N, -1, hM, is_mk rfl rfl, rfl⟩
 clear hM; rintro t l _ ⟨n10, i3_, hM, ⟨⟨T, rfl⟩, rfl⟩, rfl⟩
 rcases n10 with _ | n10
 ·exact absurd hM (by simp [shunterlaw08_ShapeInsts_l4])
 rw [shunterlaw08_ShapeInsts_l4] at hM
 refine A_seq fun K11 hK11 => A_sr <| r_R [vI i3_, s5] rfl <| r_W (vI ((r3).length : Int)) rfl (ev_lenSl rfl rfl rfl (Sl.shp H7)) <| r_V (vB (decide (i3_ ≤ ((r3).length : Int)))) rfl <| lx_nil <| A_cond (decide (i3_ ≤ ((r3).length : Int))) rfl (fun hc13 => ?_) (fun hc13 => ?_)
 ·replace hM := ifp (of_decide_eq_true hc13) hM
  refine A_skip <| hK11 _ _ ?_; try clear hK11 K11
  refine A_seq fun K14 hK14 => A_block <| A_sc [(some 52, false)] (conG Try.prog [(52, fun _ _ v_ L_ U_ => ∀ u0_, shape_Of_m N l' i3_ = some u0_ → (pV (vT #[vI u0_.1, vI u0_.2.1, vB u0_.2.2])) v_ L_ U_)]) <| r_R [l'v, vI i3_] rfl ?_
  obtain ⟨r16, hr17, hM⟩ := bind_sm hM
  refine r_gv (vT #[vI r16.1, vI r16.2.1, vB r16.2.2]) 17 _ rfl rfl rfl (ev_callF rfl call_17 rfl) (fun own_ nw_ hs_ => shape_Of_g N l' i3_ _ hr17 hs_.view l'v ((rd_ro hl') own_ nw_ hs_)) (conE hr17) <| r_R [vT #[vI r16.1, vI r16.2.1, vB r16.2.2], vI r16.1, vI r16.2.1, vB r16.2.2, vI r16.1, vI r16.2.1, vB r16.2.2] rfl <| lx_nil <| A_sc [(some 60, false)] (conG Try.prog [(60, fun _ _ v_ L_ U_ => ∀ u0_, shape_Header_m N headers l' i3_ = some u0_ → (p1 (fun s_ => vT #[vA #[vS u0_.1, s_, vI u0_.2.2.1, vI u0_.2.2.2.1, vI u0_.2.2.2.2.1, vI u0_.2.2.2.2.2.1], vB u0_.2.2.2.2.2.2]) 52 enc_52 u0_.2.1) v_ L_ U_)]) <| r_R [headersv, l'v, vI i3_] rfl ?_
  obtain ⟨r19, hr20, hM⟩ := bind_sm hM
  refine r_g1 (Ls := [S6]) (fun s21 => vT #[vA #[vS r19.1, s21, vI r19.2.2.1, vI r19.2.2.2.1, vI r19.2.2.2.2.1, vI r19.2.2.2.2.2.1], vB r19.2.2.2.2.2.2]) 52 enc_52 r19.2.1 18 _ rfl rfl rfl (ev_callF rfl call_18 rfl) (fun own_ nw_ hs_ => shape_Header_g N headers l' i3_ _ hr20 hs_.view headersv ((fun own_ nw_ hs_ => RdN.mono hs_.ro_cell hheaders) own_ nw_ hs_) l'v ((rd_ro hl') own_ nw_ hs_)) (conE hr20) (fun s21 S22 H23 => ?_)
  refine r_R [vT #[vA #[vS r19.1, s21, vI r19.2.2.1, vI r19.2.2.2.1, vI r19.2.2.2.2.1, vI r19.2.2.2.2.2.1], vB r19.2.2.2.2.2.2], vA #[vS r19.1, s21, vI r19.2.2.1, vI r19.2.2.2.1, vI r19.2.2.2.2.1, vI r19.2.2.2.2.2.1], vB r19.2.2.2.2.2.2] rfl <| r_a (24, #[Value.string (⟨#[]⟩), nS, vI 0, vI 0, vI 0, vI 0]) rfl rfl rfl (fun b24 => ?_) (.inr rfl)
  refine r_s (List.flatten [(kLShapeInsts24_0 b24 r19.1 s21 r19.2.2.1 r19.2.2.2.1 r19.2.2.2.2.1 r19.2.2.2.2.2.1), S6, S22]) 0 _ _ _ _ _ (#[vS r19.1, s21, vI r19.2.2.1, vI r19.2.2.2.1, vI r19.2.2.2.2.1, vI r19.2.2.2.2.2.1]) rfl rfl rfl rfl (.ofS rfl rfl (all_cons' rfl (all_cons' (Shp.one (Sl.shp H23)) (all_cons' rfl (all_cons' rfl (all_cons' rfl (all_cons' rfl all_nil'))))))) rfl rfl <| r_V (vB r19.2.2.2.2.2.2) rfl <| lx_nil <| A_seq fun K25 hK25 => ?_
  refine A_cut (fun tt ll => ∃ (x5_ : Bool), (shunterlaw08_ShapeInsts_k6 headers l' r3 i3_ (shunterlaw08_ShapeInsts_l4 N headers l' s r3 n10) r16 r19 x5_ = some r) ∧ Is [(0, headersv), (1, l'v), (2, vS s), (7, s5), (8, vI i3_), (9, vI r16.1), (10, vI r16.2.1), (11, vB r16.2.2), (12, vP b24 0), (13, vB r19.2.2.2.2.2.2), (70, vB x5_)] (List.flatten [(kLShapeInsts24_0 b24 r19.1 s21 r19.2.2.1 r19.2.2.2.1 r19.2.2.2.2.1 r19.2.2.2.2.2.1), S6, S22]) tt ll) ?_ ?_
  ·refine A_reg <| r_R [vI i3_, vB (decide (i3_ < 0)), vB (decide (i3_ < 0))] rfl ?_
   rcases hg67 : (decide (i3_ < 0)) with _ | _
   ·replace hM := ifn (of_decide_eq_false hg67) hM
    refine r_R [vI i3_, s5] rfl <| r_y rfl <| r_W (vI ((r3).length : Int)) rfl (ev_lenSl rfl rfl rfl (Sl.shp H7)) <| r_R [vB (i3_ == ((r3).length : Int)), vB (i3_ == ((r3).length : Int))] rfl <| lx_nil <| fg _ (Sub.pick [(kLShapeInsts24_0 b24 r19.1 s21 r19.2.2.1 r19.2.2.2.1 r19.2.2.2.2.1 r19.2.2.2.2.2.1), S6, S22] [0, 1, 2] rfl) ?_
    exact ⟨(i3_ == ((r3).length : Int)), hM, is_mk (by first | rfl | (simp only [hg67]; done) | (simp only [hg67]; rfl) | (simp only [app_hl]; rfl)) rfl⟩
   replace hM := ifp (of_decide_eq_true hg67) hM
   refine r_R [none, none, none, none, vB true] rfl <| lx_nil <| fg _ (Sub.pick [(kLShapeInsts24_0 b24 r19.1 s21 r19.2.2.1 r19.2.2.2.1 r19.2.2.2.2.1 r19.2.2.2.2.2.1), S6, S22] [0, 1, 2] rfl) ?_
   exact ⟨true, hM, is_mk (by first | rfl | (simp only [hg67]; done) | (simp only [hg67]; rfl) | (simp only [app_hl]; rfl)) rfl⟩
  clear hM; rintro t l ⟨x5_, hM, ⟨T, rfl⟩, rfl⟩
  unfold shunterlaw08_ShapeInsts_k6 at hM
  refine A_cond x5_ rfl (fun hc26 => ?_) (fun hc26 => ?_)
  ·replace hM := ifp hc26 hM
   refine A_seq fun K27 hK27 => A_seq fun K28 hK28 => A_reg <| r_R [vI r16.1, vB (r16.1 != 0), vB (r16.1 != 0)] rfl ?_
   rcases hg29 : (r16.1 != 0) with _ | _
   ·replace hM := ifn (bne_f hg29) hM
    refine r_R [vI r16.2.1, vB (r16.2.1 != 0), vB (r16.2.1 != 0), vB (r16.2.1 != 0)] rfl ?_
    rcases hg30 : (r16.2.1 != 0) with _ | _
    ·replace hM := ifn (bne_f hg30) hM
     refine r_R [vB r16.2.2, vB r16.2.2, vB r16.2.2] rfl ?_
     rcases hg31 : r16.2.2 with _ | _
     ·replace hM := ifn (Bool.eq_false_iff.1 hg31) hM
      refine r_R [vB r19.2.2.2.2.2.2, vB r19.2.2.2.2.2.2, vB r19.2.2.2.2.2.2] rfl ?_
      rcases hg32 : r19.2.2.2.2.2.2 with _ | _
      ·replace hM := ifn (Bool.eq_false_iff.1 hg32) hM
       refine r_R [vP b24 0] rfl <| r_y rfl <| r_l (vS r19.1) 0 _ _ _ _ rfl rfl rfl rfl rfl <| r_y rfl <| r_W (vB (r19.1 != ([]))) rfl (ev_neS rfl rfl) <| r_V (vB (r19.1 != ([]))) rfl <| lx_nil <| hK28 _ _ ?_; try clear hK28 K28
       refine A_cond (r19.1 != ([])) rfl (fun hc33 => ?_) (fun hc33 => ?_)
       ·replace hM := ifp (bne_iff_ne.1 hc33) hM
        refine A_sr <| r_V (vB false) rfl <| lx_nil <| A_gen [(6, vB false)] rfl (fun T => ?_)
        obtain rfl := Option.some.inj hM
        refine A_ret (fun hn => endsV (v0 := vB false) rfl (res1 rfl))
       replace hM := ifn (bne_f hc33) hM
       refine A_skip <| hK27 _ _ ?_; try clear hK27 K27
       refine A_exit <| hK14 _ _ ?_; try clear hK14 K14
       refine A_reg <| r_V (vI i3_) rfl ?_
       obtain ⟨ck35, hM⟩ := ck_some hM
       refine r_X (vI (i3_ + 1)) rfl (wi64 rfl ck35.1 ck35.2) rfl <| r_V (vI (i3_ + 1)) rfl <| lx_nil <| fg _ (Sub.pick [(kLShapeInsts24_0 b24 r19.1 s21 r19.2.2.1 r19.2.2.2.1 r19.2.2.2.2.1 r19.2.2.2.2.2.1), S6, S22] [1] rfl) ?_
       exact ⟨n10 + 1, by omega, n10, (i3_ + 1), hM, is_mk (by first | rfl | (simp only [hg29, hg30, hg31, hg32]; done) | (simp only [hg29, hg30, hg31, hg32]; rfl) | (simp only [app_hl]; rfl)) rfl, rfl⟩
      replace hM := ifp hg32 hM
      refine r_R [none, none, none, vB true] rfl <| lx_nil <| hK28 _ _ ?_; try clear hK28 K28
      refine A_cond true rfl (fun _ => ?_) (fun h_ => nomatch h_)
      refine A_sr <| r_V (vB false) rfl <| lx_nil <| A_gen [(6, vB false)] rfl (fun T => ?_)
      obtain rfl := Option.some.inj hM
      refine A_ret (fun hn => endsV (v0 := vB false) rfl (res1 rfl))
     replace hM := ifp hg31 hM
     refine r_R [none, vB true, vB true, none, none, none, vB true] rfl <| lx_nil <| hK28 _ _ ?_; try clear hK28 K28
     refine A_cond true rfl (fun _ => ?_) (fun h_ => nomatch h_)
     refine A_sr <| r_V (vB false) rfl <| lx_nil <| A_gen [(6, vB false)] rfl (fun T => ?_)
     obtain rfl := Option.some.inj hM
     refine A_ret (fun hn => endsV (v0 := vB false) rfl (res1 rfl))
    replace hM := ifp (bne_iff_ne.1 hg30) hM
    refine r_R [none, vB true, vB true, none, vB true, vB true, none, none, none, vB true] rfl <| lx_nil <| hK28 _ _ ?_; try clear hK28 K28
    refine A_cond true rfl (fun _ => ?_) (fun h_ => nomatch h_)
    refine A_sr <| r_V (vB false) rfl <| lx_nil <| A_gen [(6, vB false)] rfl (fun T => ?_)
    obtain rfl := Option.some.inj hM
    refine A_ret (fun hn => endsV (v0 := vB false) rfl (res1 rfl))
   replace hM := ifp (bne_iff_ne.1 hg29) hM
   refine r_R [none, none, vB true, vB true, none, vB true, vB true, none, vB true, vB true, none, none, none, vB true] rfl <| lx_nil <| hK28 _ _ ?_; try clear hK28 K28
   refine A_cond true rfl (fun _ => ?_) (fun h_ => nomatch h_)
   refine A_sr <| r_V (vB false) rfl <| lx_nil <| A_gen [(6, vB false)] rfl (fun T => ?_)
   obtain rfl := Option.some.inj hM
   refine A_ret (fun hn => endsV (v0 := vB false) rfl (res1 rfl))
  replace hM := ifn (Bool.eq_false_iff.1 hc26) hM
  refine A_skip <| hK25 _ _ ?_; try clear hK25 K25
  refine A_sr <| r_R [l'v, s5, vI i3_] rfl ?_
  obtain ⟨ck41, hM⟩ := ck_some hM
  refine r_W (elA s5 ((i3_).toNat * 2)) rfl (ev_v (ev_idxSl rfl rfl rfl (Sl.shp H7) ck41)) <| r_W (elA s5 ((i3_).toNat * 2 + 0)) rfl (ev_v (ev_idxX 0 rfl rfl rfl rfl (Sl.shp H7) (pos_of ck41) (by decide))) <| r_le (vI (((r3)[(i3_).toNat]!).1)) (En := enc_45) ((r3)[(i3_).toNat]!) ((i3_).toNat) 0 rfl rfl (rd_own H7 (mem_chunk (Ls := [(kLShapeInsts24_0 b24 r19.1 s21 r19.2.2.1 r19.2.2.2.1 r19.2.2.2.2.1 r19.2.2.2.2.2.1), S6, S22]) (k := 1) rfl rfl)) (get_of ck41) rfl ?_
  obtain ⟨ck42, hM⟩ := ck_some hM
  refine r_W (elA l'v ((((r3)[(i3_).toNat]!).1).toNat * 3)) rfl (ev_v (ev_idxSl rfl rfl rfl (Rd.shp hl') ck42)) <| r_W (elA l'v ((((r3)[(i3_).toNat]!).1).toNat * 3 + 1)) rfl (ev_v (ev_fieldX rfl rfl rfl rfl rfl rfl (Rd.shp hl') (pos_of ck42))) <| r_le (vI (((l')[(((r3)[(i3_).toNat]!).1).toNat]!).2.1)) (En := enc_44) ((l')[(((r3)[(i3_).toNat]!).1).toNat]!) ((((r3)[(i3_).toNat]!).1).toNat) 1 rfl rfl (rd_ro hl') (get_of ck42) rfl <| r_V (vI (((l')[(((r3)[(i3_).toNat]!).1).toNat]!).2.1)) rfl <| lx_nil ?_
  refine A_cut (fun tt ll => (shunterlaw08_ShapeInsts_k7 headers l' r3 i3_ (shunterlaw08_ShapeInsts_l4 N headers l' s r3 n10) r19  = some r) ∧ Is [(0, headersv), (1, l'v), (2, vS s), (7, s5), (8, vI i3_), (12, vP b24 0), (13, vB r19.2.2.2.2.2.2), (14, vI (((l')[(((r3)[(i3_).toNat]!).1).toNat]!).2.1))] (List.flatten [(kLShapeInsts24_0 b24 r19.1 s21 r19.2.2.1 r19.2.2.2.1 r19.2.2.2.2.1 r19.2.2.2.2.2.1), S6, S22]) tt ll) ?_ ?_
  ·refine A_seq fun K53 hK53 => A_reg <| r_R [vI r16.1, s5, vI i3_] rfl ?_
   obtain ⟨ck54, hM⟩ := ck_some hM
   refine r_W (elA s5 ((i3_).toNat * 2)) rfl (ev_v (ev_idxSl rfl rfl rfl (Sl.shp H7) ck54)) <| r_W (elA s5 ((i3_).toNat * 2 + 0)) rfl (ev_v (ev_idxX 0 rfl rfl rfl rfl (Sl.shp H7) (pos_of ck54) (by decide))) <| r_le (vI (((r3)[(i3_).toNat]!).1)) (En := enc_45) ((r3)[(i3_).toNat]!) ((i3_).toNat) 0 rfl rfl (rd_own H7 (mem_chunk (Ls := [(kLShapeInsts24_0 b24 r19.1 s21 r19.2.2.1 r19.2.2.2.1 r19.2.2.2.2.1 r19.2.2.2.2.2.1), S6, S22]) (k := 1) rfl rfl)) (get_of ck54) rfl <| r_R [vB (r16.1 != ((r3)[(i3_).toNat]!).1), vB (r16.1 != ((r3)[(i3_).toNat]!).1)] rfl ?_
   rcases hg55 : (r16.1 != ((r3)[(i3_).toNat]!).1) with _ | _
   ·replace hM := ifn (bne_f hg55) hM
    refine r_R [vI r16.2.1, s5, vI i3_] rfl <| r_y rfl ?_
    obtain ⟨ck56, hM⟩ := ck_some hM
    refine r_W (elA s5 ((i3_).toNat * 2)) rfl (ev_v (ev_idxSl rfl rfl rfl (Sl.shp H7) ck56)) <| r_y rfl <| r_W (elA s5 ((i3_).toNat * 2 + 1)) rfl (ev_v (ev_idxX 1 rfl rfl rfl rfl (Sl.shp H7) (pos_of ck56) (by decide))) <| r_y rfl <| r_le (vI (((r3)[(i3_).toNat]!).2)) (En := enc_45) ((r3)[(i3_).toNat]!) ((i3_).toNat) 1 rfl rfl (rd_own H7 (mem_chunk (Ls := [(kLShapeInsts24_0 b24 r19.1 s21 r19.2.2.1 r19.2.2.2.1 r19.2.2.2.2.1 r19.2.2.2.2.2.1), S6, S22]) (k := 1) rfl rfl)) (get_of ck56) rfl <| r_R [vB (r16.2.1 != ((r3)[(i3_).toNat]!).2), vB (r16.2.1 != ((r3)[(i3_).toNat]!).2), vB (r16.2.1 != ((r3)[(i3_).toNat]!).2)] rfl ?_
    rcases hg57 : (r16.2.1 != ((r3)[(i3_).toNat]!).2) with _ | _
    ·replace hM := ifn (bne_f hg57) hM
     refine r_R [vB r16.2.2, vB (!(r16.2.2)), vB (!(r16.2.2)), vB (!(r16.2.2))] rfl ?_
     rcases hg58 : (!(r16.2.2)) with _ | _
     ·replace hM := ifp (not_f hg58) hM
      refine r_R [vB r19.2.2.2.2.2.2, vI (((l')[(((r3)[(i3_).toNat]!).1).toNat]!).2.1), vB (decide ((((l')[(((r3)[(i3_).toNat]!).1).toNat]!).2.1 : Int) ≥ 0)), vB (decide ((((l')[(((r3)[(i3_).toNat]!).1).toNat]!).2.1 : Int) ≥ 0))] rfl ?_
      rcases hg59 : (decide ((((l')[(((r3)[(i3_).toNat]!).1).toNat]!).2.1 : Int) ≥ 0)) with _ | _
      ·replace hM := ifn (of_decide_eq_false hg59) hM
       refine r_R [none, none, none, none, vB false] rfl <| r_y rfl <| r_W (vB (r19.2.2.2.2.2.2 != false)) rfl (ev_binBn rfl rfl rfl) <| r_V (vB (r19.2.2.2.2.2.2 != false)) rfl <| lx_nil <| hK53 _ _ ?_; try clear hK53 K53
       refine A_gen [(0, headersv), (1, l'v), (2, vS s), (7, s5), (8, vI i3_), (12, vP b24 0), (13, vB r19.2.2.2.2.2.2), (14, vI (((l')[(((r3)[(i3_).toNat]!).1).toNat]!).2.1)), (128, vB (r19.2.2.2.2.2.2 != false))] rfl (fun T => ?_)
       refine A_cond (r19.2.2.2.2.2.2 != false) rfl (fun hc60 => ?_) (fun hc60 => ?_)
       ·replace hM := ifp (bne_iff_ne.1 hc60) hM
        refine A_sr <| r_V (vB false) rfl <| lx_nil ?_
        obtain rfl := Option.some.inj hM
        refine A_ret (fun hn => endsV (v0 := vB false) rfl (res1 rfl))
       replace hM := ifn (bne_f hc60) hM
       refine A_skip <| fg _ (Sub.pick [(kLShapeInsts24_0 b24 r19.1 s21 r19.2.2.1 r19.2.2.2.1 r19.2.2.2.2.1 r19.2.2.2.2.2.1), S6, S22] [0, 1, 2] rfl) ?_
       exact ⟨hM, is_mk rfl rfl⟩
      replace hM := ifp (of_decide_eq_true hg59) hM
      refine r_R [vI (((l')[(((r3)[(i3_).toNat]!).1).toNat]!).2.1), headersv] rfl <| r_y rfl <| r_W (vI ((headers).length : Int)) rfl (ev_lenSl rfl rfl rfl (RdN.shp hheaders)) <| r_R [vB (decide ((((l')[(((r3)[(i3_).toNat]!).1).toNat]!).2.1 : Int) < ((headers).length : Int))), vB (decide ((((l')[(((r3)[(i3_).toNat]!).1).toNat]!).2.1 : Int) < ((headers).length : Int)))] rfl <| r_y rfl <| r_W (vB (r19.2.2.2.2.2.2 != (decide ((((l')[(((r3)[(i3_).toNat]!).1).toNat]!).2.1 : Int) < ((headers).length : Int))))) rfl (ev_binBn rfl rfl rfl) <| r_V (vB (r19.2.2.2.2.2.2 != (decide ((((l')[(((r3)[(i3_).toNat]!).1).toNat]!).2.1 : Int) < ((headers).length : Int))))) rfl <| lx_nil ?_
      refine hK53 _ _ ?_; try clear hK53 K53
      refine A_gen [(0, headersv), (1, l'v), (2, vS s), (7, s5), (8, vI i3_), (12, vP b24 0), (13, vB r19.2.2.2.2.2.2), (14, vI (((l')[(((r3)[(i3_).toNat]!).1).toNat]!).2.1)), (128, vB (r19.2.2.2.2.2.2 != (decide ((((l')[(((r3)[(i3_).toNat]!).1).toNat]!).2.1 : Int) < ((headers).length : Int)))))] rfl (fun T => ?_)
      refine A_cond (r19.2.2.2.2.2.2 != (decide ((((l')[(((r3)[(i3_).toNat]!).1).toNat]!).2.1 : Int) < ((headers).length : Int)))) rfl (fun hc62 => ?_) (fun hc62 => ?_)
      ·replace hM := ifp (bne_iff_ne.1 hc62) hM
       refine A_sr <| r_V (vB false) rfl <| lx_nil ?_
       obtain rfl := Option.some.inj hM
       refine A_ret (fun hn => endsV (v0 := vB false) rfl (res1 rfl))
      replace hM := ifn (bne_f hc62) hM
      refine A_skip <| fg _ (Sub.pick [(kLShapeInsts24_0 b24 r19.1 s21 r19.2.2.1 r19.2.2.2.1 r19.2.2.2.2.1 r19.2.2.2.2.2.1), S6, S22] [0, 1, 2] rfl) ?_
      exact ⟨hM, is_mk rfl rfl⟩
     replace hM := ifn (Bool.eq_false_iff.1 (not_t hg58)) hM
     refine r_R [none, none, none, none] rfl <| r_nu rfl rfl <| r_nu rfl rfl <| r_nu rfl rfl <| r_nu rfl rfl <| r_R [none, none, vB true] rfl <| lx_nil <| hK53 _ _ ?_; try clear hK53 K53
     refine A_gen [(0, headersv), (1, l'v), (2, vS s), (7, s5), (8, vI i3_), (12, vP b24 0), (13, vB r19.2.2.2.2.2.2), (14, vI (((l')[(((r3)[(i3_).toNat]!).1).toNat]!).2.1)), (128, vB true)] rfl (fun T => ?_)
     refine A_cond true rfl (fun _ => ?_) (fun h_ => nomatch h_)
     refine A_sr <| r_V (vB false) rfl <| lx_nil ?_
     obtain rfl := Option.some.inj hM
     refine A_ret (fun hn => endsV (v0 := vB false) rfl (res1 rfl))
    replace hM := ifp (bne_iff_ne.1 hg57) hM
    refine r_R [none, none, vB true, vB true, none, none, none, none] rfl <| r_nu rfl rfl <| r_nu rfl rfl <| r_nu rfl rfl <| r_nu rfl rfl <| r_R [none, none, vB true] rfl <| lx_nil <| hK53 _ _ ?_; try clear hK53 K53
    refine A_gen [(0, headersv), (1, l'v), (2, vS s), (7, s5), (8, vI i3_), (12, vP b24 0), (13, vB r19.2.2.2.2.2.2), (14, vI (((l')[(((r3)[(i3_).toNat]!).1).toNat]!).2.1)), (128, vB true)] rfl (fun T => ?_)
    refine A_cond true rfl (fun _ => ?_) (fun h_ => nomatch h_)
    refine A_sr <| r_V (vB false) rfl <| lx_nil ?_
    obtain rfl := Option.some.inj hM
    refine A_ret (fun hn => endsV (v0 := vB false) rfl (res1 rfl))
   replace hM := ifp (bne_iff_ne.1 hg55) hM
   refine r_R [none, none, none, none, none, none, none, vB true, vB true, none, none, vB true, vB true, none, none, none, none] rfl <| r_nu rfl rfl <| r_nu rfl rfl <| r_nu rfl rfl <| r_nu rfl rfl <| r_R [none, none, vB true] rfl <| lx_nil <| hK53 _ _ ?_; try clear hK53 K53
   refine A_gen [(0, headersv), (1, l'v), (2, vS s), (7, s5), (8, vI i3_), (12, vP b24 0), (13, vB r19.2.2.2.2.2.2), (14, vI (((l')[(((r3)[(i3_).toNat]!).1).toNat]!).2.1)), (128, vB true)] rfl (fun T => ?_)
   refine A_cond true rfl (fun _ => ?_) (fun h_ => nomatch h_)
   refine A_sr <| r_V (vB false) rfl <| lx_nil ?_
   obtain rfl := Option.some.inj hM
   refine A_ret (fun hn => endsV (v0 := vB false) rfl (res1 rfl))
  clear hM; rintro t l ⟨hM, ⟨T, rfl⟩, rfl⟩
  unfold shunterlaw08_ShapeInsts_k7 at hM
  refine A_seq fun K43 hK43 => A_draw [] (by decide +kernel) (fun hn => sep_nil) <| r_R [vB r19.2.2.2.2.2.2, vB r19.2.2.2.2.2.2] rfl ?_
  rcases hg44 : r19.2.2.2.2.2.2 with _ | _
  ·replace hM := ifn (Bool.eq_false_iff.1 hg44) hM
   refine r_R [none, none, none, none, none, none, none, none, vB false] rfl <| lx_nil <| hK43 _ _ ?_; try clear hK43 K43
   refine A_cond false rfl (fun h_ => nomatch h_) (fun _ => ?_)
   refine A_skip <| hK14 _ _ ?_; try clear hK14 K14
   refine A_reg <| r_V (vI i3_) rfl ?_
   obtain ⟨ck45, hM⟩ := ck_some hM
   refine r_X (vI (i3_ + 1)) rfl (wi64 rfl ck45.1 ck45.2) rfl <| r_V (vI (i3_ + 1)) rfl <| lx_nil <| fg _ (Sub.pick [(kLShapeInsts24_0 b24 r19.1 s21 r19.2.2.1 r19.2.2.2.1 r19.2.2.2.2.1 r19.2.2.2.2.2.1), S6, S22] [1] rfl) ?_
   exact ⟨n10 + 1, by omega, n10, (i3_ + 1), hM, is_mk (by first | rfl | (simp only [hg44]; done) | (simp only [hg44]; rfl) | (simp only [app_hl]; rfl)) rfl, rfl⟩
  replace hM := ifp hg44 hM
  refine r_R [vP b24 0] rfl <| r_y rfl <| r_l (vS r19.1) 0 _ _ _ _ rfl rfl rfl rfl rfl <| r_R [headersv, vI (((l')[(((r3)[(i3_).toNat]!).1).toNat]!).2.1)] rfl <| r_y rfl ?_
  obtain ⟨ck46, hM⟩ := ck_some hM
  obtain ⟨_, ⟨s47, hs48, rfl⟩, hat49⟩ := RdN.at (E := encr_24) hheaders (get_of ck46)
  refine r_W (elA headersv ((((l')[(((r3)[(i3_).toNat]!).1).toNat]!).2.1).toNat * 6)) rfl (ev_v (ev_idxSl rfl rfl rfl (RdN.shp hheaders) ck46)) <| r_y rfl <| r_W (elA headersv ((((l')[(((r3)[(i3_).toNat]!).1).toNat]!).2.1).toNat * 6 + 0)) rfl (ev_v (ev_fieldX rfl rfl rfl rfl rfl rfl (RdN.shp hheaders) (pos_of ck46))) <| r_y rfl ?_
  refine r_at (vS ((headers)[(((l')[(((r3)[(i3_).toNat]!).1).toNat]!).2.1).toNat]!.1)) (vs := [vS ((headers)[(((l')[(((r3)[(i3_).toNat]!).1).toNat]!).2.1).toNat]!.1), s47, vI ((headers)[(((l')[(((r3)[(i3_).toNat]!).1).toNat]!).2.1).toNat]!.2.2.1), vI ((headers)[(((l')[(((r3)[(i3_).toNat]!).1).toNat]!).2.1).toNat]!.2.2.2.1), vI ((headers)[(((l')[(((r3)[(i3_).toNat]!).1).toNat]!).2.1).toNat]!.2.2.2.2.1), vI ((headers)[(((l')[(((r3)[(i3_).toNat]!).1).toNat]!).2.1).toNat]!.2.2.2.2.2)]) ((((l')[(((r3)[(i3_).toNat]!).1).toNat]!).2.1).toNat * 6) 0 rfl rfl (fun own_ nw_ hs_ => At.mono hs_.ro_cell hat49) rfl <| r_y rfl ?_
  refine r_W (vB (r19.1 != ((headers)[(((l')[(((r3)[(i3_).toNat]!).1).toNat]!).2.1).toNat]!.1))) rfl (ev_neS rfl rfl) <| r_V (vB (r19.1 != ((headers)[(((l')[(((r3)[(i3_).toNat]!).1).toNat]!).2.1).toNat]!.1))) rfl <| lx_nil <| hK43 _ _ ?_; try clear hK43 K43
  refine A_cond (r19.1 != ((headers)[(((l')[(((r3)[(i3_).toNat]!).1).toNat]!).2.1).toNat]!.1)) rfl (fun hc50 => ?_) (fun hc50 => ?_)
  ·replace hM := ifp (bne_iff_ne.1 hc50) hM
   refine A_sr <| r_V (vB false) rfl <| lx_nil ?_
   obtain rfl := Option.some.inj hM
   refine A_ret (fun hn => endsV (v0 := vB false) rfl (res1 rfl))
  replace hM := ifn (bne_f hc50) hM
  refine A_skip <| hK14 _ _ ?_; try clear hK14 K14
  refine A_reg <| r_V (vI i3_) rfl ?_
  obtain ⟨ck52, hM⟩ := ck_some hM
  refine r_X (vI (i3_ + 1)) rfl (wi64 rfl ck52.1 ck52.2) rfl <| r_V (vI (i3_ + 1)) rfl <| lx_nil <| fg _ (Sub.pick [(kLShapeInsts24_0 b24 r19.1 s21 r19.2.2.1 r19.2.2.2.1 r19.2.2.2.2.1 r19.2.2.2.2.2.1), S6, S22] [1] rfl) ?_
  exact ⟨n10 + 1, by omega, n10, (i3_ + 1), hM, is_mk (by first | rfl | (simp only [hg44]; done) | (simp only [hg44]; rfl) | (simp only [app_hl]; rfl)) rfl, rfl⟩
 replace hM := ifn (of_decide_eq_false hc13) hM
 refine A_exit <| hK8 _ _ ?_; try clear hK8 K8
 refine A_sr <| r_V (vI (-1)) rfl <| lx_nil <| A_seq fun K69 hK69 => A_sr <| r_V l'v rfl <| r_W (vI ((l').length : Int)) rfl (ev_lenSl rfl rfl rfl (Rd.shp hl')) ?_
 obtain ⟨ck71, hM⟩ := ck_some hM
 refine r_X (vI (((l').length : Int) - 1)) rfl (wi64 rfl ck71.1 ck71.2) rfl <| r_V (vI (((l').length : Int) - 1)) rfl <| lx_nil <| A_block <| A_forget _ (Sub.pick [S6] [] rfl) <| A_loop (fun tt ll nn => ∃ (n72 : Nat) (want8_ : Int) (i9_ : Int), (shunterlaw08_ShapeInsts_l10 N l' s n72 want8_ i9_ = some r) ∧ Is [(1, l'v), (2, vS s), (15, vI want8_), (16, vI i9_)] [] tt ll ∧ nn = n72 + 1) (N + 1) ?_ ?_
 ·exact ⟨N, -1, (((l').length : Int) - 1), hM, is_mk rfl rfl, rfl⟩
 clear hM; rintro t l _ ⟨n72, want8_, i9_, hM, ⟨⟨T, rfl⟩, rfl⟩, rfl⟩
 rcases n72 with _ | n72
 ·exact absurd hM (by simp [shunterlaw08_ShapeInsts_l10])
 rw [shunterlaw08_ShapeInsts_l10] at hM
 refine A_seq fun K73 hK73 => A_sr <| r_R [vI i9_, vB (decide (i9_ ≥ 0))] rfl <| lx_nil <| A_cond (decide (i9_ ≥ 0)) rfl (fun hc75 => ?_) (fun hc75 => ?_)
 ·replace hM := ifp (of_decide_eq_true hc75) hM
  refine A_skip <| hK73 _ _ ?_; try clear hK73 K73
  refine A_seq fun K76 hK76 => A_block <| A_sr <| r_R [l'v, vI i9_] rfl ?_
  obtain ⟨ck78, hM⟩ := ck_some hM
  refine r_W (elA l'v ((i9_).toNat * 3)) rfl (ev_v (ev_idxSl rfl rfl rfl (Rd.shp hl') ck78)) <| r_W (elA l'v ((i9_).toNat * 3 + 0)) rfl (ev_v (ev_fieldX rfl rfl rfl rfl rfl rfl (Rd.shp hl') (pos_of ck78))) <| r_le (vS (((l')[(i9_).toNat]!).1)) (En := enc_44) ((l')[(i9_).toNat]!) ((i9_).toNat) 0 rfl rfl (rd_ro hl') (get_of ck78) rfl <| r_V (vS s) rfl ?_
  obtain ⟨r79, hr80, hM⟩ := bind_sm hM
  refine r_c (vB r79) rfl _ _ (ev_callF rfl call_19 rfl) (shunterref08_Alike_g N (((l')[(i9_).toNat]!).1) s _ hr80) <| lx_nil <| A_cond r79 rfl (fun hc81 => ?_) (fun hc81 => ?_)
  ·replace hM := ifp hc81 hM
   refine A_reg <| r_R [vI i9_, vI i9_] rfl <| lx_nil <| hK76 _ _ ?_; try clear hK76 K76
   refine A_reg <| r_V (vI i9_) rfl ?_
   obtain ⟨ck82, hM⟩ := ck_some hM
   refine r_X (vI (i9_ - 1)) rfl (wi64 rfl ck82.1 ck82.2) rfl <| r_V (vI (i9_ - 1)) rfl <| lx_nil <| fg _ (Sub.of List.Sublist.slnil) ?_
   exact ⟨n72 + 1, by omega, n72, i9_, (i9_ - 1), hM, is_mk rfl rfl, rfl⟩
  replace hM := ifn (Bool.eq_false_iff.1 hc81) hM
  refine A_skip <| hK76 _ _ ?_; try clear hK76 K76
  refine A_reg <| r_V (vI i9_) rfl ?_
  obtain ⟨ck83, hM⟩ := ck_some hM
  refine r_X (vI (i9_ - 1)) rfl (wi64 rfl ck83.1 ck83.2) rfl <| r_V (vI (i9_ - 1)) rfl <| lx_nil <| fg _ (Sub.of List.Sublist.slnil) ?_
  exact ⟨n72 + 1, by omega, n72, want8_, (i9_ - 1), hM, is_mk rfl rfl, rfl⟩
 replace hM := ifn (of_decide_eq_false hc75) hM
 refine A_exit <| hK69 _ _ ?_; try clear hK69 K69
 refine A_seq fun K84 hK84 => A_regC [(some 157, false)] (conG Try.prog [(157, fun _ _ v_ L_ U_ => ∀ u0_, shape_Find_m N l' s = some u0_ → (pV (vI u0_)) v_ L_ U_)]) <| r_R [l'v, vS s] rfl ?_
 obtain ⟨r85, hr86, hM⟩ := bind_sm hM
 refine r_gv (vI r85) 20 _ rfl rfl rfl (ev_callF rfl call_20 rfl) (fun own_ nw_ hs_ => shape_Find_g N l' s _ hr86 hs_.view l'v ((rd_ro hl') own_ nw_ hs_)) (conE hr86) <| r_R [vI want8_, vB (r85 == want8_), vB (r85 == want8_)] rfl ?_
 rcases hg87 : (r85 == want8_) with _ | _
 ·replace hM := ifn (ne_of_beq_false hg87) hM
  refine r_R [none, vB false, vB false] rfl <| lx_nil <| hK84 _ _ ?_; try clear hK84 K84
  obtain rfl := Option.some.inj hM
  refine A_ret (fun hn => endsV (v0 := vB false) rfl (res1 rfl))
 replace hM := ifp (eq_of_beq hg87) hM
 refine r_y rfl ?_
 obtain ⟨r88, hr89, hM⟩ := bind_sm hM
 refine r_c (vB r88) rfl _ _ (ev_callF rfl call_8 rfl) (shunterlaw08_lives_g N  _ hr89) <| r_R [vB r88, vB r88] rfl <| lx_nil <| hK84 _ _ ?_; try clear hK84 K84
 obtain rfl := Option.some.inj hM
 refine A_ret (fun hn => endsV (v0 := vB r88) rfl (res1 rfl))
end Go.Proofs.Ytdmakhnmfnkcmaa
