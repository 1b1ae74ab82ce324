import Derived.Test.YtjmdbbnnpmmpiaaGreatDoorBe
namespace Go.Proofs.YtjmdbbnnpmmpiaaGreatDoor
open Go Go.RowKit Go.Eng _root_.Go.Proofs.Tryz
set_option maxRecDepth 100000
set_option maxHeartbeats 8000000
abbrev KW (b : Nat) (x0 : List UInt8) (x1 : Int) (x2 : Value) (x3 : Value) (x4 : Int) (x5 : Value) (x6 : Int) : List Bl := [(b, 72, #[vS x0, vI x1, x2, x3, vI x4, x5, vI x6])]
abbrev Nm (b : Nat) (x0 : Value) : List Bl := [(b, 203, #[x0])]
abbrev MD (b : Nat) (x0 : Value) : List Bl := [(b, 81, #[x0])]
abbrev IV (b : Nat) (x0 : Int) (x1 : Int) (x2 : Value) (x3 : Value) (x4 : Int) (x5 : Int) : List Bl := [(b, 79, #[vI x0, vI x1, x2, x3, vI x4, vI x5])]
abbrev Hg (b : Nat) (x0 : Int) (x1 : Int) : List Bl := [(b, 115, #[vI x0, vI x1])]
abbrev JI (b : Nat) (x0 : List UInt8) (x1 : Value) (x2 : Int) (x3 : Int) (x4 : Int) (x5 : Int) : List Bl := [(b, 48, #[vS x0, x1, vI x2, vI x3, vI x4, vI x5])]
abbrev Hf (b : Nat) (x0 : List UInt8) (x1 : Int) (x2 : Int) : List Bl := [(b, 118, #[vS x0, vI x1, vI x2])]
abbrev Nl (b : Nat) (x0 : Value) : List Bl := [(b, 211, #[x0])]
abbrev ID (b : Nat) (x0 : List UInt8) (x1 : Int) : List Bl := [(b, 122, #[vS x0, vI x1])]
def CG (N : Nat) (c : Al) (_ : List UInt8) (x_1 : Int) (x_2 : List (Int × Int × Int)) (x_3 : List Int) (x_4 : Int) (x_5 : List (Int × BitVec 128)) (x_6 : Int) : Option Int := (BG N x_1 0 3).bind fun r5 => (Ag N r5 10).bind fun r7 => (Ag N (decide ((x_2.length : Int) > 0)) 5).bind fun r9 => (BY N c x_2 2).bind fun r11 => (Ci N c x_3).bind fun r13 => (AG N x_3 x_4).bind fun r15 => (Ag N r15 16).bind fun r17 => (Ct N c x_4 x_5).bind fun r19 => (Az N x_6 1 256).bind fun r21 => (Ag N r21 7).bind fun r23 => (As N ([r7, r9, r11, r13, r17, r19, r23])).bind fun r28 => some r28
theorem Qv (N : Nat) (c : Al) (x_0 : List UInt8) (x_1 : Int) (x_2 : List (Int × Int × Int)) (x_3 : List Int) (x_4 : Int) (x_5 : List (Int × BitVec 128)) (x_6 r : Int) (hM : CG N c x_0 x_1 x_2 x_3 x_4 x_5 x_6 = some r) (ro : Ro) (cv : AP) (hc : Bun35R ro cv c) (x_2v : Value) (hx_2 : Rd enc_168 ro x_2v x_2) (x_3v : Value) (hx_3 : Rd BK ro x_3v x_3) (x_5v : Value) (hx_5 : Rd enc_57 ro x_5v x_5) : DoesI prog 130 #[vA (Ac c cv), vA #[vS x_0, vI x_1, x_2v, x_3v, vI x_4, x_5v, vI x_6]] DZ ro [] (pV (vI r)) := by
 unfold CG at hM
 refine AO follows func130 rfl 43 rfl _ fz2 AT (fun base0_ => ?_)
 refine Ad <| r_a (92, (Ac c cv)) rfl rfl rfl (fun b2 => ?_) (.inr rfl)
 refine r_a (72, #[vS x_0, vI x_1, x_2v, x_3v, vI x_4, x_5v, vI x_6]) rfl rfl rfl (fun b3 => ?_) (.inr rfl)
 refine r_V (vI 0) rfl <| Aa <| Ai fun K4 hK4 => ?_
 refine Ck [(some 17, false), (some 21, false), (some 27, false), (some 36, false), (some 41, false), (some 42, false)] (conG prog [(17, cV (BY N c x_2 2) fun u0_ => vI u0_), (21, cV (Ci N c x_3) fun u0_ => vI u0_), (27, cV (AG N x_3 x_4) fun u0_ => vB u0_), (36, cV (Ct N c x_4 x_5) fun u0_ => vI u0_), (42, fun _ _ v_ L_ U_ => ∀ u0_, BG N x_1 0 3 = some u0_ → ∀ u1_, Ag N u0_ 10 = some u1_ → ∀ u2_, Ag N (decide ((x_2.length : Int) > 0)) 5 = some u2_ → ∀ u3_, BY N c x_2 2 = some u3_ → ∀ u4_, Ci N c x_3 = some u4_ → ∀ u5_, AG N x_3 x_4 = some u5_ → ∀ u6_, Ag N u5_ 16 = some u6_ → ∀ u7_, Ct N c x_4 x_5 = some u7_ → ∀ u8_, Az N x_6 1 256 = some u8_ → ∀ u9_, Ag N u8_ 7 = some u9_ → ∀ u10_, As N ([u1_, u2_, u3_, u4_, u6_, u7_, u9_]) = some u10_ → (pV (vI u10_)) v_ L_ U_)]) [] (by decide +kernel) (fun hn => Be) ?_
 refine r_V (vP b3 1) rfl <| rl (vI x_1) 0 ?_
 obtain ⟨r5, hr6, hM⟩ := Ab hM
 refine rc (vB r5) (cF Zi) (IE N x_1 0 3 _ hr6) ?_
 obtain ⟨r7, hr8, hM⟩ := Ab hM
 refine rc (vI r7) (cF AJ) (AB N r5 10 _ hr8) <| r_V (vP b3 2) rfl <| rl x_2v 0 <| r_W (vI (x_2.length : Int)) rfl (Aj rfl rfl rfl (Rd.shp hx_2)) <| r_V (vB (decide ((x_2.length : Int) > 0))) rfl ?_
 obtain ⟨r9, hr10, hM⟩ := Ab hM
 refine rc (vI r9) (cF AJ) (AB N (decide ((x_2.length : Int) > 0)) 5 _ hr10) <| rl (vA (Ac c cv)) 1 <| r_V (vP b3 2) rfl <| rl x_2v 0 ?_
 obtain ⟨r11, hr12, hM⟩ := Ab hM
 refine rg (vI r11) (cF SE) (fun o w z_ => NG N c x_2 2 _ hr12 z_.view cv (Bun35R.mono z_.ro_cell hc) x_2v ((Av hx_2) o w z_)) (AF hr12) <| rl (vA (Ac c cv)) 1 <| r_V (vP b3 3) rfl <| rl x_3v 0 ?_
 obtain ⟨r13, hr14, hM⟩ := Ab hM
 refine rg (vI r13) (cF Zh) (fun o w z_ => (Does.inv (Pb N c x_3 _ hr14 z_.view cv (Bun35R.mono z_.ro_cell hc) x_3v ((Av hx_3) o w z_)) _)) (AF hr14) <| r_V (vP b3 3) rfl <| rl x_3v 0 <| r_R [vP b3 4, vP b3 4] rfl <| rl (vI x_4) 0 ?_
 obtain ⟨r15, hr16, hM⟩ := Ab hM
 refine rg (vB r15) (cF Oi) (fun o w z_ => (Does.inv (DE N x_3 x_4 _ hr16 z_.view x_3v ((Av hx_3) o w z_)) _)) (AF hr16) ?_
 obtain ⟨r17, hr18, hM⟩ := Ab hM
 refine rc (vI r17) (cF AJ) (AB N r15 16 _ hr18) <| rl (vA (Ac c cv)) 1 <| r_R [vP b3 4, vP b3 4] rfl <| rl (vI x_4) 0 <| r_R [vP b3 4, vP b3 5] rfl <| rl x_5v 0 ?_
 obtain ⟨r19, hr20, hM⟩ := Ab hM
 refine rg (vI r19) (cF SC) (fun o w z_ => (Does.inv (Mf N c x_4 x_5 _ hr20 z_.view cv (Bun35R.mono z_.ro_cell hc) x_5v ((Av hx_5) o w z_)) _)) (AF hr20) <| r_V (vP b3 6) rfl <| rl (vI x_6) 0 ?_
 obtain ⟨r21, hr22, hM⟩ := Ab hM
 refine rc (vB r21) (cF BP) (AI N x_6 1 256 _ hr22) ?_
 obtain ⟨r23, hr24, hM⟩ := Ab hM
 refine rc (vI r23) (cF AJ) (AB N r21 7 _ hr24) ?_
 refine Dj (cs0 := [(17, cV (BY N c x_2 2) fun u0_ => vI u0_), (21, cV (Ci N c x_3) fun u0_ => vI u0_), (27, cV (AG N x_3 x_4) fun u0_ => vB u0_), (36, cV (Ct N c x_4 x_5) fun u0_ => vI u0_), (42, fun _ _ v_ L_ U_ => ∀ u0_, BG N x_1 0 3 = some u0_ → ∀ u1_, Ag N u0_ 10 = some u1_ → ∀ u2_, Ag N (decide ((x_2.length : Int) > 0)) 5 = some u2_ → ∀ u3_, BY N c x_2 2 = some u3_ → ∀ u4_, Ci N c x_3 = some u4_ → ∀ u5_, AG N x_3 x_4 = some u5_ → ∀ u6_, Ag N u5_ 16 = some u6_ → ∀ u7_, Ct N c x_4 x_5 = some u7_ → ∀ u8_, Az N x_6 1 256 = some u8_ → ∀ u9_, Ag N u8_ 7 = some u9_ → ∀ u10_, As N ([u1_, u2_, u3_, u4_, u6_, u7_, u9_]) = some u10_ → (pV (vI u10_)) v_ L_ U_)]) (Ls := [(KW b3 x_0 x_1 x_2v x_3v x_4 x_5v x_6), [(b2, 92, (Ac c cv))]]) 38 BK [r7, r9, r11, r13, r17, r19, r23] [vI r7, vI r9, vI r11, vI r13, vI r17, vI r19, vI r23] [vI 0, vI 0, vI 0, vI 0, vI 0, vI 0, vI 0] rfl rfl rfl rfl rfl rfl rfl (by kernel_rfl) (by kernel_rfl) rfl rfl rfl (fun s25 S26 H27 => ?_)
 obtain ⟨r28, hr29, hM⟩ := Ab hM
 refine rg (vI r28) (cF Br) (fun o w z_ => (Does.inv (Bb N ([r7, r9, r11, r13, r17, r19, r23]) _ hr29 z_.view s25 ((AN H27 (Aw (Ls := [(KW b3 x_0 x_1 x_2v x_3v x_4 x_5v x_6), [(b2, 92, (Ac c cv))], S26]) (k := 2) rfl rfl)) o w z_)) _)) (fun _ _ v_ L_ U_ => ⟨fun h_ => h_ _ hr6 _ hr8 _ hr10 _ hr12 _ hr14 _ hr16 _ hr18 _ hr20 _ hr22 _ hr24 _ hr29, fun h_ => by intro _ e_; cases Option.some.inj (e_.symm.trans hr6); intro _ e_; cases Option.some.inj (e_.symm.trans hr8); intro _ e_; cases Option.some.inj (e_.symm.trans hr10); intro _ e_; cases Option.some.inj (e_.symm.trans hr12); intro _ e_; cases Option.some.inj (e_.symm.trans hr14); intro _ e_; cases Option.some.inj (e_.symm.trans hr16); intro _ e_; cases Option.some.inj (e_.symm.trans hr18); intro _ e_; cases Option.some.inj (e_.symm.trans hr20); intro _ e_; cases Option.some.inj (e_.symm.trans hr22); intro _ e_; cases Option.some.inj (e_.symm.trans hr24); intro _ e_; cases Option.some.inj (e_.symm.trans hr29); exact h_⟩) ?_
 refine r_V (vI r28) rfl <| Aa <| hK4 _ _ ?_
 refine Cd [(4, vI r28)] rfl (fun T => ?_)
 cases hM
 exact aR eV1
def Es (N : Nat) (i : Int) (x_0 : List UInt8) (x_1 : Int) (x_2 : List (Int × Int × Int)) (x_3 : List Int) (x_4 : Int) (x_5 : List (Int × BitVec 128)) (x_6 : Int) (c2_ : List (List UInt8)) (c3_p0_0_ : Al) : Option Int := ck (0 ≤ i ∧ i < (c2_.length : Int)) ((Bf N (c2_[i.toNat]!)).bind fun r5 => (Ag N r5 4).bind fun r7 => (Ay N c2_ i).bind fun r9 => (CG N c3_p0_0_ x_0 x_1 x_2 x_3 x_4 x_5 x_6).bind fun r11 => (As N ([r7, r9, r11])).bind fun r16 => some r16)
theorem Mk (N : Nat) (i : Int) (x_0 : List UInt8) (x_1 : Int) (x_2 : List (Int × Int × Int)) (x_3 : List Int) (x_4 : Int) (x_5 : List (Int × BitVec 128)) (x_6 : Int) (c2_ : List (List UInt8)) (c3_p0_0_ : Al) (r) (hM : Es N i x_0 x_1 x_2 x_3 x_4 x_5 x_6 c2_ c3_p0_0_ = some r) (ro : Ro) (x_2v : Value) (hx_2 : Rd enc_168 ro x_2v x_2) (x_3v : Value) (hx_3 : Rd BK ro x_3v x_3) (x_5v : Value) (hx_5 : Rd enc_57 ro x_5v x_5) (bc2_ : Nat) (c2_v : Value) (hc2_ : Rd encS ro c2_v c2_) (hbc2_ : Blk ro bc2_ [c2_v]) (bc3_ : Nat) (c3_p0_0_v : AP) (hc3_p0_0_ : Bun35R ro c3_p0_0_v c3_p0_0_) (hbc3_ : Blk ro bc3_ [vF 130 #[vA (Ac c3_p0_0_ c3_p0_0_v)] #[]]) : DoesI prog 193 #[vI i, vA #[vS x_0, vI x_1, x_2v, x_3v, vI x_4, x_5v, vI x_6], vP bc2_ 0, vP bc3_ 0] DZ ro [] (pV (vI r)) := by
 unfold Es at hM
 refine AO follows func193 rfl 21 rfl _ fz4 AT (fun base0_ => ?_)
 refine Ad <| r_a (72, #[vS x_0, vI x_1, x_2v, x_3v, vI x_4, x_5v, vI x_6]) rfl rfl rfl (fun b2 => ?_) (.inr rfl)
 refine r_V (vI 0) rfl <| Aa <| Ai fun K3 hK3 => ?_
 refine Ck [(some 15, false), (some 18, false), (some 19, false), (some 20, false)] (conG prog [(15, cV (Ay N c2_ i) fun u0_ => vI u0_), (18, cV (CG N c3_p0_0_ x_0 x_1 x_2 x_3 x_4 x_5 x_6) fun u0_ => vI u0_), (20, fun _ _ v_ L_ U_ => ∀ u0_, Bf N (c2_[i.toNat]!) = some u0_ → ∀ u1_, Ag N u0_ 4 = some u1_ → ∀ u2_, Ay N c2_ i = some u2_ → ∀ u3_, CG N c3_p0_0_ x_0 x_1 x_2 x_3 x_4 x_5 x_6 = some u3_ → ∀ u4_, As N ([u1_, u2_, u3_]) = some u4_ → (pV (vI u4_)) v_ L_ U_)]) [] (by decide +kernel) (fun hn => Be) ?_
 refine CR c2_v (vs := [c2_v]) (o := 0) rfl rfl (AK hbc2_) rfl <| r_V (vI i) rfl ?_
 obtain ⟨ck4, hM⟩ := Ae hM
 refine r_W (elA c2_v (i.toNat * 1)) rfl (AD (An rfl rfl rfl (Rd.shp hc2_) ck4)) <| Bw (vS (c2_[i.toNat]!)) (En := encS) (c2_[i.toNat]!) (i.toNat) 0 rfl rfl (Av hc2_) (AA ck4) rfl ?_
 obtain ⟨r5, hr6, hM⟩ := Ab hM
 refine rc (vB r5) (cF HT) (GJ N (c2_[i.toNat]!) _ hr6) ?_
 obtain ⟨r7, hr8, hM⟩ := Ab hM
 refine rc (vI r7) (cF AJ) (AB N r5 4 _ hr8) <| CR c2_v (vs := [c2_v]) (o := 0) rfl rfl (AK hbc2_) rfl <| r_V (vI i) rfl ?_
 obtain ⟨r9, hr10, hM⟩ := Ab hM
 refine rg (vI r9) (cF Hu) (fun o w z_ => (Does.inv (Dn N c2_ i _ hr10 z_.view c2_v ((Av hc2_) o w z_)) _)) (AF hr10) <| CR (vF 130 #[vA (Ac c3_p0_0_ c3_p0_0_v)] #[]) (vs := [vF 130 #[vA (Ac c3_p0_0_ c3_p0_0_v)] #[]]) (o := 0) rfl rfl (AK hbc3_) rfl <| rl (vA #[vS x_0, vI x_1, x_2v, x_3v, vI x_4, x_5v, vI x_6]) 0 ?_
 obtain ⟨r11, hr12, hM⟩ := Ab hM
 refine rg (vI r11) (Ca (bd := [vA (Ac c3_p0_0_ c3_p0_0_v)]) (caps := []) rfl ZS rfl) (fun o w z_ => Qv N c3_p0_0_ x_0 x_1 x_2 x_3 x_4 x_5 x_6 _ hr12 z_.view c3_p0_0_v (Bun35R.mono z_.ro_cell hc3_p0_0_) x_2v ((Av hx_2) o w z_) x_3v ((Av hx_3) o w z_) x_5v ((Av hx_5) o w z_)) (AF hr12) ?_
 refine Dj (cs0 := [(15, cV (Ay N c2_ i) fun u0_ => vI u0_), (18, cV (CG N c3_p0_0_ x_0 x_1 x_2 x_3 x_4 x_5 x_6) fun u0_ => vI u0_), (20, fun _ _ v_ L_ U_ => ∀ u0_, Bf N (c2_[i.toNat]!) = some u0_ → ∀ u1_, Ag N u0_ 4 = some u1_ → ∀ u2_, Ay N c2_ i = some u2_ → ∀ u3_, CG N c3_p0_0_ x_0 x_1 x_2 x_3 x_4 x_5 x_6 = some u3_ → ∀ u4_, As N ([u1_, u2_, u3_]) = some u4_ → (pV (vI u4_)) v_ L_ U_)]) (Ls := [(KW b2 x_0 x_1 x_2v x_3v x_4 x_5v x_6)]) 38 BK [r7, r9, r11] [vI r7, vI r9, vI r11] [vI 0, vI 0, vI 0] rfl rfl rfl rfl rfl rfl rfl (by kernel_rfl) (by kernel_rfl) rfl rfl rfl (fun s13 S14 H15 => ?_)
 obtain ⟨r16, hr17, hM⟩ := Ab hM
 refine rg (vI r16) (cF Br) (fun o w z_ => (Does.inv (Bb N ([r7, r9, r11]) _ hr17 z_.view s13 ((AN H15 (Aw (Ls := [(KW b2 x_0 x_1 x_2v x_3v x_4 x_5v x_6), S14]) (k := 1) rfl rfl)) o w z_)) _)) (fun _ _ v_ L_ U_ => ⟨fun h_ => h_ _ hr6 _ hr8 _ hr10 _ hr12 _ hr17, fun h_ => by intro _ e_; cases Option.some.inj (e_.symm.trans hr6); intro _ e_; cases Option.some.inj (e_.symm.trans hr8); intro _ e_; cases Option.some.inj (e_.symm.trans hr10); intro _ e_; cases Option.some.inj (e_.symm.trans hr12); intro _ e_; cases Option.some.inj (e_.symm.trans hr17); exact h_⟩) ?_
 refine r_V (vI r16) rfl <| Aa <| hK3 _ _ ?_
 cases hM
 exact aR eV1
def DP (N : Nat) (l' : List ((List UInt8) × Int × (List (Int × Int × Int)) × (List Int) × Int × (List (Int × BitVec 128)) × Int)) (ask0_ : List (List UInt8)) (ask1_p0_0_ : Al) : Nat → Int → Option (Int × Int)
  | 0, _ => none
  | n8 + 1, x1_ => if x1_ < (l'.length : Int) then ck (0 ≤ x1_ ∧ x1_ < (l'.length : Int)) ((Es N x1_ (l'[x1_.toNat]!.1) (l'[x1_.toNat]!.2.1) (l'[x1_.toNat]!.2.2.1) (l'[x1_.toNat]!.2.2.2.1) (l'[x1_.toNat]!.2.2.2.2.1) (l'[x1_.toNat]!.2.2.2.2.2.1) (l'[x1_.toNat]!.2.2.2.2.2.2) ask0_ ask1_p0_0_).bind fun r24 => if (r24 : Int) ≠ 0 then some (x1_, r24) else ck (-9223372036854775808 ≤ (x1_ + 1) ∧ (x1_ + 1) ≤ 9223372036854775807) ((DP N l' ask0_ ask1_p0_0_ n8) (x1_ + 1))) else some (0, 0)
def FH (N : Nat) (l' : List ((List UInt8) × Int × (List (Int × Int × Int)) × (List Int) × Int × (List (Int × BitVec 128)) × Int)) (most : Int) (ask0_ : List (List UInt8)) (ask1_p0_0_ : Al) : Option (Int × Int) := if (l'.length : Int) > most then some (0, 2) else DP N l' ask0_ ask1_p0_0_ N 0
theorem OS (N : Nat) (l' : List ((List UInt8) × Int × (List (Int × Int × Int)) × (List Int) × Int × (List (Int × BitVec 128)) × Int)) (most : Int) (ask0_ : List (List UInt8)) (ask1_p0_0_ : Al) (r) (hM : FH N l' most ask0_ ask1_p0_0_ = some r) (ro : Ro) (l'v : Value) (hl' : RdN encr_72 ro l'v l') (bask0_ : Nat) (ask0_v : Value) (hask0_ : Rd encS ro ask0_v ask0_) (hbask0_ : Blk ro bask0_ [ask0_v]) (bask1_ : Nat) (ask1_p0_0_v : AP) (hask1_p0_0_ : Bun35R ro ask1_p0_0_v ask1_p0_0_) (hbask1_ : Blk ro bask1_ [vF 130 #[vA (Ac ask1_p0_0_ ask1_p0_0_v)] #[]]) : DoesI prog 192 #[l'v, vI most, vF 193 #[] #[vP bask0_ 0, vP bask1_ 0]] DZ ro [] (pV (vT #[vI r.1, vI r.2])) := by
 unfold FH at hM
 refine AO follows func192 rfl 31 rfl _ fz3 AT (fun base0_ => ?_)
 refine Ad <| r_R [vI 0, vI 0] rfl <| Aa <| Ai fun K2 hK2 => Ad <| r_V l'v rfl <| r_W (vI (l'.length : Int)) rfl (Aj rfl rfl rfl (RdN.shp hl')) <| r_R [vI most, vB (decide ((l'.length : Int) > most))] rfl <| Aa <| Af _ rfl (fun hc4 => ?_) (fun hc4 => ?_)
 ·replace hM := iD hc4 hM
  refine Ad <| r_R [vI 0, vI 2] rfl <| Aa ?_
  cases hM
  exact aR eV2
 replace hM := iF hc4 hM
 refine Ah <| hK2 _ _ ?_
 refine Ai fun K6 hK6 => Ad <| r_V l'v rfl <| r_W (vI (l'.length : Int)) rfl (Aj rfl rfl rfl (RdN.shp hl')) <| r_V (vI 0) rfl <| Aa <| Ap <| AS (fun tt ll nn => ∃ (n8 : Nat) (x1_ : Int), (DP N l' ask0_ ask1_p0_0_ n8 x1_ = some r) ∧ Is [(2, vF 193 #[] #[vP bask0_ 0, vP bask1_ 0]), (15, l'v), (16, vI (l'.length : Int)), (17, vI x1_)] [] tt ll ∧ nn = n8 + 1) (N + 1) ?_ ?_
 ·exact ⟨N, 0, hM, Ak rfl rfl, rfl⟩
 clear hM; rintro t l _ ⟨n8, x1_, hM, ⟨⟨T, rfl⟩, rfl⟩, rfl⟩
 rcases n8 with _ | n8
 ·exact absurd hM (by simp [DP])
 rw [DP] at hM
 refine Ad <| r_V (vB (decide (x1_ < (l'.length : Int)))) rfl <| Aa <| Ai fun K10 hK10 => Af _ rfl (fun hc11 => ?_) (fun hc11 => ?_)
 ·replace hM := iD hc11 hM
  refine Ah <| hK10 _ _ ?_
  refine Ai fun K12 hK12 => Ap <| Ad <| r_V (vI x1_) rfl ?_
  obtain ⟨ck14, hM⟩ := Ae hM
  obtain ⟨_, ⟨s15, s16, s17, hs18, hs19, hs20, rfl⟩, hat21⟩ := RdN.at (E := encr_72) hl' (AA ck14)
  refine r_W (elA l'v (x1_.toNat * 7)) rfl (AD (An rfl rfl rfl (RdN.shp hl') ck14)) <| Eo (vA #[vS (l'[x1_.toNat]!.1), vI (l'[x1_.toNat]!.2.1), s15, s16, vI (l'[x1_.toNat]!.2.2.2.2.1), s17, vI (l'[x1_.toNat]!.2.2.2.2.2.2)]) (vs := [vS (l'[x1_.toNat]!.1), vI (l'[x1_.toNat]!.2.1), s15, s16, vI (l'[x1_.toNat]!.2.2.2.2.1), s17, vI (l'[x1_.toNat]!.2.2.2.2.2.2)]) (x1_.toNat * 7) 0 rfl rfl (fun o w z_ => At.mono z_.ro_cell hat21) rfl <| r_a (72, #[Value.string (⟨#[]⟩), vI 0, nS, nS, vI 0, nS, vI 0]) rfl rfl rfl (fun b22 => ?_) (.inr rfl)
  refine r_V (vI x1_) rfl <| r_s (KW b22 (l'[x1_.toNat]!.1) (l'[x1_.toNat]!.2.1) s15 s16 (l'[x1_.toNat]!.2.2.2.2.1) s17 (l'[x1_.toNat]!.2.2.2.2.2.2)) 0 _ _ _ _ _ (#[vS (l'[x1_.toNat]!.1), vI (l'[x1_.toNat]!.2.1), s15, s16, vI (l'[x1_.toNat]!.2.2.2.2.1), s17, vI (l'[x1_.toNat]!.2.2.2.2.2.2)]) rfl rfl rfl rfl (.ofS rfl rfl (Ao rfl (Ao rfl (Ao (Shp.one (Rd.shp hs18)) (Ao (Shp.one (Rd.shp hs19)) (Ao rfl (Ao (Shp.one (Rd.shp hs20)) (Ao rfl Bi)))))))) rfl rfl <| Aa ?_
  refine AL [(some 25, false)] (conG prog [(25, cV (Es N x1_ (l'[x1_.toNat]!.1) (l'[x1_.toNat]!.2.1) (l'[x1_.toNat]!.2.2.1) (l'[x1_.toNat]!.2.2.2.1) (l'[x1_.toNat]!.2.2.2.2.1) (l'[x1_.toNat]!.2.2.2.2.2.1) (l'[x1_.toNat]!.2.2.2.2.2.2) ask0_ ask1_p0_0_) fun u0_ => vI u0_)]) <| r_R [vF 193 #[] #[vP bask0_ 0, vP bask1_ 0], vI x1_] rfl <| rl (vA #[vS (l'[x1_.toNat]!.1), vI (l'[x1_.toNat]!.2.1), s15, s16, vI (l'[x1_.toNat]!.2.2.2.2.1), s17, vI (l'[x1_.toNat]!.2.2.2.2.2.2)]) 0 ?_
  obtain ⟨r24, hr25, hM⟩ := Ab hM
  refine rg (vI r24) (AX (caps := [vP bask0_ 0, vP bask1_ 0]) rfl Zj rfl) (fun o w z_ => Mk N x1_ (l'[x1_.toNat]!.1) (l'[x1_.toNat]!.2.1) (l'[x1_.toNat]!.2.2.1) (l'[x1_.toNat]!.2.2.2.1) (l'[x1_.toNat]!.2.2.2.2.1) (l'[x1_.toNat]!.2.2.2.2.2.1) (l'[x1_.toNat]!.2.2.2.2.2.2) ask0_ ask1_p0_0_ _ hr25 z_.view s15 ((Av hs18) o w z_) s16 ((Av hs19) o w z_) s17 ((Av hs20) o w z_) bask0_ ask0_v ((Av hask0_) o w z_) (AK hbask0_ o w z_) bask1_ ask1_p0_0_v (Bun35R.mono z_.ro_cell hask1_p0_0_) (AK hbask1_ o w z_)) (AF hr25) <| r_V (vI r24) rfl ?_
  refine Aa <| Ad <| r_R [vI r24, vB (r24 != 0)] rfl <| Aa <| Af _ rfl (fun hc27 => ?_) (fun hc27 => ?_)
  ·replace hM := iN hc27 hM
   refine Ad <| r_R [vI x1_, vI r24, vI x1_, vI r24] rfl <| Aa ?_
   cases hM
   exact aR eV2
  replace hM := iM hc27 hM
  refine Ah <| hK12 _ _ ?_
  refine Ax ?_
  obtain ⟨ck29, hM⟩ := Ae hM
  refine r_X (vI (x1_ + 1)) rfl (AR rfl ck29.1 ck29.2) rfl <| r_V (vI (x1_ + 1)) rfl <| Aa <| fg _ (Sub.of (suC _ suN)) ?_
  exact ⟨n8 + 1, by omega, n8, (x1_ + 1), hM, Ak rfl rfl, rfl⟩
 replace hM := iF hc11 hM
 refine AM <| hK6 _ _ ?_
 refine Ad <| r_R [vI 0, vI 0] rfl <| Aa ?_
 cases hM
 exact aR eV2
def GS (N : Nat) (l' : List ((List UInt8) × Int × (List (Int × Int × Int)) × (List Int) × Int × (List (Int × BitVec 128)) × Int)) (most : Int) (ask0_ : Al) : Option (Int × Int) := (GW N l').bind fun r4 => (FH N l' most r4 ask0_).bind fun r11 => some (r11.1, r11.2)
theorem OJ (N : Nat) (l' : List ((List UInt8) × Int × (List (Int × Int × Int)) × (List Int) × Int × (List (Int × BitVec 128)) × Int)) (most : Int) (ask0_ : Al) (r) (hM : GS N l' most ask0_ = some r) (ro : Ro) (l'v : Value) (hl' : RdN encr_72 ro l'v l') (ask0_v : AP) (hask0_ : Bun35R ro ask0_v ask0_) : DoesI prog 128 #[l'v, vI most, vF 129 #[] #[], vF 130 #[vA (Ac ask0_ ask0_v)] #[]] DZ ro [] (pV (vT #[vI r.1, vI r.2])) := by
 unfold GS at hM
 refine AO follows func128 rfl 20 rfl _ fz4 AT (fun base0_ => ?_)
 refine Ad <| r_a (203, #[vF 130 #[vA (Ac ask0_ ask0_v)] #[]]) rfl rfl rfl (fun b2 => ?_) (.inr rfl)
 refine r_R [vI 0, vI 0] rfl <| Aa <| AL [(some 13, false)] (conG prog [(13, fun _ _ v_ L_ U_ => ∀ u0_, GW N l' = some u0_ → (p1 (fun s_ => s_) 9 encS u0_) v_ L_ U_)]) <| r_R [l'v, vF 129 #[] #[]] rfl ?_
 obtain ⟨r4, hr5, hM⟩ := Ab hM
 refine Iy (Ls := [(Nm b2 (vF 130 #[vA (Ac ask0_ ask0_v)] #[]))]) (fun s6 => s6) 9 encS r4 191 _ rfl rfl rfl (cF Zl) (fun o w z_ => (Does.inv (OO N l' _ hr5 z_.view l'v (RdN.mono z_.ro_cell hl')) _)) (AF hr5) (fun s6 S7 H8 => ?_)
 refine r_a (81, #[nS]) rfl rfl rfl (fun b9 => ?_) (.inr rfl)
 refine r_s (List.flatten [(MD b9 s6), (Nm b2 (vF 130 #[vA (Ac ask0_ ask0_v)] #[])), S7]) 0 _ _ _ _ _ (#[s6]) rfl rfl rfl (Du rfl (Sl.shp H8)) (.ofS rfl rfl (Ao (Shp.one (Sl.shp H8)) Bi)) rfl rfl <| Aa <| AL [(some 17, false)] (conG prog [(17, cV (FH N l' most r4 ask0_) fun u0_ => vT #[vI u0_.1, vI u0_.2])]) <| r_R [l'v, vI most] rfl <| r_W (vF 193 #[] #[vP b9 0, vP b2 0]) rfl (DV rfl) ?_
 obtain ⟨r11, hr12, hM⟩ := Ab hM
 refine rg (vT #[vI r11.1, vI r11.2]) (cF Zk) (fun o w z_ => OS N l' most r4 ask0_ _ hr12 z_.view l'v (RdN.mono z_.ro_cell hl') b9 s6 ((AN H8 (Aw (Ls := [(MD b9 s6), (Nm b2 (vF 130 #[vA (Ac ask0_ ask0_v)] #[])), S7]) (k := 2) rfl rfl)) o w z_) (Bq 0 rfl rfl o w z_) b2 ask0_v (Bun35R.mono z_.ro_cell hask0_) (Bq 1 rfl rfl o w z_)) (AF hr12) <| r_R [vI r11.1, vI r11.2, vI r11.1, vI r11.2] rfl <| Aa ?_
 cases hM
 exact aR eV2
def Dy (N : Nat) (c : Al) : Option (Int × Int) := (GS N c.2.2.2.2.2.2.1 8 c).bind fun r4 => some (r4.1, r4.2)
theorem OW (N : Nat) (c : Al) (r) (hM : Dy N c = some r) (ro : Ro) (cv : AP) (hc : Bun35R ro cv c) : DoesI prog 69 #[vA (Ac c cv)] DZ ro [] (pV (vT #[vI r.1, vI r.2])) := by
 unfold Dy at hM
 refine AO follows func69 rfl 12 rfl _ fz1 AT (fun base0_ => ?_)
 refine Ad <| r_a (92, (Ac c cv)) rfl rfl rfl (fun b2 => ?_) (.inr rfl)
 refine r_R [vI 0, vI 0] rfl <| Aa <| AL [(some 9, false)] (conG prog [(9, cV (GS N c.2.2.2.2.2.2.1 8 c) fun u0_ => vT #[vI u0_.1, vI u0_.2])]) <| r_R [vP b2 0, vP b2 6] rfl <| rl cv.2.2.2.2.2.1 0 <| rl (vA (Ac c cv)) 0 <| r_W (vF 130 #[vA (Ac c cv)] #[]) rfl (Ej rfl rfl) ?_
 obtain ⟨r4, hr5, hM⟩ := Ab hM
 refine rg (vT #[vI r4.1, vI r4.2]) (cF ZU) (fun o w z_ => OJ N c.2.2.2.2.2.2.1 8 c _ hr5 z_.view cv.2.2.2.2.2.1 (RdN.mono z_.ro_cell hc.2.2.2.2.2.1) cv (Bun35R.mono z_.ro_cell hc)) (AF hr5) <| r_R [vI r4.1, vI r4.2, vI r4.1, vI r4.2] rfl <| Aa ?_
 cases hM
 exact aR eV2
def ET (N : Nat) (l' : List ((List UInt8) × Int × (List (Int × Int × Int)) × (List Int) × Int × (List (Int × BitVec 128)) × Int)) (i : Int) : Option Bool := ck ((-9223372036854775808 ≤ ((l'.length : Int) - 1) ∧ ((l'.length : Int) - 1) ≤ 9223372036854775807)) ((Az N i 0 ((l'.length : Int) - 1)).bind fun r4 => some r4)
theorem Nv (N : Nat) (l' : List ((List UInt8) × Int × (List (Int × Int × Int)) × (List Int) × Int × (List (Int × BitVec 128)) × Int)) (i : Int) (r) (hM : ET N l' i = some r) (ro : Ro) (l'v : Value) (hl' : RdN encr_72 ro l'v l') : Does prog 261 #[l'v, vI i] ro [] (pV (vB r)) := by
 unfold ET at hM
 refine Aq follows func261 rfl 10 rfl _ fz2 (fun base0_ => ?_)
 refine Ad <| r_V (vB false) rfl <| Aa <| Ad <| r_R [vI i, l'v] rfl <| r_W (vI (l'.length : Int)) rfl (Aj rfl rfl rfl (RdN.shp hl')) ?_
 obtain ⟨ck3, hM⟩ := Ae hM
 refine r_X (vI ((l'.length : Int) - 1)) rfl (AR rfl ck3.1 ck3.2) rfl ?_
 obtain ⟨r4, hr5, hM⟩ := Ab hM
 refine rc (vB r4) (cF BP) (AI N i 0 ((l'.length : Int) - 1) _ hr5) <| r_V (vB r4) rfl <| Aa ?_
 cases hM
 exact aR eV1
def BJ (N : Nat) (c : Al) (x_0 : Int) (x_1 : Int) (_ : List (Int × Int × Int × Int × BitVec 128)) (_ : List (Int × BitVec 128)) (_ : Int) (_ : Int) : Option Int := if x_0 = 0 then (ET N c.2.2.2.2.2.2.1 x_1).bind fun r9 => (Ag N r9 5).bind fun r11 => some r11 else if x_0 = 1 then (Ag N (x_1 == 0) 5).bind fun r16 => some r16 else if x_0 = 2 then (By N c.2.2.2.2.2.1 x_1).bind fun r21 => (Ag N r21 5).bind fun r23 => some r23 else if x_0 = 3 then (Bz N c x_1).bind fun r28 => (Ag N r28 5).bind fun r30 => some r30 else some 10
theorem LL (N : Nat) (c : Al) (x_0 x_1 : Int) (x_2 : List (Int × Int × Int × Int × BitVec 128)) (x_3 : List (Int × BitVec 128)) (x_4 x_5 r : Int) (hM : BJ N c x_0 x_1 x_2 x_3 x_4 x_5 = some r) (ro : Ro) (cv : AP) (hc : Bun35R ro cv c) (x_2v : Value) (_hx_2 : Rd enc_59 ro x_2v x_2) (x_3v : Value) (_hx_3 : Rd enc_57 ro x_3v x_3) : Does prog 199 #[vA (Ac c cv), vA #[vI x_0, vI x_1, x_2v, x_3v, vI x_4, vI x_5]] ro [] (pV (vI r)) := by
 unfold BJ at hM
 refine Aq follows func199 rfl 39 rfl _ fz2 (fun base0_ => ?_)
 refine Ad <| r_a (92, (Ac c cv)) rfl rfl rfl (fun b2 => ?_) (.inr rfl)
 refine r_a (79, #[vI x_0, vI x_1, x_2v, x_3v, vI x_4, vI x_5]) rfl rfl rfl (fun b3 => ?_) (.inr rfl)
 refine r_V (vI 0) rfl <| Aa <| Ai fun K4 hK4 => Ad <| r_V (vP b3 0) rfl <| rl (vI x_0) 0 <| Aa <| Ap <| Ad <| r_R [vB (x_0 == 0), vB (x_0 == 0)] rfl <| Aa <| Af _ rfl (fun hc7 => ?_) (fun hc7 => ?_)
 ·replace hM := iE hc7 hM
  refine AL [(some 14, false)] (conG prog [(14, cV (ET N c.2.2.2.2.2.2.1 x_1) fun u0_ => vB u0_)]) <| r_R [vP b2 0, vP b2 6] rfl <| rl cv.2.2.2.2.2.1 1 <| r_V (vP b3 1) rfl <| rl (vI x_1) 0 ?_
  obtain ⟨r9, hr10, hM⟩ := Ab hM
  refine rg (vB r9) (cF Yr) (fun o w z_ => Nv N c.2.2.2.2.2.2.1 x_1 _ hr10 z_.view cv.2.2.2.2.2.1 (RdN.mono z_.ro_cell hc.2.2.2.2.2.1)) (AF hr10) ?_
  obtain ⟨r11, hr12, hM⟩ := Ab hM
  refine rc (vI r11) (cF AJ) (AB N r9 5 _ hr12) <| r_V (vI r11) rfl <| Aa ?_
  cases hM
  exact aR eV1
 replace hM := iG hc7 hM
 refine Ad <| r_R [vB (x_0 == 1), vB (x_0 == 1)] rfl <| Aa <| Af _ rfl (fun hc14 => ?_) (fun hc14 => ?_)
 ·replace hM := iE hc14 hM
  refine Ad <| r_V (vP b3 1) rfl <| rl (vI x_1) 0 <| r_V (vB (x_1 == 0)) rfl ?_
  obtain ⟨r16, hr17, hM⟩ := Ab hM
  refine rc (vI r16) (cF AJ) (AB N (x_1 == 0) 5 _ hr17) <| r_V (vI r16) rfl <| Aa ?_
  cases hM
  exact aR eV1
 replace hM := iG hc14 hM
 refine Ad <| r_R [vB (x_0 == 2), vB (x_0 == 2)] rfl <| Aa <| Af _ rfl (fun hc19 => ?_) (fun hc19 => ?_)
 ·replace hM := iE hc19 hM
  refine AL [(some 29, false)] (conG prog [(29, cV (By N c.2.2.2.2.2.1 x_1) fun u0_ => vB u0_)]) <| r_R [vP b2 0, vP b2 5] rfl <| rl cv.2.2.2.2.1 1 <| r_V (vP b3 1) rfl <| rl (vI x_1) 0 ?_
  obtain ⟨r21, hr22, hM⟩ := Ab hM
  refine rg (vB r21) (cF Ob) (fun o w z_ => Hv N c.2.2.2.2.2.1 x_1 _ hr22 z_.view cv.2.2.2.2.1 (RdN.mono z_.ro_cell hc.2.2.2.2.1)) (AF hr22) ?_
  obtain ⟨r23, hr24, hM⟩ := Ab hM
  refine rc (vI r23) (cF AJ) (AB N r21 5 _ hr24) <| r_V (vI r23) rfl <| Aa ?_
  cases hM
  exact aR eV1
 replace hM := iG hc19 hM
 refine Ad <| r_R [vB (x_0 == 3), vB (x_0 == 3)] rfl <| Aa <| Af _ rfl (fun hc26 => ?_) (fun hc26 => ?_)
 ·replace hM := iE hc26 hM
  refine AL [(some 37, false)] (conG prog [(37, cV (Bz N c x_1) fun u0_ => vB u0_)]) <| r_V (vP b2 0) rfl <| rl (vA (Ac c cv)) 1 <| r_V (vP b3 1) rfl <| rl (vI x_1) 0 ?_
  obtain ⟨r28, hr29, hM⟩ := Ab hM
  refine rg (vB r28) (cF Oj) (fun o w z_ => Ir N c x_1 _ hr29 z_.view cv (Bun35R.mono z_.ro_cell hc)) (AF hr29) ?_
  obtain ⟨r30, hr31, hM⟩ := Ab hM
  refine rc (vI r30) (cF AJ) (AB N r28 5 _ hr31) <| r_V (vI r30) rfl <| Aa ?_
  cases hM
  exact aR eV1
 replace hM := iG hc26 hM
 refine Ah <| hK4 _ _ ?_
 refine Ad <| r_V (vI 10) rfl <| Aa ?_
 cases hM
 exact aR eV1
def BN (N : Nat) (c : Al) (x_0 : Int) (_ : Int) (x_2 : List (Int × Int × Int × Int × BitVec 128)) (_ : List (Int × BitVec 128)) (_ : Int) (_ : Int) : Option Int := if x_0 = 1 then (Cq N c ([]) x_2).bind fun r8 => some r8 else (Ag N ((x_2.length : Int) == 0) 4).bind fun r11 => some r11
theorem Mt (N : Nat) (c : Al) (x_0 x_1 : Int) (x_2 : List (Int × Int × Int × Int × BitVec 128)) (x_3 : List (Int × BitVec 128)) (x_4 x_5 r : Int) (hM : BN N c x_0 x_1 x_2 x_3 x_4 x_5 = some r) (ro : Ro) (cv : AP) (hc : Bun35R ro cv c) (x_2v : Value) (hx_2 : Rd enc_59 ro x_2v x_2) (x_3v : Value) (_hx_3 : Rd enc_57 ro x_3v x_3) : DoesI prog 200 #[vA (Ac c cv), vA #[vI x_0, vI x_1, x_2v, x_3v, vI x_4, vI x_5]] DZ ro [] (pV (vI r)) := by
 unfold BN at hM
 refine AO follows func200 rfl 18 rfl _ fz2 AT (fun base0_ => ?_)
 refine Ad <| r_a (92, (Ac c cv)) rfl rfl rfl (fun b2 => ?_) (.inr rfl)
 refine r_a (79, #[vI x_0, vI x_1, x_2v, x_3v, vI x_4, vI x_5]) rfl rfl rfl (fun b3 => ?_) (.inr rfl)
 refine r_V (vI 0) rfl <| Aa <| Ai fun K4 hK4 => Ad <| r_V (vP b3 0) rfl <| rl (vI x_0) 0 <| r_V (vB (x_0 == 1)) rfl <| Aa <| Af _ rfl (fun hc6 => ?_) (fun hc6 => ?_)
 ·replace hM := iE hc6 hM
  refine AL [(some 12, false)] (conG prog [(12, cV (Cq N c ([]) x_2) fun u0_ => vI u0_)]) <| r_V (vP b2 0) rfl <| rl (vA (Ac c cv)) 1 <| r_V (vP b3 2) rfl <| rl x_2v 0 ?_
  obtain ⟨r8, hr9, hM⟩ := Ab hM
  refine rg (vI r8) (cF SD) (fun o w z_ => Md N c ([]) x_2 _ hr9 z_.view cv (Bun35R.mono z_.ro_cell hc) nS ((fun _ _ _ => .inl ⟨rfl, rfl⟩) o w z_) x_2v ((Av hx_2) o w z_)) (AF hr9) <| r_V (vI r8) rfl <| Aa ?_
  cases hM
  exact aR eV1
 replace hM := iG hc6 hM
 refine Ah <| hK4 _ _ ?_
 refine Ad <| r_V (vP b3 2) rfl <| rl x_2v 0 <| r_W (vI (x_2.length : Int)) rfl (Aj rfl rfl rfl (Rd.shp hx_2)) <| r_V (vB (((x_2.length : Int) == 0))) rfl ?_
 obtain ⟨r11, hr12, hM⟩ := Ab hM
 refine rc (vI r11) (cF AJ) (AB N ((x_2.length : Int) == 0) 4 _ hr12) <| r_V (vI r11) rfl <| Aa ?_
 cases hM
 exact aR eV1
def BO (N : Nat) (c : Al) (x_0 : Int) (x_1 : Int) (_ : List (Int × Int × Int × Int × BitVec 128)) (x_3 : List (Int × BitVec 128)) (_ : Int) (_ : Int) : Option Int := if x_0 = 2 then (Ct N c x_1 x_3).bind fun r8 => some r8 else (Ag N ((x_3.length : Int) == 0) 4).bind fun r11 => some r11
theorem Mu (N : Nat) (c : Al) (x_0 x_1 : Int) (x_2 : List (Int × Int × Int × Int × BitVec 128)) (x_3 : List (Int × BitVec 128)) (x_4 x_5 r : Int) (hM : BO N c x_0 x_1 x_2 x_3 x_4 x_5 = some r) (ro : Ro) (cv : AP) (hc : Bun35R ro cv c) (x_2v : Value) (_hx_2 : Rd enc_59 ro x_2v x_2) (x_3v : Value) (hx_3 : Rd enc_57 ro x_3v x_3) : Does prog 201 #[vA (Ac c cv), vA #[vI x_0, vI x_1, x_2v, x_3v, vI x_4, vI x_5]] ro [] (pV (vI r)) := by
 unfold BO at hM
 refine Aq follows func201 rfl 19 rfl _ fz2 (fun base0_ => ?_)
 refine Ad <| r_a (92, (Ac c cv)) rfl rfl rfl (fun b2 => ?_) (.inr rfl)
 refine r_a (79, #[vI x_0, vI x_1, x_2v, x_3v, vI x_4, vI x_5]) rfl rfl rfl (fun b3 => ?_) (.inr rfl)
 refine r_V (vI 0) rfl <| Aa <| Ai fun K4 hK4 => Ad <| r_V (vP b3 0) rfl <| rl (vI x_0) 0 <| r_V (vB (x_0 == 2)) rfl <| Aa <| Af _ rfl (fun hc6 => ?_) (fun hc6 => ?_)
 ·replace hM := iE hc6 hM
  refine AL [(some 13, false)] (conG prog [(13, cV (Ct N c x_1 x_3) fun u0_ => vI u0_)]) <| rl (vA (Ac c cv)) 1 <| r_V (vP b3 1) rfl <| rl (vI x_1) 0 <| r_V (vP b3 3) rfl <| rl x_3v 0 ?_
  obtain ⟨r8, hr9, hM⟩ := Ab hM
  refine rg (vI r8) (cF SC) (fun o w z_ => Mf N c x_1 x_3 _ hr9 z_.view cv (Bun35R.mono z_.ro_cell hc) x_3v ((Av hx_3) o w z_)) (AF hr9) <| r_V (vI r8) rfl <| Aa ?_
  cases hM
  exact aR eV1
 replace hM := iG hc6 hM
 refine Ah <| hK4 _ _ ?_
 refine Ad <| r_V (vP b3 3) rfl <| rl x_3v 0 <| r_W (vI (x_3.length : Int)) rfl (Aj rfl rfl rfl (Rd.shp hx_3)) <| r_V (vB (((x_3.length : Int) == 0))) rfl ?_
 obtain ⟨r11, hr12, hM⟩ := Ab hM
 refine rc (vI r11) (cF AJ) (AB N ((x_3.length : Int) == 0) 4 _ hr12) <| r_V (vI r11) rfl <| Aa ?_
 cases hM
 exact aR eV1
def BI (N : Nat) (x_0 : Int) (_ : Int) (_ : List (Int × Int × Int × Int × BitVec 128)) (_ : List (Int × BitVec 128)) (x_4 : Int) (x_5 : Int) (at' : Int) (end' : Int) : Option Int := ck (-9223372036854775808 ≤ (at' + 1) ∧ (at' + 1) ≤ 9223372036854775807) ((Az N x_4 (at' + 1) end').bind fun r5 => (Ag N r5 12).bind fun r7 => if x_0 = 2 then (Ag N (x_5 == 0) 4).bind fun r13 => (As N ([r13, r7])).bind fun r18 => some r18 else ck (-9223372036854775808 ≤ (at' + 1) ∧ (at' + 1) ≤ 9223372036854775807) ((Az N x_5 (at' + 1) end').bind fun r22 => (Ag N r22 12).bind fun r24 => (As N ([r7, r24])).bind fun r29 => some r29))
theorem LI (N : Nat) (x_0 x_1 : Int) (x_2 : List (Int × Int × Int × Int × BitVec 128)) (x_3 : List (Int × BitVec 128)) (x_4 x_5 at' end' r : Int) (hM : BI N x_0 x_1 x_2 x_3 x_4 x_5 at' end' = some r) (ro : Ro) (x_2v : Value) (_hx_2 : Rd enc_59 ro x_2v x_2) (x_3v : Value) (_hx_3 : Rd enc_57 ro x_3v x_3) : Does prog 202 #[vA #[vI x_0, vI x_1, x_2v, x_3v, vI x_4, vI x_5], vI at', vI end'] ro [] (pV (vI r)) := by
 unfold BI at hM
 refine Aq follows func202 rfl 35 rfl _ fz3 (fun base0_ => ?_)
 refine Ad <| r_a (79, #[vI x_0, vI x_1, x_2v, x_3v, vI x_4, vI x_5]) rfl rfl rfl (fun b2 => ?_) (.inr rfl)
 refine r_V (vI 0) rfl <| Aa <| Ad <| r_V (vP b2 4) rfl <| rl (vI x_4) 0 <| r_V (vI at') rfl ?_
 obtain ⟨ck4, hM⟩ := Ae hM
 refine r_X (vI (at' + 1)) rfl (AR rfl ck4.1 ck4.2) rfl <| r_V (vI end') rfl ?_
 obtain ⟨r5, hr6, hM⟩ := Ab hM
 refine rc (vB r5) (cF BP) (AI N x_4 (at' + 1) end' _ hr6) ?_
 obtain ⟨r7, hr8, hM⟩ := Ab hM
 refine rc (vI r7) (cF AJ) (AB N r5 12 _ hr8) <| r_V (vI r7) rfl <| Aa <| Ai fun K9 hK9 => Ad <| r_V (vP b2 0) rfl <| rl (vI x_0) 0 <| r_V (vB (x_0 == 2)) rfl <| Aa <| Af _ rfl (fun hc11 => ?_) (fun hc11 => ?_)
 ·replace hM := iE hc11 hM
  refine AL [(some 23, false), (some 24, false)] (conG prog [(24, fun _ _ v_ L_ U_ => ∀ u0_, Ag N (x_5 == 0) 4 = some u0_ → ∀ u1_, As N ([u0_, r7]) = some u1_ → (pV (vI u1_)) v_ L_ U_)]) <| r_V (vP b2 5) rfl <| rl (vI x_5) 0 <| r_V (vB (x_5 == 0)) rfl ?_
  obtain ⟨r13, hr14, hM⟩ := Ab hM
  refine rc (vI r13) (cF AJ) (AB N (x_5 == 0) 4 _ hr14) <| r_V (vI r7) rfl <| Dj (cs0 := [(24, fun _ _ v_ L_ U_ => ∀ u0_, Ag N (x_5 == 0) 4 = some u0_ → ∀ u1_, As N ([u0_, r7]) = some u1_ → (pV (vI u1_)) v_ L_ U_)]) (Ls := [(IV b2 x_0 x_1 x_2v x_3v x_4 x_5)]) 38 BK [r13, r7] [vI r13, vI r7] [vI 0, vI 0] rfl rfl rfl rfl rfl rfl rfl (by kernel_rfl) (by kernel_rfl) rfl rfl rfl (fun s15 S16 H17 => ?_)
  obtain ⟨r18, hr19, hM⟩ := Ab hM
  refine rg (vI r18) (cF Br) (fun o w z_ => Bb N ([r13, r7]) _ hr19 z_.view s15 ((AN H17 (Aw (Ls := [(IV b2 x_0 x_1 x_2v x_3v x_4 x_5), S16]) (k := 1) rfl rfl)) o w z_)) (fun _ _ v_ L_ U_ => ⟨fun h_ => h_ _ hr14 _ hr19, fun h_ => by intro _ e_; cases Option.some.inj (e_.symm.trans hr14); intro _ e_; cases Option.some.inj (e_.symm.trans hr19); exact h_⟩) ?_
  refine r_V (vI r18) rfl <| Aa ?_
  cases hM
  exact aR eV1
 replace hM := iG hc11 hM
 refine Ah <| hK9 _ _ ?_
 refine AL [(some 33, false), (some 34, false)] (conG prog [(34, fun _ _ v_ L_ U_ => ∀ u0_, Az N x_5 (at' + 1) end' = some u0_ → ∀ u1_, Ag N u0_ 12 = some u1_ → ∀ u2_, As N ([r7, u1_]) = some u2_ → (pV (vI u2_)) v_ L_ U_)]) <| r_R [vI r7, vP b2 5] rfl <| rl (vI x_5) 0 <| r_V (vI at') rfl ?_
 obtain ⟨ck21, hM⟩ := Ae hM
 refine r_X (vI (at' + 1)) rfl (AR rfl ck21.1 ck21.2) rfl <| r_V (vI end') rfl ?_
 obtain ⟨r22, hr23, hM⟩ := Ab hM
 refine rc (vB r22) (cF BP) (AI N x_5 (at' + 1) end' _ hr23) ?_
 obtain ⟨r24, hr25, hM⟩ := Ab hM
 refine rc (vI r24) (cF AJ) (AB N r22 12 _ hr25) <| Dj (cs0 := [(34, fun _ _ v_ L_ U_ => ∀ u0_, Az N x_5 (at' + 1) end' = some u0_ → ∀ u1_, Ag N u0_ 12 = some u1_ → ∀ u2_, As N ([r7, u1_]) = some u2_ → (pV (vI u2_)) v_ L_ U_)]) (Ls := [(IV b2 x_0 x_1 x_2v x_3v x_4 x_5)]) 38 BK [r7, r24] [vI r7, vI r24] [vI 0, vI 0] rfl rfl rfl rfl rfl rfl rfl (by kernel_rfl) (by kernel_rfl) rfl rfl rfl (fun s26 S27 H28 => ?_)
 obtain ⟨r29, hr30, hM⟩ := Ab hM
 refine rg (vI r29) (cF Br) (fun o w z_ => Bb N ([r7, r24]) _ hr30 z_.view s26 ((AN H28 (Aw (Ls := [(IV b2 x_0 x_1 x_2v x_3v x_4 x_5), S27]) (k := 1) rfl rfl)) o w z_)) (fun _ _ v_ L_ U_ => ⟨fun h_ => h_ _ hr23 _ hr25 _ hr30, fun h_ => by intro _ e_; cases Option.some.inj (e_.symm.trans hr23); intro _ e_; cases Option.some.inj (e_.symm.trans hr25); intro _ e_; cases Option.some.inj (e_.symm.trans hr30); exact h_⟩) ?_
 refine r_V (vI r29) rfl <| Aa ?_
 cases hM
 exact aR eV1
def CV (N : Nat) (i : Int) (x_0 : Int) (x_1 : Int) (x_2 : List (Int × Int × Int × Int × BitVec 128)) (x_3 : List (Int × BitVec 128)) (x_4 : Int) (x_5 : Int) (c2_ : Al) (c3_ : List (Int × Int × (List (Int × Int × Int × Int × BitVec 128)) × (List (Int × BitVec 128)) × Int × Int)) : Option Int := (BJ N c2_ x_0 x_1 x_2 x_3 x_4 x_5).bind fun r4 => (BN N c2_ x_0 x_1 x_2 x_3 x_4 x_5).bind fun r6 => (BO N c2_ x_0 x_1 x_2 x_3 x_4 x_5).bind fun r8 => (BI N x_0 x_1 x_2 x_3 x_4 x_5 i (c3_.length : Int)).bind fun r10 => (As N ([r4, r6, r8, r10])).bind fun r15 => some r15
theorem NF (N : Nat) (i x_0 x_1 : Int) (x_2 : List (Int × Int × Int × Int × BitVec 128)) (x_3 : List (Int × BitVec 128)) (x_4 x_5 : Int) (c2_ : Al) (c3_ : List (Int × Int × (List (Int × Int × Int × Int × BitVec 128)) × (List (Int × BitVec 128)) × Int × Int)) (r) (hM : CV N i x_0 x_1 x_2 x_3 x_4 x_5 c2_ c3_ = some r) (ro : Ro) (x_2v : Value) (hx_2 : Rd enc_59 ro x_2v x_2) (x_3v : Value) (hx_3 : Rd enc_57 ro x_3v x_3) (bc2_ : Nat) (c2_v : AP) (hc2_ : Bun35R ro c2_v c2_) (hbc2_ : Blk ro bc2_ (Ch c2_ c2_v)) (bc3_ : Nat) (c3_v : Value) (hc3_ : RdN encr_79 ro c3_v c3_) (hbc3_ : Blk ro bc3_ [c3_v]) : DoesI prog 198 #[vI i, vA #[vI x_0, vI x_1, x_2v, x_3v, vI x_4, vI x_5], vP bc2_ 0, vP bc3_ 0] DZ ro [] (pV (vI r)) := by
 unfold CV at hM
 refine AO follows func198 rfl 23 rfl _ fz4 AT (fun base0_ => ?_)
 refine Ad <| r_a (79, #[vI x_0, vI x_1, x_2v, x_3v, vI x_4, vI x_5]) rfl rfl rfl (fun b2 => ?_) (.inr rfl)
 refine r_V (vI 0) rfl <| Aa <| Ai fun K3 hK3 => ?_
 refine Ck [(some 9, false), (some 12, false), (some 15, false), (some 20, false), (some 21, false), (some 22, false)] (conG prog [(9, cV (BJ N c2_ x_0 x_1 x_2 x_3 x_4 x_5) fun u0_ => vI u0_), (12, cV (BN N c2_ x_0 x_1 x_2 x_3 x_4 x_5) fun u0_ => vI u0_), (15, cV (BO N c2_ x_0 x_1 x_2 x_3 x_4 x_5) fun u0_ => vI u0_), (20, cV (BI N x_0 x_1 x_2 x_3 x_4 x_5 i (c3_.length : Int)) fun u0_ => vI u0_), (22, fun _ _ v_ L_ U_ => ∀ u0_, BJ N c2_ x_0 x_1 x_2 x_3 x_4 x_5 = some u0_ → ∀ u1_, BN N c2_ x_0 x_1 x_2 x_3 x_4 x_5 = some u1_ → ∀ u2_, BO N c2_ x_0 x_1 x_2 x_3 x_4 x_5 = some u2_ → ∀ u3_, BI N x_0 x_1 x_2 x_3 x_4 x_5 i (c3_.length : Int) = some u3_ → ∀ u4_, As N ([u0_, u1_, u2_, u3_]) = some u4_ → (pV (vI u4_)) v_ L_ U_)]) [] (by decide +kernel) (fun hn => Be) ?_
 refine CR (vA (Ac c2_ c2_v)) (vs := (Ch c2_ c2_v)) (o := 0) rfl rfl (AK hbc2_) rfl <| rl (vA #[vI x_0, vI x_1, x_2v, x_3v, vI x_4, vI x_5]) 0 ?_
 obtain ⟨r4, hr5, hM⟩ := Ab hM
 refine rg (vI r4) (cF Ze) (fun o w z_ => (Does.inv (LL N c2_ x_0 x_1 x_2 x_3 x_4 x_5 _ hr5 z_.view c2_v (Bun35R.mono z_.ro_cell hc2_) x_2v ((Av hx_2) o w z_) x_3v ((Av hx_3) o w z_)) _)) (AF hr5) <| CR (vA (Ac c2_ c2_v)) (vs := (Ch c2_ c2_v)) (o := 0) rfl rfl (AK hbc2_) rfl <| rl (vA #[vI x_0, vI x_1, x_2v, x_3v, vI x_4, vI x_5]) 0 ?_
 obtain ⟨r6, hr7, hM⟩ := Ab hM
 refine rg (vI r6) (cF Zd) (fun o w z_ => Mt N c2_ x_0 x_1 x_2 x_3 x_4 x_5 _ hr7 z_.view c2_v (Bun35R.mono z_.ro_cell hc2_) x_2v ((Av hx_2) o w z_) x_3v ((Av hx_3) o w z_)) (AF hr7) <| CR (vA (Ac c2_ c2_v)) (vs := (Ch c2_ c2_v)) (o := 0) rfl rfl (AK hbc2_) rfl <| rl (vA #[vI x_0, vI x_1, x_2v, x_3v, vI x_4, vI x_5]) 0 ?_
 obtain ⟨r8, hr9, hM⟩ := Ab hM
 refine rg (vI r8) (cF Zc) (fun o w z_ => (Does.inv (Mu N c2_ x_0 x_1 x_2 x_3 x_4 x_5 _ hr9 z_.view c2_v (Bun35R.mono z_.ro_cell hc2_) x_2v ((Av hx_2) o w z_) x_3v ((Av hx_3) o w z_)) _)) (AF hr9) <| rl (vA #[vI x_0, vI x_1, x_2v, x_3v, vI x_4, vI x_5]) 0 <| r_V (vI i) rfl <| CR c3_v (vs := [c3_v]) (o := 0) rfl rfl (AK hbc3_) rfl <| r_W (vI (c3_.length : Int)) rfl (Aj rfl rfl rfl (RdN.shp hc3_)) ?_
 obtain ⟨r10, hr11, hM⟩ := Ab hM
 refine rg (vI r10) (cF Zb) (fun o w z_ => (Does.inv (LI N x_0 x_1 x_2 x_3 x_4 x_5 i (c3_.length : Int) _ hr11 z_.view x_2v ((Av hx_2) o w z_) x_3v ((Av hx_3) o w z_)) _)) (AF hr11) ?_
 refine Dj (cs0 := [(9, cV (BJ N c2_ x_0 x_1 x_2 x_3 x_4 x_5) fun u0_ => vI u0_), (12, cV (BN N c2_ x_0 x_1 x_2 x_3 x_4 x_5) fun u0_ => vI u0_), (15, cV (BO N c2_ x_0 x_1 x_2 x_3 x_4 x_5) fun u0_ => vI u0_), (20, cV (BI N x_0 x_1 x_2 x_3 x_4 x_5 i (c3_.length : Int)) fun u0_ => vI u0_), (22, fun _ _ v_ L_ U_ => ∀ u0_, BJ N c2_ x_0 x_1 x_2 x_3 x_4 x_5 = some u0_ → ∀ u1_, BN N c2_ x_0 x_1 x_2 x_3 x_4 x_5 = some u1_ → ∀ u2_, BO N c2_ x_0 x_1 x_2 x_3 x_4 x_5 = some u2_ → ∀ u3_, BI N x_0 x_1 x_2 x_3 x_4 x_5 i (c3_.length : Int) = some u3_ → ∀ u4_, As N ([u0_, u1_, u2_, u3_]) = some u4_ → (pV (vI u4_)) v_ L_ U_)]) (Ls := [(IV b2 x_0 x_1 x_2v x_3v x_4 x_5)]) 38 BK [r4, r6, r8, r10] [vI r4, vI r6, vI r8, vI r10] [vI 0, vI 0, vI 0, vI 0] rfl rfl rfl rfl rfl rfl rfl (by kernel_rfl) (by kernel_rfl) rfl rfl rfl (fun s12 S13 H14 => ?_)
 obtain ⟨r15, hr16, hM⟩ := Ab hM
 refine rg (vI r15) (cF Br) (fun o w z_ => (Does.inv (Bb N ([r4, r6, r8, r10]) _ hr16 z_.view s12 ((AN H14 (Aw (Ls := [(IV b2 x_0 x_1 x_2v x_3v x_4 x_5), S13]) (k := 1) rfl rfl)) o w z_)) _)) (fun _ _ v_ L_ U_ => ⟨fun h_ => h_ _ hr5 _ hr7 _ hr9 _ hr11 _ hr16, fun h_ => by intro _ e_; cases Option.some.inj (e_.symm.trans hr5); intro _ e_; cases Option.some.inj (e_.symm.trans hr7); intro _ e_; cases Option.some.inj (e_.symm.trans hr9); intro _ e_; cases Option.some.inj (e_.symm.trans hr11); intro _ e_; cases Option.some.inj (e_.symm.trans hr16); exact h_⟩) ?_
 refine r_V (vI r15) rfl <| Aa <| hK3 _ _ ?_
 cases hM
 exact aR eV1
def EB (N : Nat) (l' : List (Int × Int × (List (Int × Int × Int × Int × BitVec 128)) × (List (Int × BitVec 128)) × Int × Int)) (ask0_ : Al) (ask1_ : List (Int × Int × (List (Int × Int × Int × Int × BitVec 128)) × (List (Int × BitVec 128)) × Int × Int)) : Nat → Int → Option (Int × Int)
  | 0, _ => none
  | n8 + 1, x1_ => if x1_ < (l'.length : Int) then ck (0 ≤ x1_ ∧ x1_ < (l'.length : Int)) ((CV N x1_ (l'[x1_.toNat]!.1) (l'[x1_.toNat]!.2.1) (l'[x1_.toNat]!.2.2.1) (l'[x1_.toNat]!.2.2.2.1) (l'[x1_.toNat]!.2.2.2.2.1) (l'[x1_.toNat]!.2.2.2.2.2) ask0_ ask1_).bind fun r22 => if (r22 : Int) ≠ 0 then some (x1_, r22) else ck (-9223372036854775808 ≤ (x1_ + 1) ∧ (x1_ + 1) ≤ 9223372036854775807) ((EB N l' ask0_ ask1_ n8) (x1_ + 1))) else some (0, 0)
def Gx (N : Nat) (l' : List (Int × Int × (List (Int × Int × Int × Int × BitVec 128)) × (List (Int × BitVec 128)) × Int × Int)) (most : Int) (ask0_ : Al) (ask1_ : List (Int × Int × (List (Int × Int × Int × Int × BitVec 128)) × (List (Int × BitVec 128)) × Int × Int)) : Option (Int × Int) := if (l'.length : Int) > most then some (0, 2) else EB N l' ask0_ ask1_ N 0
theorem Qt (N : Nat) (l' : List (Int × Int × (List (Int × Int × Int × Int × BitVec 128)) × (List (Int × BitVec 128)) × Int × Int)) (most : Int) (ask0_ : Al) (ask1_ : List (Int × Int × (List (Int × Int × Int × Int × BitVec 128)) × (List (Int × BitVec 128)) × Int × Int)) (r) (hM : Gx N l' most ask0_ ask1_ = some r) (ro : Ro) (l'v : Value) (hl' : RdN encr_79 ro l'v l') (bask0_ : Nat) (ask0_v : AP) (hask0_ : Bun35R ro ask0_v ask0_) (hbask0_ : Blk ro bask0_ (Ch ask0_ ask0_v)) (bask1_ : Nat) (ask1_v : Value) (hask1_ : RdN encr_79 ro ask1_v ask1_) (hbask1_ : Blk ro bask1_ [ask1_v]) : DoesI prog 197 #[l'v, vI most, vF 198 #[] #[vP bask0_ 0, vP bask1_ 0]] DZ ro [] (pV (vT #[vI r.1, vI r.2])) := by
 unfold Gx at hM
 refine AO follows func197 rfl 31 rfl _ fz3 AT (fun base0_ => ?_)
 refine Ad <| r_R [vI 0, vI 0] rfl <| Aa <| Ai fun K2 hK2 => Ad <| r_V l'v rfl <| r_W (vI (l'.length : Int)) rfl (Aj rfl rfl rfl (RdN.shp hl')) <| r_R [vI most, vB (decide ((l'.length : Int) > most))] rfl <| Aa <| Af _ rfl (fun hc4 => ?_) (fun hc4 => ?_)
 ·replace hM := iD hc4 hM
  refine Ad <| r_R [vI 0, vI 2] rfl <| Aa ?_
  cases hM
  exact aR eV2
 replace hM := iF hc4 hM
 refine Ah <| hK2 _ _ ?_
 refine Ai fun K6 hK6 => Ad <| r_V l'v rfl <| r_W (vI (l'.length : Int)) rfl (Aj rfl rfl rfl (RdN.shp hl')) <| r_V (vI 0) rfl <| Aa <| Ap <| AS (fun tt ll nn => ∃ (n8 : Nat) (x1_ : Int), (EB N l' ask0_ ask1_ n8 x1_ = some r) ∧ Is [(2, vF 198 #[] #[vP bask0_ 0, vP bask1_ 0]), (15, l'v), (16, vI (l'.length : Int)), (17, vI x1_)] [] tt ll ∧ nn = n8 + 1) (N + 1) ?_ ?_
 ·exact ⟨N, 0, hM, Ak rfl rfl, rfl⟩
 clear hM; rintro t l _ ⟨n8, x1_, hM, ⟨⟨T, rfl⟩, rfl⟩, rfl⟩
 rcases n8 with _ | n8
 ·exact absurd hM (by simp [EB])
 rw [EB] at hM
 refine Ad <| r_V (vB (decide (x1_ < (l'.length : Int)))) rfl <| Aa <| Ai fun K10 hK10 => Af _ rfl (fun hc11 => ?_) (fun hc11 => ?_)
 ·replace hM := iD hc11 hM
  refine Ah <| hK10 _ _ ?_
  refine Ai fun K12 hK12 => Ap <| Ad <| r_V (vI x1_) rfl ?_
  obtain ⟨ck14, hM⟩ := Ae hM
  obtain ⟨_, ⟨s15, s16, hs17, hs18, rfl⟩, hat19⟩ := RdN.at (E := encr_79) hl' (AA ck14)
  refine r_W (elA l'v (x1_.toNat * 6)) rfl (AD (An rfl rfl rfl (RdN.shp hl') ck14)) <| Eo (vA #[vI (l'[x1_.toNat]!.1), vI (l'[x1_.toNat]!.2.1), s15, s16, vI (l'[x1_.toNat]!.2.2.2.2.1), vI (l'[x1_.toNat]!.2.2.2.2.2)]) (vs := [vI (l'[x1_.toNat]!.1), vI (l'[x1_.toNat]!.2.1), s15, s16, vI (l'[x1_.toNat]!.2.2.2.2.1), vI (l'[x1_.toNat]!.2.2.2.2.2)]) (x1_.toNat * 6) 0 rfl rfl (fun o w z_ => At.mono z_.ro_cell hat19) rfl <| r_a (79, #[vI 0, vI 0, nS, nS, vI 0, vI 0]) rfl rfl rfl (fun b20 => ?_) (.inr rfl)
  refine r_V (vI x1_) rfl <| r_s (IV b20 (l'[x1_.toNat]!.1) (l'[x1_.toNat]!.2.1) s15 s16 (l'[x1_.toNat]!.2.2.2.2.1) (l'[x1_.toNat]!.2.2.2.2.2)) 0 _ _ _ _ _ (#[vI (l'[x1_.toNat]!.1), vI (l'[x1_.toNat]!.2.1), s15, s16, vI (l'[x1_.toNat]!.2.2.2.2.1), vI (l'[x1_.toNat]!.2.2.2.2.2)]) rfl rfl rfl rfl (.ofS rfl rfl (Ao rfl (Ao rfl (Ao (Shp.one (Rd.shp hs17)) (Ao (Shp.one (Rd.shp hs18)) (Ao rfl (Ao rfl Bi))))))) rfl rfl <| Aa ?_
  refine AL [(some 25, false)] (conG prog [(25, cV (CV N x1_ (l'[x1_.toNat]!.1) (l'[x1_.toNat]!.2.1) (l'[x1_.toNat]!.2.2.1) (l'[x1_.toNat]!.2.2.2.1) (l'[x1_.toNat]!.2.2.2.2.1) (l'[x1_.toNat]!.2.2.2.2.2) ask0_ ask1_) fun u0_ => vI u0_)]) <| r_R [vF 198 #[] #[vP bask0_ 0, vP bask1_ 0], vI x1_] rfl <| rl (vA #[vI (l'[x1_.toNat]!.1), vI (l'[x1_.toNat]!.2.1), s15, s16, vI (l'[x1_.toNat]!.2.2.2.2.1), vI (l'[x1_.toNat]!.2.2.2.2.2)]) 0 ?_
  obtain ⟨r22, hr23, hM⟩ := Ab hM
  refine rg (vI r22) (AX (caps := [vP bask0_ 0, vP bask1_ 0]) rfl Zf rfl) (fun o w z_ => NF N x1_ (l'[x1_.toNat]!.1) (l'[x1_.toNat]!.2.1) (l'[x1_.toNat]!.2.2.1) (l'[x1_.toNat]!.2.2.2.1) (l'[x1_.toNat]!.2.2.2.2.1) (l'[x1_.toNat]!.2.2.2.2.2) ask0_ ask1_ _ hr23 z_.view s15 ((Av hs17) o w z_) s16 ((Av hs18) o w z_) bask0_ ask0_v (Bun35R.mono z_.ro_cell hask0_) (AK hbask0_ o w z_) bask1_ ask1_v (RdN.mono z_.ro_cell hask1_) (AK hbask1_ o w z_)) (AF hr23) <| r_V (vI r22) rfl <| Aa <| Ad <| r_R [vI r22, vB (r22 != 0)] rfl <| Aa ?_
  refine Af _ rfl (fun hc25 => ?_) (fun hc25 => ?_)
  ·replace hM := iN hc25 hM
   refine Ad <| r_R [vI x1_, vI r22, vI x1_, vI r22] rfl <| Aa ?_
   cases hM
   exact aR eV2
  replace hM := iM hc25 hM
  refine Ah <| hK12 _ _ ?_
  refine Ax ?_
  obtain ⟨ck27, hM⟩ := Ae hM
  refine r_X (vI (x1_ + 1)) rfl (AR rfl ck27.1 ck27.2) rfl <| r_V (vI (x1_ + 1)) rfl <| Aa <| fg _ (Sub.of (suC _ suN)) ?_
  exact ⟨n8 + 1, by omega, n8, (x1_ + 1), hM, Ak rfl rfl, rfl⟩
 replace hM := iF hc11 hM
 refine AM <| hK6 _ _ ?_
 refine Ad <| r_R [vI 0, vI 0] rfl <| Aa ?_
 cases hM
 exact aR eV2
def Dr (N : Nat) (c : Al) (l' : List (Int × Int × (List (Int × Int × Int × Int × BitVec 128)) × (List (Int × BitVec 128)) × Int × Int)) : Option (Int × Int) := (Gx N l' 32 c l').bind fun r5 => some (r5.1, r5.2)
theorem Lf (N : Nat) (c : Al) (l' : List (Int × Int × (List (Int × Int × Int × Int × BitVec 128)) × (List (Int × BitVec 128)) × Int × Int)) (r) (hM : Dr N c l' = some r) (ro : Ro) (cv : AP) (hc : Bun35R ro cv c) (l'v : Value) (hl' : RdN encr_79 ro l'v l') : DoesI prog 131 #[vA (Ac c cv), l'v] DZ ro [] (pV (vT #[vI r.1, vI r.2])) := by
 unfold Dr at hM
 refine AO follows func131 rfl 11 rfl _ fz2 AT (fun base0_ => ?_)
 refine Ad <| r_a (92, (Ac c cv)) rfl rfl rfl (fun b2 => ?_) (.inr rfl)
 refine r_a (28, #[l'v]) rfl rfl (HW rfl (RdN.shp hl')) (fun b3 => ?_) (.inr rfl)
 refine r_R [vI 0, vI 0] rfl <| Aa <| AL [(some 8, false)] (conG prog [(8, cV (Gx N l' 32 c l') fun u0_ => vT #[vI u0_.1, vI u0_.2])]) <| rl l'v 0 <| r_W (vF 198 #[] #[vP b2 0, vP b3 0]) rfl (DV rfl) ?_
 obtain ⟨r5, hr6, hM⟩ := Ab hM
 refine rg (vT #[vI r5.1, vI r5.2]) (cF Zg) (fun o w z_ => Qt N l' 32 c l' _ hr6 z_.view l'v (RdN.mono z_.ro_cell hl') b2 cv (Bun35R.mono z_.ro_cell hc) (Bq 1 rfl rfl o w z_) b3 l'v (RdN.mono z_.ro_cell hl') (Bq 0 rfl rfl o w z_)) (AF hr6) <| r_R [vI r5.1, vI r5.2, vI r5.1, vI r5.2] rfl <| Aa ?_
 cases hM
 exact aR eV2
def DU (N : Nat) (c : Al) : Option (Int × Int) := (Dr N c c.2.2.2.2.2.2.2.1).bind fun r4 => some (r4.1, r4.2)
theorem NI (N : Nat) (c : Al) (r) (hM : DU N c = some r) (ro : Ro) (cv : AP) (hc : Bun35R ro cv c) : DoesI prog 70 #[vA (Ac c cv)] DZ ro [] (pV (vT #[vI r.1, vI r.2])) := by
 unfold DU at hM
 refine AO follows func70 rfl 11 rfl _ fz1 AT (fun base0_ => ?_)
 refine Ad <| r_a (92, (Ac c cv)) rfl rfl rfl (fun b2 => ?_) (.inr rfl)
 refine r_R [vI 0, vI 0] rfl <| Aa <| AL [(some 8, false)] (conG prog [(8, cV (Dr N c c.2.2.2.2.2.2.2.1) fun u0_ => vT #[vI u0_.1, vI u0_.2])]) <| rl (vA (Ac c cv)) 0 <| r_R [vP b2 0, vP b2 7] rfl <| rl cv.2.2.2.2.2.2.1 0 ?_
 obtain ⟨r4, hr5, hM⟩ := Ab hM
 refine rg (vT #[vI r4.1, vI r4.2]) (cF SM) (fun o w z_ => Lf N c c.2.2.2.2.2.2.2.1 _ hr5 z_.view cv (Bun35R.mono z_.ro_cell hc) cv.2.2.2.2.2.2.1 (RdN.mono z_.ro_cell hc.2.2.2.2.2.2.1)) (AF hr5) <| r_R [vI r4.1, vI r4.2, vI r4.1, vI r4.2] rfl <| Aa ?_
 cases hM
 exact aR eV2
def EF (N : Nat) (c : Al) : Option (Int × Int) := (Dr N c c.2.2.2.2.2.2.2.2.1).bind fun r4 => some (r4.1, r4.2)
theorem Pa (N : Nat) (c : Al) (r) (hM : EF N c = some r) (ro : Ro) (cv : AP) (hc : Bun35R ro cv c) : DoesI prog 71 #[vA (Ac c cv)] DZ ro [] (pV (vT #[vI r.1, vI r.2])) := by
 unfold EF at hM
 refine AO follows func71 rfl 11 rfl _ fz1 AT (fun base0_ => ?_)
 refine Ad <| r_a (92, (Ac c cv)) rfl rfl rfl (fun b2 => ?_) (.inr rfl)
 refine r_R [vI 0, vI 0] rfl <| Aa <| AL [(some 8, false)] (conG prog [(8, cV (Dr N c c.2.2.2.2.2.2.2.2.1) fun u0_ => vT #[vI u0_.1, vI u0_.2])]) <| rl (vA (Ac c cv)) 0 <| r_R [vP b2 0, vP b2 8] rfl <| rl cv.2.2.2.2.2.2.2.1 0 ?_
 obtain ⟨r4, hr5, hM⟩ := Ab hM
 refine rg (vT #[vI r4.1, vI r4.2]) (cF SM) (fun o w z_ => Lf N c c.2.2.2.2.2.2.2.2.1 _ hr5 z_.view cv (Bun35R.mono z_.ro_cell hc) cv.2.2.2.2.2.2.2.1 (RdN.mono z_.ro_cell hc.2.2.2.2.2.2.2.1)) (AF hr5) <| r_R [vI r4.1, vI r4.2, vI r4.1, vI r4.2] rfl <| Aa ?_
 cases hM
 exact aR eV2
def CN (N : Nat) (i : Int) (slot : Int) (c2_ : Al) : Option Int := (Bz N c2_ slot).bind fun r3 => (Ag N r3 5).bind fun r5 => ck (0 ≤ i ∧ i ≤ (c2_.2.2.2.2.2.2.2.2.2.1.length : Int)) ((AG N (((c2_.2.2.2.2.2.2.2.2.2.1).take (i.toNat)).drop 0) slot).bind fun r8 => (Ag N (!(r8)) 6).bind fun r10 => (As N ([r5, r10])).bind fun r15 => some r15)
theorem LO (N : Nat) (i slot : Int) (c2_ : Al) (r) (hM : CN N i slot c2_ = some r) (ro : Ro) (bc2_ : Nat) (c2_v : AP) (hc2_ : Bun35R ro c2_v c2_) (hbc2_ : Blk ro bc2_ (Ch c2_ c2_v)) : Does prog 133 #[vI i, vI slot, vP bc2_ 0] ro [] (pV (vI r)) := by
 unfold CN at hM
 refine Aq follows func133 rfl 22 rfl _ fz3 (fun base0_ => ?_)
 refine Ad <| r_V (vI 0) rfl <| Aa <| Ai fun K2 hK2 => ?_
 refine Ck [(some 9, false), (some 17, false), (some 20, false), (some 21, false)] (conG prog [(9, cV (Bz N c2_ slot) fun u0_ => vB u0_), (17, cV (AG N (((c2_.2.2.2.2.2.2.2.2.2.1).take (i.toNat)).drop 0) slot) fun u0_ => vB u0_), (21, fun _ _ v_ L_ U_ => ∀ u0_, Bz N c2_ slot = some u0_ → ∀ u1_, Ag N u0_ 5 = some u1_ → ∀ u2_, AG N (((c2_.2.2.2.2.2.2.2.2.2.1).take (i.toNat)).drop 0) slot = some u2_ → ∀ u3_, Ag N (!(u2_)) 6 = some u3_ → ∀ u4_, As N ([u1_, u3_]) = some u4_ → (pV (vI u4_)) v_ L_ U_)]) [] (by decide +kernel) (fun hn => Be) ?_
 refine r_V (vP bc2_ 0) rfl <| CR (vA (Ac c2_ c2_v)) (vs := (Ch c2_ c2_v)) (o := 0) rfl rfl (AK hbc2_) rfl <| r_V (vI slot) rfl ?_
 obtain ⟨r3, hr4, hM⟩ := Ab hM
 refine rg (vB r3) (cF Oj) (fun o w z_ => Ir N c2_ slot _ hr4 z_.view c2_v (Bun35R.mono z_.ro_cell hc2_)) (AF hr4) ?_
 obtain ⟨r5, hr6, hM⟩ := Ab hM
 refine rc (vI r5) (cF AJ) (AB N r3 5 _ hr6) <| r_R [vP bc2_ 0, vP bc2_ 9] rfl <| CR c2_v.2.2.2.2.2.2.2.2.1 (vs := (Ch c2_ c2_v)) (o := 9) rfl rfl (AK hbc2_) rfl <| r_V (vI i) rfl ?_
 obtain ⟨ck7, hM⟩ := Ae hM
 refine r_W (EJ c2_v.2.2.2.2.2.2.2.2.1 0 (i.toNat) 1) rfl (AD (GK rfl rfl rfl rfl (Rd.shp hc2_.2.2.2.2.2.2.2.2.1) ck7)) <| r_V (vI slot) rfl ?_
 obtain ⟨r8, hr9, hM⟩ := Ab hM
 refine rg (vB r8) (cF Oi) (fun o w z_ => DE N (((c2_.2.2.2.2.2.2.2.2.2.1).take (i.toNat)).drop 0) slot _ hr9 z_.view (EJ c2_v.2.2.2.2.2.2.2.2.1 0 (i.toNat) 1) ((Ly (Av hc2_.2.2.2.2.2.2.2.2.1) (Nat.zero_le _) (HC ck7.2)) o w z_)) (AF hr9) <| r_V (vB (!(r8))) rfl ?_
 obtain ⟨r10, hr11, hM⟩ := Ab hM
 refine rc (vI r10) (cF AJ) (AB N (!(r8)) 6 _ hr11) ?_
 refine Dj (cs0 := [(9, cV (Bz N c2_ slot) fun u0_ => vB u0_), (17, cV (AG N (((c2_.2.2.2.2.2.2.2.2.2.1).take (i.toNat)).drop 0) slot) fun u0_ => vB u0_), (21, fun _ _ v_ L_ U_ => ∀ u0_, Bz N c2_ slot = some u0_ → ∀ u1_, Ag N u0_ 5 = some u1_ → ∀ u2_, AG N (((c2_.2.2.2.2.2.2.2.2.2.1).take (i.toNat)).drop 0) slot = some u2_ → ∀ u3_, Ag N (!(u2_)) 6 = some u3_ → ∀ u4_, As N ([u1_, u3_]) = some u4_ → (pV (vI u4_)) v_ L_ U_)]) (Ls := []) 38 BK [r5, r10] [vI r5, vI r10] [vI 0, vI 0] rfl rfl rfl rfl rfl rfl rfl (by kernel_rfl) (by kernel_rfl) rfl rfl rfl (fun s12 S13 H14 => ?_)
 obtain ⟨r15, hr16, hM⟩ := Ab hM
 refine rg (vI r15) (cF Br) (fun o w z_ => Bb N ([r5, r10]) _ hr16 z_.view s12 ((AN H14 (Aw (Ls := [S13]) (k := 0) rfl rfl)) o w z_)) (fun _ _ v_ L_ U_ => ⟨fun h_ => h_ _ hr4 _ hr6 _ hr9 _ hr11 _ hr16, fun h_ => by intro _ e_; cases Option.some.inj (e_.symm.trans hr4); intro _ e_; cases Option.some.inj (e_.symm.trans hr6); intro _ e_; cases Option.some.inj (e_.symm.trans hr9); intro _ e_; cases Option.some.inj (e_.symm.trans hr11); intro _ e_; cases Option.some.inj (e_.symm.trans hr16); exact h_⟩) ?_
 refine r_V (vI r15) rfl <| Aa <| hK2 _ _ ?_
 cases hM
 exact aR eV1
def Fl (N : Nat) (l' : List Int) (ask0_ : Al) : Nat → Int → Option (Int × Int)
  | 0, _ => none
  | n8 + 1, x1_ => if x1_ < (l'.length : Int) then ck (0 ≤ x1_ ∧ x1_ < (l'.length : Int)) ((CN N x1_ (l'[x1_.toNat]!) ask0_).bind fun r16 => if (r16 : Int) ≠ 0 then some (x1_, r16) else ck (-9223372036854775808 ≤ (x1_ + 1) ∧ (x1_ + 1) ≤ 9223372036854775807) ((Fl N l' ask0_ n8) (x1_ + 1))) else some (0, 0)
def Hi (N : Nat) (l' : List Int) (most : Int) (ask0_ : Al) : Option (Int × Int) := if (l'.length : Int) > most then some (0, 2) else Fl N l' ask0_ N 0
theorem Rt (N : Nat) (l' : List Int) (most : Int) (ask0_ : Al) (r) (hM : Hi N l' most ask0_ = some r) (ro : Ro) (l'v : Value) (hl' : Rd BK ro l'v l') (bask0_ : Nat) (ask0_v : AP) (hask0_ : Bun35R ro ask0_v ask0_) (hbask0_ : Blk ro bask0_ (Ch ask0_ ask0_v)) : Does prog 132 #[l'v, vI most, vF 133 #[] #[vP bask0_ 0]] ro [] (pV (vT #[vI r.1, vI r.2])) := by
 unfold Hi at hM
 refine Aq follows func132 rfl 31 rfl _ fz3 (fun base0_ => ?_)
 refine Ad <| r_R [vI 0, vI 0] rfl <| Aa <| Ai fun K2 hK2 => Ad <| r_V l'v rfl <| r_W (vI (l'.length : Int)) rfl (Aj rfl rfl rfl (Rd.shp hl')) <| r_R [vI most, vB (decide ((l'.length : Int) > most))] rfl <| Aa <| Af _ rfl (fun hc4 => ?_) (fun hc4 => ?_)
 ·replace hM := iD hc4 hM
  refine Ad <| r_R [vI 0, vI 2] rfl <| Aa ?_
  cases hM
  exact aR eV2
 replace hM := iF hc4 hM
 refine Ah <| hK2 _ _ ?_
 refine Ai fun K6 hK6 => Ad <| r_V l'v rfl <| r_W (vI (l'.length : Int)) rfl (Aj rfl rfl rfl (Rd.shp hl')) <| r_V (vI 0) rfl <| Aa <| Ap <| AS (fun tt ll nn => ∃ (n8 : Nat) (x1_ : Int), (Fl N l' ask0_ n8 x1_ = some r) ∧ Is [(2, vF 133 #[] #[vP bask0_ 0]), (15, l'v), (16, vI (l'.length : Int)), (17, vI x1_)] [] tt ll ∧ nn = n8 + 1) (N + 1) ?_ ?_
 ·exact ⟨N, 0, hM, Ak rfl rfl, rfl⟩
 clear hM; rintro t l _ ⟨n8, x1_, hM, ⟨⟨T, rfl⟩, rfl⟩, rfl⟩
 rcases n8 with _ | n8
 ·exact absurd hM (by simp [Fl])
 rw [Fl] at hM
 refine Ad <| r_V (vB (decide (x1_ < (l'.length : Int)))) rfl <| Aa <| Ai fun K10 hK10 => Af _ rfl (fun hc11 => ?_) (fun hc11 => ?_)
 ·replace hM := iD hc11 hM
  refine Ah <| hK10 _ _ ?_
  refine Ai fun K12 hK12 => Ap <| Ad <| r_V (vI x1_) rfl ?_
  obtain ⟨ck14, hM⟩ := Ae hM
  refine r_W (elA l'v (x1_.toNat * 1)) rfl (AD (An rfl rfl rfl (Rd.shp hl') ck14)) <| Bw (vI (l'[x1_.toNat]!)) (En := BK) (l'[x1_.toNat]!) (x1_.toNat) 0 rfl rfl (Av hl') (AA ck14) rfl <| r_R [vI x1_, vI (l'[x1_.toNat]!)] rfl <| Aa <| AL [(some 25, false)] (conG prog [(25, cV (CN N x1_ (l'[x1_.toNat]!) ask0_) fun u0_ => vI u0_)]) <| r_R [vF 133 #[] #[vP bask0_ 0], vI x1_, vI (l'[x1_.toNat]!)] rfl ?_
  obtain ⟨r16, hr17, hM⟩ := Ab hM
  refine rg (vI r16) (AX (caps := [vP bask0_ 0]) rfl ZR rfl) (fun o w z_ => LO N x1_ (l'[x1_.toNat]!) ask0_ _ hr17 z_.view bask0_ ask0_v (Bun35R.mono z_.ro_cell hask0_) (AK hbask0_ o w z_)) (AF hr17) <| r_V (vI r16) rfl <| Aa <| Ad <| r_R [vI r16, vB (r16 != 0)] rfl <| Aa <| Af _ rfl (fun hc19 => ?_) (fun hc19 => ?_)
  ·replace hM := iN hc19 hM
   refine Ad <| r_R [vI x1_, vI r16, vI x1_, vI r16] rfl <| Aa ?_
   cases hM
   exact aR eV2
  replace hM := iM hc19 hM
  refine Ah <| hK12 _ _ ?_
  refine Ax ?_
  obtain ⟨ck21, hM⟩ := Ae hM
  refine r_X (vI (x1_ + 1)) rfl (AR rfl ck21.1 ck21.2) rfl <| r_V (vI (x1_ + 1)) rfl <| Aa <| fg _ (Sub.of suN) ?_
  exact ⟨n8 + 1, by omega, n8, (x1_ + 1), hM, Ak rfl rfl, rfl⟩
 replace hM := iF hc11 hM
 refine AM <| hK6 _ _ ?_
 refine Ad <| r_R [vI 0, vI 0] rfl <| Aa ?_
 cases hM
 exact aR eV2
def Cs (N : Nat) (c : Al) : Option (Int × Int) := (Hi N c.2.2.2.2.2.2.2.2.2.1 32 c).bind fun r4 => some (r4.1, r4.2)
theorem NK (N : Nat) (c : Al) (r) (hM : Cs N c = some r) (ro : Ro) (cv : AP) (hc : Bun35R ro cv c) : Does prog 72 #[vA (Ac c cv)] ro [] (pV (vT #[vI r.1, vI r.2])) := by
 unfold Cs at hM
 refine Aq follows func72 rfl 11 rfl _ fz1 (fun base0_ => ?_)
 refine Ad <| r_a (92, (Ac c cv)) rfl rfl rfl (fun b2 => ?_) (.inr rfl)
 refine r_R [vI 0, vI 0] rfl <| Aa <| AL [(some 8, false)] (conG prog [(8, cV (Hi N c.2.2.2.2.2.2.2.2.2.1 32 c) fun u0_ => vT #[vI u0_.1, vI u0_.2])]) <| r_R [vP b2 0, vP b2 9] rfl <| rl cv.2.2.2.2.2.2.2.2.1 0 <| r_W (vF 133 #[] #[vP b2 0]) rfl (DV rfl) ?_
 obtain ⟨r4, hr5, hM⟩ := Ab hM
 refine rg (vT #[vI r4.1, vI r4.2]) (cF Ll) (fun o w z_ => Rt N c.2.2.2.2.2.2.2.2.2.1 32 c _ hr5 z_.view cv.2.2.2.2.2.2.2.2.1 ((Av hc.2.2.2.2.2.2.2.2.1) o w z_) b2 cv (Bun35R.mono z_.ro_cell hc) (Bq 0 rfl rfl o w z_)) (AF hr5) <| r_R [vI r4.1, vI r4.2, vI r4.1, vI r4.2] rfl <| Aa ?_
 cases hM
 exact aR eV2
def Dw (N : Nat) (_ : List UInt8) (h_1 : List (List UInt8 × Int)) (_ : Int) (_ : Int) (_ : Int) (_ : Int) (f : Int) : Option (Int × Bool) := ck ((-9223372036854775808 ≤ ((h_1.length : Int) - 1) ∧ ((h_1.length : Int) - 1) ≤ 9223372036854775807)) ((BV N f 0 ((h_1.length : Int) - 1)).bind fun r6 => if r6 = true then ck (0 ≤ f ∧ f ≤ (h_1.length : Int)) ((GD N (((h_1).take (f.toNat)).drop 0)).bind fun r12 => some (r12, true)) else some (0, false))
theorem Oz (N : Nat) (h_0 : List UInt8) (h_1 : List (List UInt8 × Int)) (h_2 : Int) (h_3 : Int) (h_4 : Int) (h_5 : Int) (f : Int) (r) (hM : Dw N h_0 h_1 h_2 h_3 h_4 h_5 f = some r) (ro : Ro) (h_1v : Value) (hh_1 : Rd enc_50 ro h_1v h_1) : Does prog 206 #[vA #[vS h_0, h_1v, vI h_2, vI h_3, vI h_4, vI h_5], vI f] ro [] (pV (vT #[vI r.1, vB r.2])) := by
 unfold Dw at hM
 refine Aq follows func206 rfl 18 rfl _ fz2 (fun base0_ => ?_)
 refine Ad <| r_a (48, #[vS h_0, h_1v, vI h_2, vI h_3, vI h_4, vI h_5]) rfl rfl rfl (fun b2 => ?_) (.inr rfl)
 refine r_R [vI 0, vB false] rfl <| Aa <| Ai fun K3 hK3 => Ad <| r_R [vI f, vP b2 1] rfl <| rl h_1v 0 <| r_W (vI (h_1.length : Int)) rfl (Aj rfl rfl rfl (Rd.shp hh_1)) ?_
 obtain ⟨ck5, hM⟩ := Ae hM
 refine r_X (vI ((h_1.length : Int) - 1)) rfl (AR rfl ck5.1 ck5.2) rfl ?_
 obtain ⟨r6, hr7, hM⟩ := Ab hM
 refine rc (vB r6) (cF FO) (Dv N f 0 ((h_1.length : Int) - 1) _ hr7) <| r_V (vB (!(r6))) rfl <| Aa <| Af _ rfl (fun hc8 => ?_) (fun hc8 => ?_)
 ·replace hM := ifn (Bool.eq_false_iff.1 (CZ hc8)) hM
  refine Ad <| r_R [vI 0, vB false] rfl <| Aa ?_
  cases hM
  exact aR eV2
 replace hM := ifp (Da hc8) hM
 refine Ah <| hK3 _ _ ?_
 refine AL [(some 17, false)] (conG prog [(17, cV (GD N (((h_1).take (f.toNat)).drop 0)) fun u0_ => vI u0_)]) <| r_V (vP b2 1) rfl <| rl h_1v 0 <| r_V (vI f) rfl ?_
 obtain ⟨ck11, hM⟩ := Ae hM
 refine r_W (EJ h_1v 0 (f.toNat) 2) rfl (AD (GK rfl rfl rfl rfl (Rd.shp hh_1) ck11)) ?_
 obtain ⟨r12, hr13, hM⟩ := Ab hM
 refine rg (vI r12) (cF SJ) (fun o w z_ => Pk N (((h_1).take (f.toNat)).drop 0) _ hr13 z_.view (EJ h_1v 0 (f.toNat) 2) ((Ly (Av hh_1) (Nat.zero_le _) (HC ck11.2)) o w z_)) (AF hr13) <| r_R [vI r12, vB true] rfl <| Aa ?_
 cases hM
 exact aR eV2
def ED (N : Nat) (_ : Int) (x_0 : Int) (x_1 : Int) (c2_ : Al) : Option Int := (Ec N c2_ x_0).bind fun r4 => (Dw N r4.1 r4.2.1 r4.2.2.1 r4.2.2.2.1 r4.2.2.2.2.1 r4.2.2.2.2.2.1 x_1).bind fun r11 => (Bu N c2_ x_0 x_1).bind fun r14 => (Ag N r14.2 5).bind fun r17 => if r14.1 = 16 then ck (0 ≤ r11.1 ∧ r11.1 ≤ 9223372036854775807) ((Ag N ((r11.1 % 16 : Int) == 0) 9).bind fun r28 => (As N ([r17, r28])).bind fun r33 => some r33) else (Ag N false 9).bind fun r20 => (As N ([r17, r20])).bind fun r25 => some r25
theorem OX (N : Nat) (x x_0 x_1 : Int) (c2_ : Al) (r) (hM : ED N x x_0 x_1 c2_ = some r) (ro : Ro) (bc2_ : Nat) (c2_v : AP) (hc2_ : Bun35R ro c2_v c2_) (hbc2_ : Blk ro bc2_ (Ch c2_ c2_v)) : Does prog 205 #[vI x, vA #[vI x_0, vI x_1], vP bc2_ 0] ro [] (pV (vI r)) := by
 unfold ED at hM
 refine Aq follows func205 rfl 49 rfl _ fz3 (fun base0_ => ?_)
 refine Ad <| r_a (115, #[vI x_0, vI x_1]) rfl rfl rfl (fun b2 => ?_) (.inr rfl)
 refine r_V (vI 0) rfl <| Aa <| AL [(some 17, false)] (conG prog [(17, fun _ _ v_ L_ U_ => ∀ u0_, Ec N c2_ x_0 = some u0_ → (p1 (fun s_ => vT #[vA #[vS u0_.1, s_, vI u0_.2.2.1, vI u0_.2.2.2.1, vI u0_.2.2.2.2.1, vI u0_.2.2.2.2.2.1], vB u0_.2.2.2.2.2.2]) 50 enc_50 u0_.2.1) v_ L_ U_)]) <| r_V (vP bc2_ 0) rfl <| CR (vA (Ac c2_ c2_v)) (vs := (Ch c2_ c2_v)) (o := 0) rfl rfl (AK hbc2_) rfl <| r_V (vP b2 0) rfl <| rl (vI x_0) 0 ?_
 obtain ⟨r4, hr5, hM⟩ := Ab hM
 refine Iy (Ls := [(Hg b2 x_0 x_1)]) (fun s6 => vT #[vA #[vS r4.1, s6, vI r4.2.2.1, vI r4.2.2.2.1, vI r4.2.2.2.2.1, vI r4.2.2.2.2.2.1], vB r4.2.2.2.2.2.2]) 50 enc_50 r4.2.1 60 _ rfl rfl rfl (cF UJ) (fun o w z_ => Mc N c2_ x_0 _ hr5 z_.view c2_v (Bun35R.mono z_.ro_cell hc2_)) (AF hr5) (fun s6 S7 H8 => ?_)
 refine r_R [vT #[vA #[vS r4.1, s6, vI r4.2.2.1, vI r4.2.2.2.1, vI r4.2.2.2.2.1, vI r4.2.2.2.2.2.1], vB r4.2.2.2.2.2.2], vA #[vS r4.1, s6, vI r4.2.2.1, vI r4.2.2.2.1, vI r4.2.2.2.2.1, vI r4.2.2.2.2.2.1], vB r4.2.2.2.2.2.2] rfl <| r_a (48, #[Value.string (⟨#[]⟩), nS, vI 0, vI 0, vI 0, vI 0]) rfl rfl rfl (fun b9 => ?_) (.inr rfl)
 refine r_s (List.flatten [(JI b9 r4.1 s6 r4.2.2.1 r4.2.2.2.1 r4.2.2.2.2.1 r4.2.2.2.2.2.1), (Hg b2 x_0 x_1), S7]) 0 _ _ _ _ _ (#[vS r4.1, s6, vI r4.2.2.1, vI r4.2.2.2.1, vI r4.2.2.2.2.1, vI r4.2.2.2.2.2.1]) rfl rfl rfl rfl (.ofS rfl rfl (Ao rfl (Ao (Shp.one (Sl.shp H8)) (Ao rfl (Ao rfl (Ao rfl (Ao rfl Bi))))))) rfl rfl <| r_V (vB r4.2.2.2.2.2.2) rfl <| Aa <| AL [(some 24, false)] (conG prog [(24, cV (Dw N r4.1 r4.2.1 r4.2.2.1 r4.2.2.2.1 r4.2.2.2.2.1 r4.2.2.2.2.2.1 x_1) fun u0_ => vT #[vI u0_.1, vB u0_.2])]) ?_
 refine rl (vA #[vS r4.1, s6, vI r4.2.2.1, vI r4.2.2.2.1, vI r4.2.2.2.2.1, vI r4.2.2.2.2.2.1]) 0 <| r_V (vP b2 1) rfl <| rl (vI x_1) 1 ?_
 obtain ⟨r11, hr12, hM⟩ := Ab hM
 refine rg (vT #[vI r11.1, vB r11.2]) (cF YX) (fun o w z_ => Oz N r4.1 r4.2.1 r4.2.2.1 r4.2.2.2.1 r4.2.2.2.2.1 r4.2.2.2.2.2.1 x_1 _ hr12 z_.view s6 ((AN H8 (Aw (Ls := [(JI b9 r4.1 s6 r4.2.2.1 r4.2.2.2.1 r4.2.2.2.2.1 r4.2.2.2.2.2.1), (Hg b2 x_0 x_1), S7]) (k := 2) rfl rfl)) o w z_)) (AF hr12) <| r_R [vT #[vI r11.1, vB r11.2], vI r11.1, vB r11.2, vI r11.1, vB r11.2] rfl <| Aa <| AL [(some 34, false)] (conG prog [(34, cV (Bu N c2_ x_0 x_1) fun u0_ => vT #[vI u0_.1, vB u0_.2])]) <| r_V (vP bc2_ 0) rfl ?_
 refine CR (vA (Ac c2_ c2_v)) (vs := (Ch c2_ c2_v)) (o := 0) rfl rfl (AK hbc2_) rfl <| r_V (vP b2 0) rfl <| rl (vI x_0) 1 <| r_V (vP b2 1) rfl <| rl (vI x_1) 1 ?_
 obtain ⟨r14, hr15, hM⟩ := Ab hM
 refine rg (vT #[vI r14.1, vB r14.2]) (cF MM) (fun o w z_ => Hy N c2_ x_0 x_1 _ hr15 z_.view c2_v (Bun35R.mono z_.ro_cell hc2_)) (AF hr15) <| r_R [vT #[vI r14.1, vB r14.2], vI r14.1, vB r14.2, vI r14.1, vB r14.2] rfl <| Aa <| Cd [(8, vI r11.1), (10, vI r14.1), (11, vB r14.2)] rfl (fun T => ?_)
 refine Ai fun K16 hK16 => BB [(some 47, false), (some 48, false)] (conG prog [(48, fun _ _ v_ L_ U_ => (∀ u0_, Ag N r14.2 5 = some u0_ → (if r14.1 = 16 then (1 : Nat) else 0) = 0 → ∀ u2_, Ag N false 9 = some u2_ → ∀ u3_, As N ([u0_, u2_]) = some u3_ → (pV (vI u3_)) v_ L_ U_) ∧ (∀ u0_, Ag N r14.2 5 = some u0_ → (if r14.1 = 16 then (1 : Nat) else 0) = 1 → ∀ u2_, Ag N ((r11.1 % 16 : Int) == 0) 9 = some u2_ → ∀ u3_, As N ([u0_, u2_]) = some u3_ → (pV (vI u3_)) v_ L_ U_))]) <| r_V (vB r14.2) rfl ?_
 obtain ⟨r17, hr18, hM⟩ := Ab hM
 refine rc (vI r17) (cF AJ) (AB N r14.2 5 _ hr18) <| r_R [vI r14.1, vB (r14.1 == 16), vB (r14.1 == 16)] rfl ?_
 rcases hg19 : (r14.1 == 16) with _ | _
 ·replace hM := iG hg19 hM
  have hq19 : (if r14.1 = 16 then (1 : Nat) else 0) = 0 := (if_neg (ne_of_beq_false hg19))
  refine r_R [none, none, none, vB false] rfl ?_
  obtain ⟨r20, hr21, hM⟩ := Ab hM
  refine rc (vI r20) (cF AJ) (AB N false 9 _ hr21) ?_
  refine Dj (cs0 := [(48, fun _ _ v_ L_ U_ => (∀ u0_, Ag N r14.2 5 = some u0_ → (if r14.1 = 16 then (1 : Nat) else 0) = 0 → ∀ u2_, Ag N false 9 = some u2_ → ∀ u3_, As N ([u0_, u2_]) = some u3_ → (pV (vI u3_)) v_ L_ U_) ∧ (∀ u0_, Ag N r14.2 5 = some u0_ → (if r14.1 = 16 then (1 : Nat) else 0) = 1 → ∀ u2_, Ag N ((r11.1 % 16 : Int) == 0) 9 = some u2_ → ∀ u3_, As N ([u0_, u2_]) = some u3_ → (pV (vI u3_)) v_ L_ U_))]) (Ls := [(JI b9 r4.1 s6 r4.2.2.1 r4.2.2.2.1 r4.2.2.2.2.1 r4.2.2.2.2.2.1), (Hg b2 x_0 x_1), S7]) 38 BK [r17, r20] [vI r17, vI r20] [vI 0, vI 0] rfl rfl rfl rfl rfl rfl rfl (by kernel_rfl) (by kernel_rfl) rfl rfl rfl (fun s22 S23 H24 => ?_)
  obtain ⟨r25, hr26, hM⟩ := Ab hM
  refine rg (vI r25) (cF Br) (fun o w z_ => Bb N ([r17, r20]) _ hr26 z_.view s22 ((AN H24 (Aw (Ls := [(JI b9 r4.1 s6 r4.2.2.1 r4.2.2.2.1 r4.2.2.2.2.1 r4.2.2.2.2.2.1), (Hg b2 x_0 x_1), S7, S23]) (k := 3) rfl rfl)) o w z_)) (fun _ _ v_ L_ U_ => ⟨fun h_ => h_.1 _ hr18 hq19 _ hr21 _ hr26, fun h_ => ⟨by intro _ e_; cases Option.some.inj (e_.symm.trans hr18); intro e_; first | (cases (e_.symm.trans hq19); done) | (cases (e_.symm.trans hq19); intro _ e_; cases Option.some.inj (e_.symm.trans hr21); intro _ e_; cases Option.some.inj (e_.symm.trans hr26); exact h_), by intro _ e_; cases Option.some.inj (e_.symm.trans hr18); intro e_; first | (cases (e_.symm.trans hq19); done) | (cases (e_.symm.trans hq19); intro _ e_; cases Option.some.inj (e_.symm.trans hr29); intro _ e_; cases Option.some.inj (e_.symm.trans hr34); exact h_)⟩⟩) ?_
  refine r_V (vI r25) rfl <| Aa <| hK16 _ _ ?_
  cases hM
  exact aR eV1
 replace hM := iE hg19 hM
 have hq19 : (if r14.1 = 16 then (1 : Nat) else 0) = 1 := (if_pos (eq_of_beq hg19))
 refine r_R [vI r11.1] rfl <| r_y rfl ?_
 obtain ⟨ck27, hM⟩ := Ae hM
 refine r_X (vI (r11.1 % 16)) rfl (Ua ck27.1) rfl <| r_R [vB ((r11.1 % 16 : Int) == 0), vB ((r11.1 % 16 : Int) == 0)] rfl ?_
 obtain ⟨r28, hr29, hM⟩ := Ab hM
 refine rc (vI r28) (cF AJ) (AB N ((r11.1 % 16 : Int) == 0) 9 _ hr29) ?_
 refine Dj (cs0 := [(48, fun _ _ v_ L_ U_ => (∀ u0_, Ag N r14.2 5 = some u0_ → (if r14.1 = 16 then (1 : Nat) else 0) = 0 → ∀ u2_, Ag N false 9 = some u2_ → ∀ u3_, As N ([u0_, u2_]) = some u3_ → (pV (vI u3_)) v_ L_ U_) ∧ (∀ u0_, Ag N r14.2 5 = some u0_ → (if r14.1 = 16 then (1 : Nat) else 0) = 1 → ∀ u2_, Ag N ((r11.1 % 16 : Int) == 0) 9 = some u2_ → ∀ u3_, As N ([u0_, u2_]) = some u3_ → (pV (vI u3_)) v_ L_ U_))]) (Ls := [(JI b9 r4.1 s6 r4.2.2.1 r4.2.2.2.1 r4.2.2.2.2.1 r4.2.2.2.2.2.1), (Hg b2 x_0 x_1), S7]) 38 BK [r17, r28] [vI r17, vI r28] [vI 0, vI 0] rfl rfl rfl rfl rfl rfl rfl (by kernel_rfl) (by kernel_rfl) rfl rfl rfl (fun s30 S31 H32 => ?_)
 obtain ⟨r33, hr34, hM⟩ := Ab hM
 refine rg (vI r33) (cF Br) (fun o w z_ => Bb N ([r17, r28]) _ hr34 z_.view s30 ((AN H32 (Aw (Ls := [(JI b9 r4.1 s6 r4.2.2.1 r4.2.2.2.1 r4.2.2.2.2.1 r4.2.2.2.2.2.1), (Hg b2 x_0 x_1), S7, S31]) (k := 3) rfl rfl)) o w z_)) (fun _ _ v_ L_ U_ => ⟨fun h_ => h_.2 _ hr18 hq19 _ hr29 _ hr34, fun h_ => ⟨by intro _ e_; cases Option.some.inj (e_.symm.trans hr18); intro e_; first | (cases (e_.symm.trans hq19); done) | (cases (e_.symm.trans hq19); intro _ e_; cases Option.some.inj (e_.symm.trans hr21); intro _ e_; cases Option.some.inj (e_.symm.trans hr26); exact h_), by intro _ e_; cases Option.some.inj (e_.symm.trans hr18); intro e_; first | (cases (e_.symm.trans hq19); done) | (cases (e_.symm.trans hq19); intro _ e_; cases Option.some.inj (e_.symm.trans hr29); intro _ e_; cases Option.some.inj (e_.symm.trans hr34); exact h_)⟩⟩) ?_
 refine r_V (vI r33) rfl <| Aa <| hK16 _ _ ?_
 cases hM
 exact aR eV1
def Fs (N : Nat) (l' : List (Int × Int)) (ask0_ : Al) : Nat → Int → Option (Int × Int)
  | 0, _ => none
  | n8 + 1, x1_ => if x1_ < (l'.length : Int) then ck (0 ≤ x1_ ∧ x1_ < (l'.length : Int)) ((ED N x1_ ((l'[x1_.toNat]!).1) ((l'[x1_.toNat]!).2) ask0_).bind fun r17 => if (r17 : Int) ≠ 0 then some (x1_, r17) else ck (-9223372036854775808 ≤ (x1_ + 1) ∧ (x1_ + 1) ≤ 9223372036854775807) ((Fs N l' ask0_ n8) (x1_ + 1))) else some (0, 0)
def Hn (N : Nat) (l' : List (Int × Int)) (most : Int) (ask0_ : Al) : Option (Int × Int) := if (l'.length : Int) > most then some (0, 2) else Fs N l' ask0_ N 0
theorem RA (N : Nat) (l' : List (Int × Int)) (most : Int) (ask0_ : Al) (r) (hM : Hn N l' most ask0_ = some r) (ro : Ro) (l'v : Value) (hl' : Rd enc_115 ro l'v l') (bask0_ : Nat) (ask0_v : AP) (hask0_ : Bun35R ro ask0_v ask0_) (hbask0_ : Blk ro bask0_ (Ch ask0_ ask0_v)) : Does prog 204 #[l'v, vI most, vF 205 #[] #[vP bask0_ 0]] ro [] (pV (vT #[vI r.1, vI r.2])) := by
 unfold Hn at hM
 refine Aq follows func204 rfl 31 rfl _ fz3 (fun base0_ => ?_)
 refine Ad <| r_R [vI 0, vI 0] rfl <| Aa <| Ai fun K2 hK2 => Ad <| r_V l'v rfl <| r_W (vI (l'.length : Int)) rfl (Aj rfl rfl rfl (Rd.shp hl')) <| r_R [vI most, vB (decide ((l'.length : Int) > most))] rfl <| Aa <| Af _ rfl (fun hc4 => ?_) (fun hc4 => ?_)
 ·replace hM := iD hc4 hM
  refine Ad <| r_R [vI 0, vI 2] rfl <| Aa ?_
  cases hM
  exact aR eV2
 replace hM := iF hc4 hM
 refine Ah <| hK2 _ _ ?_
 refine Ai fun K6 hK6 => Ad <| r_V l'v rfl <| r_W (vI (l'.length : Int)) rfl (Aj rfl rfl rfl (Rd.shp hl')) <| r_V (vI 0) rfl <| Aa <| Ap <| AS (fun tt ll nn => ∃ (n8 : Nat) (x1_ : Int), (Fs N l' ask0_ n8 x1_ = some r) ∧ Is [(2, vF 205 #[] #[vP bask0_ 0]), (15, l'v), (16, vI (l'.length : Int)), (17, vI x1_)] [] tt ll ∧ nn = n8 + 1) (N + 1) ?_ ?_
 ·exact ⟨N, 0, hM, Ak rfl rfl, rfl⟩
 clear hM; rintro t l _ ⟨n8, x1_, hM, ⟨⟨T, rfl⟩, rfl⟩, rfl⟩
 rcases n8 with _ | n8
 ·exact absurd hM (by simp [Fs])
 rw [Fs] at hM
 refine Ad <| r_V (vB (decide (x1_ < (l'.length : Int)))) rfl <| Aa <| Ai fun K10 hK10 => Af _ rfl (fun hc11 => ?_) (fun hc11 => ?_)
 ·replace hM := iD hc11 hM
  refine Ah <| hK10 _ _ ?_
  refine Ai fun K12 hK12 => Ap <| Ad <| r_V (vI x1_) rfl ?_
  obtain ⟨ck14, hM⟩ := Ae hM
  refine r_W (elA l'v (x1_.toNat * 2)) rfl (AD (An rfl rfl rfl (Rd.shp hl') ck14)) <| Bw (vA #[vI ((l'[x1_.toNat]!).1), vI ((l'[x1_.toNat]!).2)]) (En := enc_115) (l'[x1_.toNat]!) (x1_.toNat) 0 rfl rfl (Av hl') (AA ck14) rfl <| r_a (115, #[vI 0, vI 0]) rfl rfl rfl (fun b15 => ?_) (.inr rfl)
  refine r_V (vI x1_) rfl <| r_s (Hg b15 ((l'[x1_.toNat]!).1) ((l'[x1_.toNat]!).2)) 0 _ _ _ _ _ (#[vI ((l'[x1_.toNat]!).1), vI ((l'[x1_.toNat]!).2)]) rfl rfl rfl rfl (.of rfl rfl) rfl rfl <| Aa <| AL [(some 25, false)] (conG prog [(25, cV (ED N x1_ ((l'[x1_.toNat]!).1) ((l'[x1_.toNat]!).2) ask0_) fun u0_ => vI u0_)]) <| r_R [vF 205 #[] #[vP bask0_ 0], vI x1_] rfl <| rl (vA #[vI ((l'[x1_.toNat]!).1), vI ((l'[x1_.toNat]!).2)]) 0 ?_
  obtain ⟨r17, hr18, hM⟩ := Ab hM
  refine rg (vI r17) (AX (caps := [vP bask0_ 0]) rfl YY rfl) (fun o w z_ => OX N x1_ ((l'[x1_.toNat]!).1) ((l'[x1_.toNat]!).2) ask0_ _ hr18 z_.view bask0_ ask0_v (Bun35R.mono z_.ro_cell hask0_) (AK hbask0_ o w z_)) (AF hr18) <| r_V (vI r17) rfl <| Aa <| Ad <| r_R [vI r17, vB (r17 != 0)] rfl <| Aa <| Af _ rfl (fun hc20 => ?_) (fun hc20 => ?_)
  ·replace hM := iN hc20 hM
   refine Ad <| r_R [vI x1_, vI r17, vI x1_, vI r17] rfl <| Aa ?_
   cases hM
   exact aR eV2
  replace hM := iM hc20 hM
  refine Ah <| hK12 _ _ ?_
  refine Ax ?_
  obtain ⟨ck22, hM⟩ := Ae hM
  refine r_X (vI (x1_ + 1)) rfl (AR rfl ck22.1 ck22.2) rfl <| r_V (vI (x1_ + 1)) rfl <| Aa <| fg _ (Sub.of (suC _ suN)) ?_
  exact ⟨n8 + 1, by omega, n8, (x1_ + 1), hM, Ak rfl rfl, rfl⟩
 replace hM := iF hc11 hM
 refine AM <| hK6 _ _ ?_
 refine Ad <| r_R [vI 0, vI 0] rfl <| Aa ?_
 cases hM
 exact aR eV2
def Ee (N : Nat) (c : Al) (l' : List (Int × Int)) : Option (Int × Int) := (Hn N l' 4 c).bind fun r4 => some (r4.1, r4.2)
theorem Me (N : Nat) (c : Al) (l' : List (Int × Int)) (r) (hM : Ee N c l' = some r) (ro : Ro) (cv : AP) (hc : Bun35R ro cv c) (l'v : Value) (hl' : Rd enc_115 ro l'v l') : Does prog 136 #[vA (Ac c cv), l'v] ro [] (pV (vT #[vI r.1, vI r.2])) := by
 unfold Ee at hM
 refine Aq follows func136 rfl 11 rfl _ fz2 (fun base0_ => ?_)
 refine Ad <| r_a (92, (Ac c cv)) rfl rfl rfl (fun b2 => ?_) (.inr rfl)
 refine r_R [vI 0, vI 0] rfl <| Aa <| AL [(some 8, false)] (conG prog [(8, cV (Hn N l' 4 c) fun u0_ => vT #[vI u0_.1, vI u0_.2])]) <| r_V l'v rfl <| r_W (vF 205 #[] #[vP b2 0]) rfl (DV rfl) ?_
 obtain ⟨r4, hr5, hM⟩ := Ab hM
 refine rg (vT #[vI r4.1, vI r4.2]) (cF YZ) (fun o w z_ => RA N l' 4 c _ hr5 z_.view l'v ((Av hl') o w z_) b2 cv (Bun35R.mono z_.ro_cell hc) (Bq 0 rfl rfl o w z_)) (AF hr5) <| r_R [vI r4.1, vI r4.2, vI r4.1, vI r4.2] rfl <| Aa ?_
 cases hM
 exact aR eV2
def EG (N : Nat) (c : Al) : Option (Int × Int) := (Ee N c c.2.2.2.2.2.2.2.2.2.2.1).bind fun r4 => some (r4.1, r4.2)
theorem Pc (N : Nat) (c : Al) (r) (hM : EG N c = some r) (ro : Ro) (cv : AP) (hc : Bun35R ro cv c) : Does prog 73 #[vA (Ac c cv)] ro [] (pV (vT #[vI r.1, vI r.2])) := by
 unfold EG at hM
 refine Aq follows func73 rfl 11 rfl _ fz1 (fun base0_ => ?_)
 refine Ad <| r_a (92, (Ac c cv)) rfl rfl rfl (fun b2 => ?_) (.inr rfl)
 refine r_R [vI 0, vI 0] rfl <| Aa <| AL [(some 8, false)] (conG prog [(8, cV (Ee N c c.2.2.2.2.2.2.2.2.2.2.1) fun u0_ => vT #[vI u0_.1, vI u0_.2])]) <| rl (vA (Ac c cv)) 0 <| r_R [vP b2 0, vP b2 10] rfl <| rl cv.2.2.2.2.2.2.2.2.2.1 0 ?_
 obtain ⟨r4, hr5, hM⟩ := Ab hM
 refine rg (vT #[vI r4.1, vI r4.2]) (cF SL) (fun o w z_ => Me N c c.2.2.2.2.2.2.2.2.2.2.1 _ hr5 z_.view cv (Bun35R.mono z_.ro_cell hc) cv.2.2.2.2.2.2.2.2.2.1 ((Av hc.2.2.2.2.2.2.2.2.2.1) o w z_)) (AF hr5) <| r_R [vI r4.1, vI r4.2, vI r4.1, vI r4.2] rfl <| Aa ?_
 cases hM
 exact aR eV2
def DT (N : Nat) (c : Al) : Option (Int × Int) := (Ee N c c.2.2.2.2.2.2.2.2.2.2.2.1).bind fun r4 => some (r4.1, r4.2)
theorem NE (N : Nat) (c : Al) (r) (hM : DT N c = some r) (ro : Ro) (cv : AP) (hc : Bun35R ro cv c) : Does prog 74 #[vA (Ac c cv)] ro [] (pV (vT #[vI r.1, vI r.2])) := by
 unfold DT at hM
 refine Aq follows func74 rfl 11 rfl _ fz1 (fun base0_ => ?_)
 refine Ad <| r_a (92, (Ac c cv)) rfl rfl rfl (fun b2 => ?_) (.inr rfl)
 refine r_R [vI 0, vI 0] rfl <| Aa <| AL [(some 8, false)] (conG prog [(8, cV (Ee N c c.2.2.2.2.2.2.2.2.2.2.2.1) fun u0_ => vT #[vI u0_.1, vI u0_.2])]) <| rl (vA (Ac c cv)) 0 <| r_R [vP b2 0, vP b2 11] rfl <| rl cv.2.2.2.2.2.2.2.2.2.2.1 0 ?_
 obtain ⟨r4, hr5, hM⟩ := Ab hM
 refine rg (vT #[vI r4.1, vI r4.2]) (cF SL) (fun o w z_ => Me N c c.2.2.2.2.2.2.2.2.2.2.2.1 _ hr5 z_.view cv (Bun35R.mono z_.ro_cell hc) cv.2.2.2.2.2.2.2.2.2.2.1 ((Av hc.2.2.2.2.2.2.2.2.2.2.1) o w z_)) (AF hr5) <| r_R [vI r4.1, vI r4.2, vI r4.1, vI r4.2] rfl <| Aa ?_
 cases hM
 exact aR eV2
def KB (_ : Nat) (x_0 : List UInt8) (_ : Int) (_ : Int) : Option (List UInt8) := some x_0
theorem Ts (N : Nat) (x_0 : List UInt8) (x_1 x_2 : Int) (r) (hM : KB N x_0 x_1 x_2 = some r) : Gives prog 138 #[vA #[vS x_0, vI x_1, vI x_2]] (vS r) := by
 unfold KB at hM
 refine AC follows func138 rfl 5 rfl _ fz1 (fun base0_ => ?_)
 refine Ad <| r_a (118, #[vS x_0, vI x_1, vI x_2]) rfl rfl rfl (fun b2 => ?_) (.inr rfl)
 refine r_V (Value.string (⟨#[]⟩)) rfl <| Aa <| Ad <| r_V (vP b2 0) rfl <| rl (vS x_0) 0 <| r_V (vS x_0) rfl <| Aa ?_
 cases hM
 exact aR eE1
def Fq (N : Nat) (l' : List (List UInt8 × Int × Int)) : Nat → List (List UInt8) → Int → Option (List (List UInt8))
  | 0, _, _ => none
  | n9 + 1, s1_, x2_ => if x2_ < (l'.length : Int) then ck (0 ≤ x2_ ∧ x2_ < (l'.length : Int)) ((KB N ((l'[x2_.toNat]!).1) ((l'[x2_.toNat]!).2.1) ((l'[x2_.toNat]!).2.2)).bind fun r17 => ck (0 ≤ x2_ ∧ x2_ < (s1_.length : Int)) (ck (-9223372036854775808 ≤ (x2_ + 1) ∧ (x2_ + 1) ≤ 9223372036854775807) ((Fq N l' n9) ((s1_).set (x2_.toNat) r17) (x2_ + 1)))) else some s1_
def Ik (N : Nat) (l' : List (List UInt8 × Int × Int)) : Option (List (List UInt8)) := ck (0 ≤ (l'.length : Int) ∧ (l'.length : Int) ≤ 8796093022208) (Fq N l' N ((List.replicate ((l'.length : Int)).toNat ([]))) 0)
theorem Ry (N : Nat) (l' : List (List UInt8 × Int × Int)) (r) (hM : Ik N l' = some r) (ro : Ro) (l'v : Value) (hl' : Rd enc_118 ro l'v l') : Does prog 207 #[l'v, vF 138 #[] #[]] ro [] (p1 (fun s_ => s_) 9 encS r) := by
 unfold Ik at hM
 refine Aq follows func207 rfl 26 rfl _ fz2 (fun base0_ => ?_)
 refine Ad <| r_V nS rfl <| Aa <| AL [(some 10, false)] (conG prog [(10, fun _ _ v_ L_ U_ => (p1 (fun v => v) 9 encS (List.replicate ((l'.length : Int)).toNat ([]))) v_ L_ U_)]) <| r_V l'v rfl <| r_W (vI (l'.length : Int)) rfl (Aj rfl rfl rfl (Rd.shp hl')) ?_
 obtain ⟨ck3, hM⟩ := Ae hM
 refine MW (Ls := []) 9 encS ([]) (l'.length : Int) rfl rfl rfl rfl rfl rfl rfl rfl rfl rfl 8796093022208 rfl ck3 (fun _ _ _ _ _ => Iff.rfl) (fun s4 S5 H6 => ?_)
 refine r_V s4 rfl <| Aa <| Ai fun K7 hK7 => Ad <| r_V l'v rfl <| r_W (vI (l'.length : Int)) rfl (Aj rfl rfl rfl (Rd.shp hl')) <| r_V (vI 0) rfl <| Aa <| Ap <| BF _ (Sub.pick [S5] [0] rfl) <| AS (fun tt ll nn => ∃ (n9 : Nat) (s1_ : List (List UInt8)) (x2_ : Int), (Fq N l' n9 s1_ x2_ = some r) ∧ ∃ (Ss1_ : List Bl), Sl 9 encS s4 s1_ Ss1_ ∧ Is [(1, vF 138 #[] #[]), (5, s4), (11, l'v), (12, vI (l'.length : Int)), (13, vI x2_)] (List.flatten [Ss1_]) tt ll ∧ nn = n9 + 1) (N + 1) ?_ ?_
 ·exact ⟨N, (List.replicate ((l'.length : Int)).toNat ([])), 0, hM, S5, H6, Ak rfl rfl, rfl⟩
 clear hM; rintro t l _ ⟨n9, s1_, x2_, hM, Ss1_, hs1_, ⟨⟨T, rfl⟩, rfl⟩, rfl⟩
 rcases n9 with _ | n9
 ·exact absurd hM (by simp [Fq])
 rw [Fq] at hM
 refine Ad <| r_V (vB (decide (x2_ < (l'.length : Int)))) rfl <| Aa <| Ai fun K11 hK11 => Af _ rfl (fun hc12 => ?_) (fun hc12 => ?_)
 ·replace hM := iD hc12 hM
  refine Ah <| hK11 _ _ ?_
  refine Ai fun K13 hK13 => Ap <| Ad <| r_V (vI x2_) rfl ?_
  obtain ⟨ck15, hM⟩ := Ae hM
  refine r_W (elA l'v (x2_.toNat * 3)) rfl (AD (An rfl rfl rfl (Rd.shp hl') ck15)) <| Bw (vA #[vS ((l'[x2_.toNat]!).1), vI ((l'[x2_.toNat]!).2.1), vI ((l'[x2_.toNat]!).2.2)]) (En := enc_118) (l'[x2_.toNat]!) (x2_.toNat) 0 rfl rfl (Av hl') (AA ck15) rfl <| r_a (118, #[Value.string (⟨#[]⟩), vI 0, vI 0]) rfl rfl rfl (fun b16 => ?_) (.inr rfl)
  refine r_V (vI x2_) rfl <| r_s (List.flatten [(Hf b16 ((l'[x2_.toNat]!).1) ((l'[x2_.toNat]!).2.1) ((l'[x2_.toNat]!).2.2)), Ss1_]) 0 _ _ _ _ _ (#[vS ((l'[x2_.toNat]!).1), vI ((l'[x2_.toNat]!).2.1), vI ((l'[x2_.toNat]!).2.2)]) rfl rfl rfl rfl (.of rfl rfl) rfl rfl <| Aa <| Ax <| r_R [s4, vI x2_, vF 138 #[] #[]] rfl <| rl (vA #[vS ((l'[x2_.toNat]!).1), vI ((l'[x2_.toNat]!).2.1), vI ((l'[x2_.toNat]!).2.2)]) 0 ?_
  obtain ⟨r17, hr18, hM⟩ := Ab hM
  refine rc (vS r17) (AX (caps := []) rfl ZP rfl) (Ts N ((l'[x2_.toNat]!).1) ((l'[x2_.toNat]!).2.1) ((l'[x2_.toNat]!).2.2) _ hr18) ?_
  obtain ⟨ck19, hM⟩ := Ae hM
  refine r_W (elA s4 (x2_.toNat * 1)) rfl (AD (An rfl rfl rfl (Sl.shp hs1_) ck19)) <| MV (Ls := [(Hf b16 ((l'[x2_.toNat]!).1) ((l'[x2_.toNat]!).2.1) ((l'[x2_.toNat]!).2.2)), Ss1_]) 1 (En := encS) (s1_[x2_.toNat]!) r17 (x2_.toNat) 0 rfl rfl rfl hs1_ (AA ck19) rfl rfl rfl (Gr rfl) rfl (fun S20 H21 => ?_)
  refine Aa <| hK13 _ _ ?_
  refine Ax ?_
  obtain ⟨ck22, hM⟩ := Ae hM
  refine r_X (vI (x2_ + 1)) rfl (AR rfl ck22.1 ck22.2) rfl <| r_V (vI (x2_ + 1)) rfl <| Aa <| fg _ (Sub.pick [(Hf b16 ((l'[x2_.toNat]!).1) ((l'[x2_.toNat]!).2.1) ((l'[x2_.toNat]!).2.2)), S20] [1] rfl) ?_
  exact ⟨n9 + 1, by omega, n9, (s1_).set (x2_.toNat) r17, (x2_ + 1), hM, S20, H21, Ak rfl rfl, rfl⟩
 replace hM := iF hc12 hM
 refine AM <| hK7 _ _ ?_
 refine Ad <| r_R [s4, s4] rfl <| Aa ?_
 cases hM
 refine AW (fun hn => Ex (v0 := s4) hs1_ (Cv (Sub.pick [Ss1_] [0] rfl)) rfl (Cy rfl))
def CT (N : Nat) (n : Int) : Option Int := (Az N n 1 8).bind fun r3 => (Ag N r3 7).bind fun r5 => some r5
theorem KA (N : Nat) (n r : Int) (hM : CT N n = some r) : Gives prog 140 #[vI n] (vI r) := by
 unfold CT at hM
 refine AC follows func140 rfl 6 rfl _ fz1 (fun base0_ => ?_)
 refine Ad <| r_V (vI 0) rfl <| Aa <| Ad <| r_V (vI n) rfl ?_
 obtain ⟨r3, hr4, hM⟩ := Ab hM
 refine rc (vB r3) (cF BP) (AI N n 1 8 _ hr4) ?_
 obtain ⟨r5, hr6, hM⟩ := Ab hM
 refine rc (vI r5) (cF AJ) (AB N r3 7 _ hr6) <| r_V (vI r5) rfl <| Aa ?_
 cases hM
 exact aR eE1
def Gc (N : Nat) (_ : List UInt8) (x_1 : Int) (x_2 : Int) : Option Int := (CE N x_1).bind fun r4 => (CT N x_2).bind fun r6 => (As N ([r4, r6])).bind fun r11 => some r11
theorem Tr (N : Nat) (x_0 : List UInt8) (x_1 x_2 r : Int) (hM : Gc N x_0 x_1 x_2 = some r) : Gives prog 139 #[vA #[vS x_0, vI x_1, vI x_2]] (vI r) := by
 unfold Gc at hM
 refine AC follows func139 rfl 11 rfl _ fz1 (fun base0_ => ?_)
 refine Ad <| r_a (118, #[vS x_0, vI x_1, vI x_2]) rfl rfl rfl (fun b2 => ?_) (.inr rfl)
 refine r_V (vI 0) rfl <| Aa <| Ai fun K3 hK3 => Ck [(some 9, false), (some 10, false)] (conG prog [(10, fun _ _ v_ L_ U_ => ∀ u0_, CE N x_1 = some u0_ → ∀ u1_, CT N x_2 = some u1_ → ∀ u2_, As N ([u0_, u1_]) = some u2_ → (pV (vI u2_)) v_ L_ U_)]) [] (by decide +kernel) (fun hn => Be) <| r_V (vP b2 1) rfl <| rl (vI x_1) 0 ?_
 obtain ⟨r4, hr5, hM⟩ := Ab hM
 refine rc (vI r4) (cF Ok) (IW N x_1 _ hr5) <| r_V (vP b2 2) rfl <| rl (vI x_2) 0 ?_
 obtain ⟨r6, hr7, hM⟩ := Ab hM
 refine rc (vI r6) (cF Oh) (KA N x_2 _ hr7) <| Dj (cs0 := [(10, fun _ _ v_ L_ U_ => ∀ u0_, CE N x_1 = some u0_ → ∀ u1_, CT N x_2 = some u1_ → ∀ u2_, As N ([u0_, u1_]) = some u2_ → (pV (vI u2_)) v_ L_ U_)]) (Ls := [(Hf b2 x_0 x_1 x_2)]) 38 BK [r4, r6] [vI r4, vI r6] [vI 0, vI 0] rfl rfl rfl rfl rfl rfl rfl (by kernel_rfl) (by kernel_rfl) rfl rfl rfl (fun s8 S9 H10 => ?_)
 obtain ⟨r11, hr12, hM⟩ := Ab hM
 refine rg (vI r11) (cF Br) (fun o w z_ => Bb N ([r4, r6]) _ hr12 z_.view s8 ((AN H10 (Aw (Ls := [(Hf b2 x_0 x_1 x_2), S9]) (k := 1) rfl rfl)) o w z_)) (fun _ _ v_ L_ U_ => ⟨fun h_ => h_ _ hr5 _ hr7 _ hr12, fun h_ => by intro _ e_; cases Option.some.inj (e_.symm.trans hr5); intro _ e_; cases Option.some.inj (e_.symm.trans hr7); intro _ e_; cases Option.some.inj (e_.symm.trans hr12); exact h_⟩) ?_
 refine r_V (vI r11) rfl <| Aa <| hK3 _ _ ?_
 cases hM
 exact aR eE1
def FG (N : Nat) (i : Int) (x_0 : List UInt8) (x_1 : Int) (x_2 : Int) (c2_ : List (List UInt8)) : Option Int := ck (0 ≤ i ∧ i < (c2_.length : Int)) ((Bf N (c2_[i.toNat]!)).bind fun r5 => (Ag N r5 4).bind fun r7 => (Ay N c2_ i).bind fun r9 => (Gc N x_0 x_1 x_2).bind fun r11 => (As N ([r7, r9, r11])).bind fun r16 => some r16)
theorem OL (N : Nat) (i : Int) (x_0 : List UInt8) (x_1 x_2 : Int) (c2_ : List (List UInt8)) (r) (hM : FG N i x_0 x_1 x_2 c2_ = some r) (ro : Ro) (bc2_ : Nat) (c2_v : Value) (hc2_ : Rd encS ro c2_v c2_) (hbc2_ : Blk ro bc2_ [c2_v]) (bc3_ : Nat) (hbc3_ : Blk ro bc3_ [vF 139 #[] #[]]) : Does prog 209 #[vI i, vA #[vS x_0, vI x_1, vI x_2], vP bc2_ 0, vP bc3_ 0] ro [] (pV (vI r)) := by
 unfold FG at hM
 refine Aq follows func209 rfl 21 rfl _ fz4 (fun base0_ => ?_)
 refine Ad <| r_a (118, #[vS x_0, vI x_1, vI x_2]) rfl rfl rfl (fun b2 => ?_) (.inr rfl)
 refine r_V (vI 0) rfl <| Aa <| Ai fun K3 hK3 => Ck [(some 15, false), (some 19, false), (some 20, false)] (conG prog [(15, cV (Ay N c2_ i) fun u0_ => vI u0_), (20, fun _ _ v_ L_ U_ => ∀ u0_, Bf N (c2_[i.toNat]!) = some u0_ → ∀ u1_, Ag N u0_ 4 = some u1_ → ∀ u2_, Ay N c2_ i = some u2_ → ∀ u3_, Gc N x_0 x_1 x_2 = some u3_ → ∀ u4_, As N ([u1_, u2_, u3_]) = some u4_ → (pV (vI u4_)) v_ L_ U_)]) [] (by decide +kernel) (fun hn => Be) <| CR c2_v (vs := [c2_v]) (o := 0) rfl rfl (AK hbc2_) rfl <| r_V (vI i) rfl ?_
 obtain ⟨ck4, hM⟩ := Ae hM
 refine r_W (elA c2_v (i.toNat * 1)) rfl (AD (An rfl rfl rfl (Rd.shp hc2_) ck4)) <| Bw (vS (c2_[i.toNat]!)) (En := encS) (c2_[i.toNat]!) (i.toNat) 0 rfl rfl (Av hc2_) (AA ck4) rfl ?_
 obtain ⟨r5, hr6, hM⟩ := Ab hM
 refine rc (vB r5) (cF HT) (GJ N (c2_[i.toNat]!) _ hr6) ?_
 obtain ⟨r7, hr8, hM⟩ := Ab hM
 refine rc (vI r7) (cF AJ) (AB N r5 4 _ hr8) <| CR c2_v (vs := [c2_v]) (o := 0) rfl rfl (AK hbc2_) rfl <| r_V (vI i) rfl ?_
 obtain ⟨r9, hr10, hM⟩ := Ab hM
 refine rg (vI r9) (cF Hu) (fun o w z_ => Dn N c2_ i _ hr10 z_.view c2_v ((Av hc2_) o w z_)) (AF hr10) <| CR (vF 139 #[] #[]) (vs := [vF 139 #[] #[]]) (o := 0) rfl rfl (AK hbc3_) rfl <| rl (vA #[vS x_0, vI x_1, vI x_2]) 0 ?_
 obtain ⟨r11, hr12, hM⟩ := Ab hM
 refine rc (vI r11) (AX (caps := []) rfl ZO rfl) (Tr N x_0 x_1 x_2 _ hr12) ?_
 refine Dj (cs0 := [(15, cV (Ay N c2_ i) fun u0_ => vI u0_), (20, fun _ _ v_ L_ U_ => ∀ u0_, Bf N (c2_[i.toNat]!) = some u0_ → ∀ u1_, Ag N u0_ 4 = some u1_ → ∀ u2_, Ay N c2_ i = some u2_ → ∀ u3_, Gc N x_0 x_1 x_2 = some u3_ → ∀ u4_, As N ([u1_, u2_, u3_]) = some u4_ → (pV (vI u4_)) v_ L_ U_)]) (Ls := [(Hf b2 x_0 x_1 x_2)]) 38 BK [r7, r9, r11] [vI r7, vI r9, vI r11] [vI 0, vI 0, vI 0] rfl rfl rfl rfl rfl rfl rfl (by kernel_rfl) (by kernel_rfl) rfl rfl rfl (fun s13 S14 H15 => ?_)
 obtain ⟨r16, hr17, hM⟩ := Ab hM
 refine rg (vI r16) (cF Br) (fun o w z_ => Bb N ([r7, r9, r11]) _ hr17 z_.view s13 ((AN H15 (Aw (Ls := [(Hf b2 x_0 x_1 x_2), S14]) (k := 1) rfl rfl)) o w z_)) (fun _ _ v_ L_ U_ => ⟨fun h_ => h_ _ hr6 _ hr8 _ hr10 _ hr12 _ hr17, fun h_ => by intro _ e_; cases Option.some.inj (e_.symm.trans hr6); intro _ e_; cases Option.some.inj (e_.symm.trans hr8); intro _ e_; cases Option.some.inj (e_.symm.trans hr10); intro _ e_; cases Option.some.inj (e_.symm.trans hr12); intro _ e_; cases Option.some.inj (e_.symm.trans hr17); exact h_⟩) ?_
 refine r_V (vI r16) rfl <| Aa <| hK3 _ _ ?_
 cases hM
 exact aR eV1
def Fu (N : Nat) (l' : List (List UInt8 × Int × Int)) (ask0_ : List (List UInt8)) : Nat → Int → Option (Int × Int)
  | 0, _ => none
  | n8 + 1, x1_ => if x1_ < (l'.length : Int) then ck (0 ≤ x1_ ∧ x1_ < (l'.length : Int)) ((FG N x1_ ((l'[x1_.toNat]!).1) ((l'[x1_.toNat]!).2.1) ((l'[x1_.toNat]!).2.2) ask0_).bind fun r17 => if (r17 : Int) ≠ 0 then some (x1_, r17) else ck (-9223372036854775808 ≤ (x1_ + 1) ∧ (x1_ + 1) ≤ 9223372036854775807) ((Fu N l' ask0_ n8) (x1_ + 1))) else some (0, 0)
def Ho (N : Nat) (l' : List (List UInt8 × Int × Int)) (most : Int) (ask0_ : List (List UInt8)) : Option (Int × Int) := if (l'.length : Int) > most then some (0, 2) else Fu N l' ask0_ N 0
theorem RB (N : Nat) (l' : List (List UInt8 × Int × Int)) (most : Int) (ask0_ : List (List UInt8)) (r) (hM : Ho N l' most ask0_ = some r) (ro : Ro) (l'v : Value) (hl' : Rd enc_118 ro l'v l') (bask0_ : Nat) (ask0_v : Value) (hask0_ : Rd encS ro ask0_v ask0_) (hbask0_ : Blk ro bask0_ [ask0_v]) (bask1_ : Nat) (hbask1_ : Blk ro bask1_ [vF 139 #[] #[]]) : Does prog 208 #[l'v, vI most, vF 209 #[] #[vP bask0_ 0, vP bask1_ 0]] ro [] (pV (vT #[vI r.1, vI r.2])) := by
 unfold Ho at hM
 refine Aq follows func208 rfl 31 rfl _ fz3 (fun base0_ => ?_)
 refine Ad <| r_R [vI 0, vI 0] rfl <| Aa <| Ai fun K2 hK2 => Ad <| r_V l'v rfl <| r_W (vI (l'.length : Int)) rfl (Aj rfl rfl rfl (Rd.shp hl')) <| r_R [vI most, vB (decide ((l'.length : Int) > most))] rfl <| Aa <| Af _ rfl (fun hc4 => ?_) (fun hc4 => ?_)
 ·replace hM := iD hc4 hM
  refine Ad <| r_R [vI 0, vI 2] rfl <| Aa ?_
  cases hM
  exact aR eV2
 replace hM := iF hc4 hM
 refine Ah <| hK2 _ _ ?_
 refine Ai fun K6 hK6 => Ad <| r_V l'v rfl <| r_W (vI (l'.length : Int)) rfl (Aj rfl rfl rfl (Rd.shp hl')) <| r_V (vI 0) rfl <| Aa <| Ap <| AS (fun tt ll nn => ∃ (n8 : Nat) (x1_ : Int), (Fu N l' ask0_ n8 x1_ = some r) ∧ Is [(2, vF 209 #[] #[vP bask0_ 0, vP bask1_ 0]), (15, l'v), (16, vI (l'.length : Int)), (17, vI x1_)] [] tt ll ∧ nn = n8 + 1) (N + 1) ?_ ?_
 ·exact ⟨N, 0, hM, Ak rfl rfl, rfl⟩
 clear hM; rintro t l _ ⟨n8, x1_, hM, ⟨⟨T, rfl⟩, rfl⟩, rfl⟩
 rcases n8 with _ | n8
 ·exact absurd hM (by simp [Fu])
 rw [Fu] at hM
 refine Ad <| r_V (vB (decide (x1_ < (l'.length : Int)))) rfl <| Aa <| Ai fun K10 hK10 => Af _ rfl (fun hc11 => ?_) (fun hc11 => ?_)
 ·replace hM := iD hc11 hM
  refine Ah <| hK10 _ _ ?_
  refine Ai fun K12 hK12 => Ap <| Ad <| r_V (vI x1_) rfl ?_
  obtain ⟨ck14, hM⟩ := Ae hM
  refine r_W (elA l'v (x1_.toNat * 3)) rfl (AD (An rfl rfl rfl (Rd.shp hl') ck14)) <| Bw (vA #[vS ((l'[x1_.toNat]!).1), vI ((l'[x1_.toNat]!).2.1), vI ((l'[x1_.toNat]!).2.2)]) (En := enc_118) (l'[x1_.toNat]!) (x1_.toNat) 0 rfl rfl (Av hl') (AA ck14) rfl <| r_a (118, #[Value.string (⟨#[]⟩), vI 0, vI 0]) rfl rfl rfl (fun b15 => ?_) (.inr rfl)
  refine r_V (vI x1_) rfl <| r_s (Hf b15 ((l'[x1_.toNat]!).1) ((l'[x1_.toNat]!).2.1) ((l'[x1_.toNat]!).2.2)) 0 _ _ _ _ _ (#[vS ((l'[x1_.toNat]!).1), vI ((l'[x1_.toNat]!).2.1), vI ((l'[x1_.toNat]!).2.2)]) rfl rfl rfl rfl (.of rfl rfl) rfl rfl <| Aa <| AL [(some 25, false)] (conG prog [(25, cV (FG N x1_ ((l'[x1_.toNat]!).1) ((l'[x1_.toNat]!).2.1) ((l'[x1_.toNat]!).2.2) ask0_) fun u0_ => vI u0_)]) <| r_R [vF 209 #[] #[vP bask0_ 0, vP bask1_ 0], vI x1_] rfl ?_
  refine rl (vA #[vS ((l'[x1_.toNat]!).1), vI ((l'[x1_.toNat]!).2.1), vI ((l'[x1_.toNat]!).2.2)]) 0 ?_
  obtain ⟨r17, hr18, hM⟩ := Ab hM
  refine rg (vI r17) (AX (caps := [vP bask0_ 0, vP bask1_ 0]) rfl YU rfl) (fun o w z_ => OL N x1_ ((l'[x1_.toNat]!).1) ((l'[x1_.toNat]!).2.1) ((l'[x1_.toNat]!).2.2) ask0_ _ hr18 z_.view bask0_ ask0_v ((Av hask0_) o w z_) (AK hbask0_ o w z_) bask1_ (AK hbask1_ o w z_)) (AF hr18) <| r_V (vI r17) rfl <| Aa <| Ad <| r_R [vI r17, vB (r17 != 0)] rfl <| Aa <| Af _ rfl (fun hc20 => ?_) (fun hc20 => ?_)
  ·replace hM := iN hc20 hM
   refine Ad <| r_R [vI x1_, vI r17, vI x1_, vI r17] rfl <| Aa ?_
   cases hM
   exact aR eV2
  replace hM := iM hc20 hM
  refine Ah <| hK12 _ _ ?_
  refine Ax ?_
  obtain ⟨ck22, hM⟩ := Ae hM
  refine r_X (vI (x1_ + 1)) rfl (AR rfl ck22.1 ck22.2) rfl <| r_V (vI (x1_ + 1)) rfl <| Aa <| fg _ (Sub.of (suC _ suN)) ?_
  exact ⟨n8 + 1, by omega, n8, (x1_ + 1), hM, Ak rfl rfl, rfl⟩
 replace hM := iF hc11 hM
 refine AM <| hK6 _ _ ?_
 refine Ad <| r_R [vI 0, vI 0] rfl <| Aa ?_
 cases hM
 exact aR eV2
def Ij (N : Nat) (l' : List (List UInt8 × Int × Int)) (most : Int) : Option (Int × Int) := (Ik N l').bind fun r4 => (Ho N l' most r4).bind fun r11 => some (r11.1, r11.2)
theorem Rx (N : Nat) (l' : List (List UInt8 × Int × Int)) (most : Int) (r) (hM : Ij N l' most = some r) (ro : Ro) (l'v : Value) (hl' : Rd enc_118 ro l'v l') : Does prog 137 #[l'v, vI most, vF 138 #[] #[], vF 139 #[] #[]] ro [] (pV (vT #[vI r.1, vI r.2])) := by
 unfold Ij at hM
 refine Aq follows func137 rfl 20 rfl _ fz4 (fun base0_ => ?_)
 refine Ad <| r_a (211, #[vF 139 #[] #[]]) rfl rfl rfl (fun b2 => ?_) (.inr rfl)
 refine r_R [vI 0, vI 0] rfl <| Aa <| AL [(some 13, false)] (conG prog [(13, fun _ _ v_ L_ U_ => ∀ u0_, Ik N l' = some u0_ → (p1 (fun s_ => s_) 9 encS u0_) v_ L_ U_)]) <| r_R [l'v, vF 138 #[] #[]] rfl ?_
 obtain ⟨r4, hr5, hM⟩ := Ab hM
 refine Iy (Ls := [(Nl b2 (vF 139 #[] #[]))]) (fun s6 => s6) 9 encS r4 207 _ rfl rfl rfl (cF YW) (fun o w z_ => Ry N l' _ hr5 z_.view l'v ((Av hl') o w z_)) (AF hr5) (fun s6 S7 H8 => ?_)
 refine r_a (81, #[nS]) rfl rfl rfl (fun b9 => ?_) (.inr rfl)
 refine r_s (List.flatten [(MD b9 s6), (Nl b2 (vF 139 #[] #[])), S7]) 0 _ _ _ _ _ (#[s6]) rfl rfl rfl (Du rfl (Sl.shp H8)) (.ofS rfl rfl (Ao (Shp.one (Sl.shp H8)) Bi)) rfl rfl <| Aa <| AL [(some 17, false)] (conG prog [(17, cV (Ho N l' most r4) fun u0_ => vT #[vI u0_.1, vI u0_.2])]) <| r_R [l'v, vI most] rfl <| r_W (vF 209 #[] #[vP b9 0, vP b2 0]) rfl (DV rfl) ?_
 obtain ⟨r11, hr12, hM⟩ := Ab hM
 refine rg (vT #[vI r11.1, vI r11.2]) (cF YV) (fun o w z_ => RB N l' most r4 _ hr12 z_.view l'v ((Av hl') o w z_) b9 s6 ((AN H8 (Aw (Ls := [(MD b9 s6), (Nl b2 (vF 139 #[] #[])), S7]) (k := 2) rfl rfl)) o w z_) (Bq 0 rfl rfl o w z_) b2 (Bq 1 rfl rfl o w z_)) (AF hr12) <| r_R [vI r11.1, vI r11.2, vI r11.1, vI r11.2] rfl <| Aa ?_
 cases hM
 exact aR eV2
def Fa (N : Nat) (c : Al) : Option (Int × Int) := (Ij N c.2.2.2.2.2.2.2.2.2.2.2.2.1 8).bind fun r4 => some (r4.1, r4.2)
theorem RE (N : Nat) (c : Al) (r) (hM : Fa N c = some r) (ro : Ro) (cv : AP) (hc : Bun35R ro cv c) : Does prog 75 #[vA (Ac c cv)] ro [] (pV (vT #[vI r.1, vI r.2])) := by
 unfold Fa at hM
 refine Aq follows func75 rfl 10 rfl _ fz1 (fun base0_ => ?_)
 refine Ad <| r_a (92, (Ac c cv)) rfl rfl rfl (fun b2 => ?_) (.inr rfl)
 refine r_R [vI 0, vI 0] rfl <| Aa <| AL [(some 7, false)] (conG prog [(7, cV (Ij N c.2.2.2.2.2.2.2.2.2.2.2.2.1 8) fun u0_ => vT #[vI u0_.1, vI u0_.2])]) <| r_R [vP b2 0, vP b2 12] rfl <| rl cv.2.2.2.2.2.2.2.2.2.2.2.1 0 ?_
 obtain ⟨r4, hr5, hM⟩ := Ab hM
 refine rg (vT #[vI r4.1, vI r4.2]) (cF ZQ) (fun o w z_ => Rx N c.2.2.2.2.2.2.2.2.2.2.2.2.1 8 _ hr5 z_.view cv.2.2.2.2.2.2.2.2.2.2.2.1 ((Av hc.2.2.2.2.2.2.2.2.2.2.2.1) o w z_)) (AF hr5) <| r_R [vI r4.1, vI r4.2, vI r4.1, vI r4.2] rfl <| Aa ?_
 cases hM
 exact aR eV2
def HK (_ : Nat) (x_0 : List UInt8) (_ : Int) : Option (List UInt8) := some x_0
theorem NM (N : Nat) (x_0 : List UInt8) (x_1 : Int) (r) (hM : HK N x_0 x_1 = some r) : Gives prog 142 #[vA #[vS x_0, vI x_1]] (vS r) := by
 unfold HK at hM
 refine AC follows func142 rfl 5 rfl _ fz1 (fun base0_ => ?_)
 refine Ad <| r_a (122, #[vS x_0, vI x_1]) rfl rfl rfl (fun b2 => ?_) (.inr rfl)
 refine r_V (Value.string (⟨#[]⟩)) rfl <| Aa <| Ad <| r_V (vP b2 0) rfl <| rl (vS x_0) 0 <| r_V (vS x_0) rfl <| Aa ?_
 cases hM
 exact aR eE1
def CL (N : Nat) (l' : List (List UInt8 × Int)) : Nat → List (List UInt8) → Int → Option (List (List UInt8))
  | 0, _, _ => none
  | n9 + 1, s1_, x2_ => if x2_ < (l'.length : Int) then ck (0 ≤ x2_ ∧ x2_ < (l'.length : Int)) ((HK N ((l'[x2_.toNat]!).1) ((l'[x2_.toNat]!).2)).bind fun r17 => ck (0 ≤ x2_ ∧ x2_ < (s1_.length : Int)) (ck (-9223372036854775808 ≤ (x2_ + 1) ∧ (x2_ + 1) ≤ 9223372036854775807) ((CL N l' n9) ((s1_).set (x2_.toNat) r17) (x2_ + 1)))) else some s1_
def FW (N : Nat) (l' : List (List UInt8 × Int)) : Option (List (List UInt8)) := ck (0 ≤ (l'.length : Int) ∧ (l'.length : Int) ≤ 8796093022208) (CL N l' N ((List.replicate ((l'.length : Int)).toNat ([]))) 0)
theorem Mp (N : Nat) (l' : List (List UInt8 × Int)) (r) (hM : FW N l' = some r) (ro : Ro) (l'v : Value) (hl' : Rd enc_122 ro l'v l') : Does prog 210 #[l'v, vF 142 #[] #[]] ro [] (p1 (fun s_ => s_) 9 encS r) := by
 unfold FW at hM
 refine Aq follows func210 rfl 26 rfl _ fz2 (fun base0_ => ?_)
 refine Ad <| r_V nS rfl <| Aa <| AL [(some 10, false)] (conG prog [(10, fun _ _ v_ L_ U_ => (p1 (fun v => v) 9 encS (List.replicate ((l'.length : Int)).toNat ([]))) v_ L_ U_)]) <| r_V l'v rfl <| r_W (vI (l'.length : Int)) rfl (Aj rfl rfl rfl (Rd.shp hl')) ?_
 obtain ⟨ck3, hM⟩ := Ae hM
 refine MW (Ls := []) 9 encS ([]) (l'.length : Int) rfl rfl rfl rfl rfl rfl rfl rfl rfl rfl 8796093022208 rfl ck3 (fun _ _ _ _ _ => Iff.rfl) (fun s4 S5 H6 => ?_)
 refine r_V s4 rfl <| Aa <| Ai fun K7 hK7 => Ad <| r_V l'v rfl <| r_W (vI (l'.length : Int)) rfl (Aj rfl rfl rfl (Rd.shp hl')) <| r_V (vI 0) rfl <| Aa <| Ap <| BF _ (Sub.pick [S5] [0] rfl) <| AS (fun tt ll nn => ∃ (n9 : Nat) (s1_ : List (List UInt8)) (x2_ : Int), (CL N l' n9 s1_ x2_ = some r) ∧ ∃ (Ss1_ : List Bl), Sl 9 encS s4 s1_ Ss1_ ∧ Is [(1, vF 142 #[] #[]), (5, s4), (11, l'v), (12, vI (l'.length : Int)), (13, vI x2_)] (List.flatten [Ss1_]) tt ll ∧ nn = n9 + 1) (N + 1) ?_ ?_
 ·exact ⟨N, (List.replicate ((l'.length : Int)).toNat ([])), 0, hM, S5, H6, Ak rfl rfl, rfl⟩
 clear hM; rintro t l _ ⟨n9, s1_, x2_, hM, Ss1_, hs1_, ⟨⟨T, rfl⟩, rfl⟩, rfl⟩
 rcases n9 with _ | n9
 ·exact absurd hM (by simp [CL])
 rw [CL] at hM
 refine Ad <| r_V (vB (decide (x2_ < (l'.length : Int)))) rfl <| Aa <| Ai fun K11 hK11 => Af _ rfl (fun hc12 => ?_) (fun hc12 => ?_)
 ·replace hM := iD hc12 hM
  refine Ah <| hK11 _ _ ?_
  refine Ai fun K13 hK13 => Ap <| Ad <| r_V (vI x2_) rfl ?_
  obtain ⟨ck15, hM⟩ := Ae hM
  refine r_W (elA l'v (x2_.toNat * 2)) rfl (AD (An rfl rfl rfl (Rd.shp hl') ck15)) <| Bw (vA #[vS ((l'[x2_.toNat]!).1), vI ((l'[x2_.toNat]!).2)]) (En := enc_122) (l'[x2_.toNat]!) (x2_.toNat) 0 rfl rfl (Av hl') (AA ck15) rfl <| r_a (122, #[Value.string (⟨#[]⟩), vI 0]) rfl rfl rfl (fun b16 => ?_) (.inr rfl)
  refine r_V (vI x2_) rfl <| r_s (List.flatten [(ID b16 ((l'[x2_.toNat]!).1) ((l'[x2_.toNat]!).2)), Ss1_]) 0 _ _ _ _ _ (#[vS ((l'[x2_.toNat]!).1), vI ((l'[x2_.toNat]!).2)]) rfl rfl rfl rfl (.of rfl rfl) rfl rfl <| Aa <| Ax <| r_R [s4, vI x2_, vF 142 #[] #[]] rfl <| rl (vA #[vS ((l'[x2_.toNat]!).1), vI ((l'[x2_.toNat]!).2)]) 0 ?_
  obtain ⟨r17, hr18, hM⟩ := Ab hM
  refine rc (vS r17) (AX (caps := []) rfl ZM rfl) (NM N ((l'[x2_.toNat]!).1) ((l'[x2_.toNat]!).2) _ hr18) ?_
  obtain ⟨ck19, hM⟩ := Ae hM
  refine r_W (elA s4 (x2_.toNat * 1)) rfl (AD (An rfl rfl rfl (Sl.shp hs1_) ck19)) <| MV (Ls := [(ID b16 ((l'[x2_.toNat]!).1) ((l'[x2_.toNat]!).2)), Ss1_]) 1 (En := encS) (s1_[x2_.toNat]!) r17 (x2_.toNat) 0 rfl rfl rfl hs1_ (AA ck19) rfl rfl rfl (Gr rfl) rfl (fun S20 H21 => ?_)
  refine Aa <| hK13 _ _ ?_
  refine Ax ?_
  obtain ⟨ck22, hM⟩ := Ae hM
  refine r_X (vI (x2_ + 1)) rfl (AR rfl ck22.1 ck22.2) rfl <| r_V (vI (x2_ + 1)) rfl <| Aa <| fg _ (Sub.pick [(ID b16 ((l'[x2_.toNat]!).1) ((l'[x2_.toNat]!).2)), S20] [1] rfl) ?_
  exact ⟨n9 + 1, by omega, n9, (s1_).set (x2_.toNat) r17, (x2_ + 1), hM, S20, H21, Ak rfl rfl, rfl⟩
 replace hM := iF hc12 hM
 refine AM <| hK7 _ _ ?_
 refine Ad <| r_R [s4, s4] rfl <| Aa ?_
 cases hM
 refine AW (fun hn => Ex (v0 := s4) hs1_ (Cv (Sub.pick [Ss1_] [0] rfl)) rfl (Cy rfl))
def Fb (N : Nat) (_ : List UInt8) (x_1 : Int) : Option Int := (CT N x_1).bind fun r4 => some r4
theorem NL (N : Nat) (x_0 : List UInt8) (x_1 r : Int) (hM : Fb N x_0 x_1 = some r) : Gives prog 143 #[vA #[vS x_0, vI x_1]] (vI r) := by
 unfold Fb at hM
 refine AC follows func143 rfl 6 rfl _ fz1 (fun base0_ => ?_)
 refine Ad <| r_a (122, #[vS x_0, vI x_1]) rfl rfl rfl (fun b2 => ?_) (.inr rfl)
 refine r_V (vI 0) rfl <| Aa <| Ad <| r_V (vP b2 1) rfl <| rl (vI x_1) 0 ?_
 obtain ⟨r4, hr5, hM⟩ := Ab hM
 refine rc (vI r4) (cF Oh) (KA N x_1 _ hr5) <| r_V (vI r4) rfl <| Aa ?_
 cases hM
 exact aR eE1
def Dq (N : Nat) (i : Int) (x_0 : List UInt8) (x_1 : Int) (c2_ : List (List UInt8)) : Option Int := ck (0 ≤ i ∧ i < (c2_.length : Int)) ((Bf N (c2_[i.toNat]!)).bind fun r5 => (Ag N r5 4).bind fun r7 => (Ay N c2_ i).bind fun r9 => (Fb N x_0 x_1).bind fun r11 => (As N ([r7, r9, r11])).bind fun r16 => some r16)
theorem Le (N : Nat) (i : Int) (x_0 : List UInt8) (x_1 : Int) (c2_ : List (List UInt8)) (r) (hM : Dq N i x_0 x_1 c2_ = some r) (ro : Ro) (bc2_ : Nat) (c2_v : Value) (hc2_ : Rd encS ro c2_v c2_) (hbc2_ : Blk ro bc2_ [c2_v]) (bc3_ : Nat) (hbc3_ : Blk ro bc3_ [vF 143 #[] #[]]) : Does prog 212 #[vI i, vA #[vS x_0, vI x_1], vP bc2_ 0, vP bc3_ 0] ro [] (pV (vI r)) := by
 unfold Dq at hM
 refine Aq follows func212 rfl 21 rfl _ fz4 (fun base0_ => ?_)
 refine Ad <| r_a (122, #[vS x_0, vI x_1]) rfl rfl rfl (fun b2 => ?_) (.inr rfl)
 refine r_V (vI 0) rfl <| Aa <| Ai fun K3 hK3 => Ck [(some 15, false), (some 19, false), (some 20, false)] (conG prog [(15, cV (Ay N c2_ i) fun u0_ => vI u0_), (20, fun _ _ v_ L_ U_ => ∀ u0_, Bf N (c2_[i.toNat]!) = some u0_ → ∀ u1_, Ag N u0_ 4 = some u1_ → ∀ u2_, Ay N c2_ i = some u2_ → ∀ u3_, Fb N x_0 x_1 = some u3_ → ∀ u4_, As N ([u1_, u2_, u3_]) = some u4_ → (pV (vI u4_)) v_ L_ U_)]) [] (by decide +kernel) (fun hn => Be) <| CR c2_v (vs := [c2_v]) (o := 0) rfl rfl (AK hbc2_) rfl <| r_V (vI i) rfl ?_
 obtain ⟨ck4, hM⟩ := Ae hM
 refine r_W (elA c2_v (i.toNat * 1)) rfl (AD (An rfl rfl rfl (Rd.shp hc2_) ck4)) <| Bw (vS (c2_[i.toNat]!)) (En := encS) (c2_[i.toNat]!) (i.toNat) 0 rfl rfl (Av hc2_) (AA ck4) rfl ?_
 obtain ⟨r5, hr6, hM⟩ := Ab hM
 refine rc (vB r5) (cF HT) (GJ N (c2_[i.toNat]!) _ hr6) ?_
 obtain ⟨r7, hr8, hM⟩ := Ab hM
 refine rc (vI r7) (cF AJ) (AB N r5 4 _ hr8) <| CR c2_v (vs := [c2_v]) (o := 0) rfl rfl (AK hbc2_) rfl <| r_V (vI i) rfl ?_
 obtain ⟨r9, hr10, hM⟩ := Ab hM
 refine rg (vI r9) (cF Hu) (fun o w z_ => Dn N c2_ i _ hr10 z_.view c2_v ((Av hc2_) o w z_)) (AF hr10) <| CR (vF 143 #[] #[]) (vs := [vF 143 #[] #[]]) (o := 0) rfl rfl (AK hbc3_) rfl <| rl (vA #[vS x_0, vI x_1]) 0 ?_
 obtain ⟨r11, hr12, hM⟩ := Ab hM
 refine rc (vI r11) (AX (caps := []) rfl ZL rfl) (NL N x_0 x_1 _ hr12) ?_
 refine Dj (cs0 := [(15, cV (Ay N c2_ i) fun u0_ => vI u0_), (20, fun _ _ v_ L_ U_ => ∀ u0_, Bf N (c2_[i.toNat]!) = some u0_ → ∀ u1_, Ag N u0_ 4 = some u1_ → ∀ u2_, Ay N c2_ i = some u2_ → ∀ u3_, Fb N x_0 x_1 = some u3_ → ∀ u4_, As N ([u1_, u2_, u3_]) = some u4_ → (pV (vI u4_)) v_ L_ U_)]) (Ls := [(ID b2 x_0 x_1)]) 38 BK [r7, r9, r11] [vI r7, vI r9, vI r11] [vI 0, vI 0, vI 0] rfl rfl rfl rfl rfl rfl rfl (by kernel_rfl) (by kernel_rfl) rfl rfl rfl (fun s13 S14 H15 => ?_)
 obtain ⟨r16, hr17, hM⟩ := Ab hM
 refine rg (vI r16) (cF Br) (fun o w z_ => Bb N ([r7, r9, r11]) _ hr17 z_.view s13 ((AN H15 (Aw (Ls := [(ID b2 x_0 x_1), S14]) (k := 1) rfl rfl)) o w z_)) (fun _ _ v_ L_ U_ => ⟨fun h_ => h_ _ hr6 _ hr8 _ hr10 _ hr12 _ hr17, fun h_ => by intro _ e_; cases Option.some.inj (e_.symm.trans hr6); intro _ e_; cases Option.some.inj (e_.symm.trans hr8); intro _ e_; cases Option.some.inj (e_.symm.trans hr10); intro _ e_; cases Option.some.inj (e_.symm.trans hr12); intro _ e_; cases Option.some.inj (e_.symm.trans hr17); exact h_⟩) ?_
 refine r_V (vI r16) rfl <| Aa <| hK3 _ _ ?_
 cases hM
 exact aR eV1
def CM (N : Nat) (l' : List (List UInt8 × Int)) (ask0_ : List (List UInt8)) : Nat → Int → Option (Int × Int)
  | 0, _ => none
  | n8 + 1, x1_ => if x1_ < (l'.length : Int) then ck (0 ≤ x1_ ∧ x1_ < (l'.length : Int)) ((Dq N x1_ ((l'[x1_.toNat]!).1) ((l'[x1_.toNat]!).2) ask0_).bind fun r17 => if (r17 : Int) ≠ 0 then some (x1_, r17) else ck (-9223372036854775808 ≤ (x1_ + 1) ∧ (x1_ + 1) ≤ 9223372036854775807) ((CM N l' ask0_ n8) (x1_ + 1))) else some (0, 0)
def Ew (N : Nat) (l' : List (List UInt8 × Int)) (most : Int) (ask0_ : List (List UInt8)) : Option (Int × Int) := if (l'.length : Int) > most then some (0, 2) else CM N l' ask0_ N 0
theorem Mq (N : Nat) (l' : List (List UInt8 × Int)) (most : Int) (ask0_ : List (List UInt8)) (r) (hM : Ew N l' most ask0_ = some r) (ro : Ro) (l'v : Value) (hl' : Rd enc_122 ro l'v l') (bask0_ : Nat) (ask0_v : Value) (hask0_ : Rd encS ro ask0_v ask0_) (hbask0_ : Blk ro bask0_ [ask0_v]) (bask1_ : Nat) (hbask1_ : Blk ro bask1_ [vF 143 #[] #[]]) : Does prog 211 #[l'v, vI most, vF 212 #[] #[vP bask0_ 0, vP bask1_ 0]] ro [] (pV (vT #[vI r.1, vI r.2])) := by
 unfold Ew at hM
 refine Aq follows func211 rfl 31 rfl _ fz3 (fun base0_ => ?_)
 refine Ad <| r_R [vI 0, vI 0] rfl <| Aa <| Ai fun K2 hK2 => Ad <| r_V l'v rfl <| r_W (vI (l'.length : Int)) rfl (Aj rfl rfl rfl (Rd.shp hl')) <| r_R [vI most, vB (decide ((l'.length : Int) > most))] rfl <| Aa <| Af _ rfl (fun hc4 => ?_) (fun hc4 => ?_)
 ·replace hM := iD hc4 hM
  refine Ad <| r_R [vI 0, vI 2] rfl <| Aa ?_
  cases hM
  exact aR eV2
 replace hM := iF hc4 hM
 refine Ah <| hK2 _ _ ?_
 refine Ai fun K6 hK6 => Ad <| r_V l'v rfl <| r_W (vI (l'.length : Int)) rfl (Aj rfl rfl rfl (Rd.shp hl')) <| r_V (vI 0) rfl <| Aa <| Ap <| AS (fun tt ll nn => ∃ (n8 : Nat) (x1_ : Int), (CM N l' ask0_ n8 x1_ = some r) ∧ Is [(2, vF 212 #[] #[vP bask0_ 0, vP bask1_ 0]), (15, l'v), (16, vI (l'.length : Int)), (17, vI x1_)] [] tt ll ∧ nn = n8 + 1) (N + 1) ?_ ?_
 ·exact ⟨N, 0, hM, Ak rfl rfl, rfl⟩
 clear hM; rintro t l _ ⟨n8, x1_, hM, ⟨⟨T, rfl⟩, rfl⟩, rfl⟩
 rcases n8 with _ | n8
 ·exact absurd hM (by simp [CM])
 rw [CM] at hM
 refine Ad <| r_V (vB (decide (x1_ < (l'.length : Int)))) rfl <| Aa <| Ai fun K10 hK10 => Af _ rfl (fun hc11 => ?_) (fun hc11 => ?_)
 ·replace hM := iD hc11 hM
  refine Ah <| hK10 _ _ ?_
  refine Ai fun K12 hK12 => Ap <| Ad <| r_V (vI x1_) rfl ?_
  obtain ⟨ck14, hM⟩ := Ae hM
  refine r_W (elA l'v (x1_.toNat * 2)) rfl (AD (An rfl rfl rfl (Rd.shp hl') ck14)) <| Bw (vA #[vS ((l'[x1_.toNat]!).1), vI ((l'[x1_.toNat]!).2)]) (En := enc_122) (l'[x1_.toNat]!) (x1_.toNat) 0 rfl rfl (Av hl') (AA ck14) rfl <| r_a (122, #[Value.string (⟨#[]⟩), vI 0]) rfl rfl rfl (fun b15 => ?_) (.inr rfl)
  refine r_V (vI x1_) rfl <| r_s (ID b15 ((l'[x1_.toNat]!).1) ((l'[x1_.toNat]!).2)) 0 _ _ _ _ _ (#[vS ((l'[x1_.toNat]!).1), vI ((l'[x1_.toNat]!).2)]) rfl rfl rfl rfl (.of rfl rfl) rfl rfl <| Aa <| AL [(some 25, false)] (conG prog [(25, cV (Dq N x1_ ((l'[x1_.toNat]!).1) ((l'[x1_.toNat]!).2) ask0_) fun u0_ => vI u0_)]) <| r_R [vF 212 #[] #[vP bask0_ 0, vP bask1_ 0], vI x1_] rfl <| rl (vA #[vS ((l'[x1_.toNat]!).1), vI ((l'[x1_.toNat]!).2)]) 0 ?_
  obtain ⟨r17, hr18, hM⟩ := Ab hM
  refine rg (vI r17) (AX (caps := [vP bask0_ 0, vP bask1_ 0]) rfl YR rfl) (fun o w z_ => Le N x1_ ((l'[x1_.toNat]!).1) ((l'[x1_.toNat]!).2) ask0_ _ hr18 z_.view bask0_ ask0_v ((Av hask0_) o w z_) (AK hbask0_ o w z_) bask1_ (AK hbask1_ o w z_)) (AF hr18) <| r_V (vI r17) rfl <| Aa <| Ad <| r_R [vI r17, vB (r17 != 0)] rfl <| Aa <| Af _ rfl (fun hc20 => ?_) (fun hc20 => ?_)
  ·replace hM := iN hc20 hM
   refine Ad <| r_R [vI x1_, vI r17, vI x1_, vI r17] rfl <| Aa ?_
   cases hM
   exact aR eV2
  replace hM := iM hc20 hM
  refine Ah <| hK12 _ _ ?_
  refine Ax ?_
  obtain ⟨ck22, hM⟩ := Ae hM
  refine r_X (vI (x1_ + 1)) rfl (AR rfl ck22.1 ck22.2) rfl <| r_V (vI (x1_ + 1)) rfl <| Aa <| fg _ (Sub.of (suC _ suN)) ?_
  exact ⟨n8 + 1, by omega, n8, (x1_ + 1), hM, Ak rfl rfl, rfl⟩
 replace hM := iF hc11 hM
 refine AM <| hK6 _ _ ?_
 refine Ad <| r_R [vI 0, vI 0] rfl <| Aa ?_
 cases hM
 exact aR eV2
end Go.Proofs.YtjmdbbnnpmmpiaaGreatDoor
