import Derived.Test.YtjmdbbnnpmmpiaaGreatDoorBf
namespace Go.Proofs.YtjmdbbnnpmmpiaaGreatDoor
open Go Go.RowKit Go.Eng _root_.Go.Proofs.Tryz
set_option maxRecDepth 100000
set_option maxHeartbeats 8000000
abbrev Nk (b : Nat) (x0 : Value) : List Bl := [(b, 214, #[x0])]
abbrev MC (b : Nat) (x0 : Value) : List Bl := [(b, 81, #[x0])]
abbrev Gt (b : Nat) (x0 : List UInt8) (x1 : Int) (x2 : Int) (x3 : Int) : List Bl := [(b, 126, #[vS x0, vI x1, vI x2, vI x3])]
abbrev Nj (b : Nat) (x0 : Value) : List Bl := [(b, 217, #[x0])]
abbrev Bs (b : Nat) (x0 : Int) (x1 : Int) (x2 : Int) : List Bl := [(b, 89, #[vI x0, vI x1, vI x2])]
def FV (N : Nat) (l' : List (List UInt8 × Int)) (most : Int) : Option (Int × Int) := (FW N l').bind fun r4 => (Ew N l' most r4).bind fun r11 => some (r11.1, r11.2)
theorem Mo (N : Nat) (l' : List (List UInt8 × Int)) (most : Int) (r) (hM : FV N l' most = some r) (ro : Ro) (l'v : Value) (hl' : Rd enc_122 ro l'v l') : Does prog 141 #[l'v, vI most, vF 142 #[] #[], vF 143 #[] #[]] ro [] (pV (vT #[vI r.1, vI r.2])) := by
 unfold FV at hM
 refine Aq follows func141 rfl 20 rfl _ fz4 (fun base0_ => ?_)
 refine Ad <| r_a (214, #[vF 143 #[] #[]]) rfl rfl rfl (fun b2 => ?_) (.inr rfl)
 refine r_R [vI 0, vI 0] rfl <| Aa <| AL [(some 13, false)] (conG prog [(13, fun _ _ v_ L_ U_ => ∀ u0_, FW N l' = some u0_ → (p1 (fun s_ => s_) 9 encS u0_) v_ L_ U_)]) <| r_R [l'v, vF 142 #[] #[]] rfl ?_
 obtain ⟨r4, hr5, hM⟩ := Ab hM
 refine Iy (Ls := [(Nk b2 (vF 143 #[] #[]))]) (fun s6 => s6) 9 encS r4 210 _ rfl rfl rfl (cF YT) (fun o w z_ => Mp N l' _ hr5 z_.view l'v ((Av hl') o w z_)) (AF hr5) (fun s6 S7 H8 => ?_)
 refine r_a (81, #[nS]) rfl rfl rfl (fun b9 => ?_) (.inr rfl)
 refine r_s (List.flatten [(MC b9 s6), (Nk b2 (vF 143 #[] #[])), S7]) 0 _ _ _ _ _ (#[s6]) rfl rfl rfl (Du rfl (Sl.shp H8)) (.ofS rfl rfl (Ao (Shp.one (Sl.shp H8)) Bi)) rfl rfl <| Aa <| AL [(some 17, false)] (conG prog [(17, cV (Ew N l' most r4) fun u0_ => vT #[vI u0_.1, vI u0_.2])]) <| r_R [l'v, vI most] rfl <| r_W (vF 212 #[] #[vP b9 0, vP b2 0]) rfl (DV rfl) ?_
 obtain ⟨r11, hr12, hM⟩ := Ab hM
 refine rg (vT #[vI r11.1, vI r11.2]) (cF YS) (fun o w z_ => Mq N l' most r4 _ hr12 z_.view l'v ((Av hl') o w z_) b9 s6 ((AN H8 (Aw (Ls := [(MC b9 s6), (Nk b2 (vF 143 #[] #[])), S7]) (k := 2) rfl rfl)) o w z_) (Bq 0 rfl rfl o w z_) b2 (Bq 1 rfl rfl o w z_)) (AF hr12) <| r_R [vI r11.1, vI r11.2, vI r11.1, vI r11.2] rfl <| Aa ?_
 cases hM
 exact aR eV2
def Cz (N : Nat) (c : Al) : Option (Int × Int) := (FV N c.2.2.2.2.2.2.2.2.2.2.2.2.2.1 8).bind fun r4 => some (r4.1, r4.2)
theorem Mv (N : Nat) (c : Al) (r) (hM : Cz N c = some r) (ro : Ro) (cv : AP) (hc : Bun35R ro cv c) : Does prog 76 #[vA (Ac c cv)] ro [] (pV (vT #[vI r.1, vI r.2])) := by
 unfold Cz at hM
 refine Aq follows func76 rfl 10 rfl _ fz1 (fun base0_ => ?_)
 refine Ad <| r_a (92, (Ac c cv)) rfl rfl rfl (fun b2 => ?_) (.inr rfl)
 refine r_R [vI 0, vI 0] rfl <| Aa <| AL [(some 7, false)] (conG prog [(7, cV (FV N c.2.2.2.2.2.2.2.2.2.2.2.2.2.1 8) fun u0_ => vT #[vI u0_.1, vI u0_.2])]) <| r_R [vP b2 0, vP b2 13] rfl <| rl cv.2.2.2.2.2.2.2.2.2.2.2.2.1 0 ?_
 obtain ⟨r4, hr5, hM⟩ := Ab hM
 refine rg (vT #[vI r4.1, vI r4.2]) (cF ZN) (fun o w z_ => Mo N c.2.2.2.2.2.2.2.2.2.2.2.2.2.1 8 _ hr5 z_.view cv.2.2.2.2.2.2.2.2.2.2.2.2.1 ((Av hc.2.2.2.2.2.2.2.2.2.2.2.2.1) o w z_)) (AF hr5) <| r_R [vI r4.1, vI r4.2, vI r4.1, vI r4.2] rfl <| Aa ?_
 cases hM
 exact aR eV2
def IY (_ : Nat) (x_0 : List UInt8) (_ : Int) (_ : Int) (_ : Int) : Option (List UInt8) := some x_0
theorem Qz (N : Nat) (x_0 : List UInt8) (x_1 x_2 x_3 : Int) (r) (hM : IY N x_0 x_1 x_2 x_3 = some r) : Gives prog 145 #[vA #[vS x_0, vI x_1, vI x_2, vI x_3]] (vS r) := by
 unfold IY at hM
 refine AC follows func145 rfl 5 rfl _ fz1 (fun base0_ => ?_)
 refine Ad <| r_a (126, #[vS x_0, vI x_1, vI x_2, vI x_3]) rfl rfl rfl (fun b2 => ?_) (.inr rfl)
 refine r_V (Value.string (⟨#[]⟩)) rfl <| Aa <| Ad <| r_V (vP b2 0) rfl <| rl (vS x_0) 0 <| r_V (vS x_0) rfl <| Aa ?_
 cases hM
 exact aR eE1
def DN (N : Nat) (l' : List (List UInt8 × Int × Int × Int)) : Nat → List (List UInt8) → Int → Option (List (List UInt8))
  | 0, _, _ => none
  | n9 + 1, s1_, x2_ => if x2_ < (l'.length : Int) then ck (0 ≤ x2_ ∧ x2_ < (l'.length : Int)) ((IY N ((l'[x2_.toNat]!).1) ((l'[x2_.toNat]!).2.1) ((l'[x2_.toNat]!).2.2.1) ((l'[x2_.toNat]!).2.2.2)).bind fun r17 => ck (0 ≤ x2_ ∧ x2_ < (s1_.length : Int)) (ck (-9223372036854775808 ≤ (x2_ + 1) ∧ (x2_ + 1) ≤ 9223372036854775807) ((DN N l' n9) ((s1_).set (x2_.toNat) r17) (x2_ + 1)))) else some s1_
def GY (N : Nat) (l' : List (List UInt8 × Int × Int × Int)) : Option (List (List UInt8)) := ck (0 ≤ (l'.length : Int) ∧ (l'.length : Int) ≤ 8796093022208) (DN N l' N ((List.replicate ((l'.length : Int)).toNat ([]))) 0)
theorem OQ (N : Nat) (l' : List (List UInt8 × Int × Int × Int)) (r) (hM : GY N l' = some r) (ro : Ro) (l'v : Value) (hl' : Rd enc_126 ro l'v l') : Does prog 213 #[l'v, vF 145 #[] #[]] ro [] (p1 (fun s_ => s_) 9 encS r) := by
 unfold GY at hM
 refine Aq follows func213 rfl 26 rfl _ fz2 (fun base0_ => ?_)
 refine Ad <| r_V nS rfl <| Aa <| AL [(some 10, false)] (conG prog [(10, fun _ _ v_ L_ U_ => (p1 (fun v => v) 9 encS (List.replicate ((l'.length : Int)).toNat ([]))) v_ L_ U_)]) <| r_V l'v rfl <| r_W (vI (l'.length : Int)) rfl (Aj rfl rfl rfl (Rd.shp hl')) ?_
 obtain ⟨ck3, hM⟩ := Ae hM
 refine MW (Ls := []) 9 encS ([]) (l'.length : Int) rfl rfl rfl rfl rfl rfl rfl rfl rfl rfl 8796093022208 rfl ck3 (fun _ _ _ _ _ => Iff.rfl) (fun s4 S5 H6 => ?_)
 refine r_V s4 rfl <| Aa <| Ai fun K7 hK7 => Ad <| r_V l'v rfl <| r_W (vI (l'.length : Int)) rfl (Aj rfl rfl rfl (Rd.shp hl')) <| r_V (vI 0) rfl <| Aa <| Ap <| BF _ (Sub.pick [S5] [0] rfl) <| AS (fun tt ll nn => ∃ (n9 : Nat) (s1_ : List (List UInt8)) (x2_ : Int), (DN N l' n9 s1_ x2_ = some r) ∧ ∃ (Ss1_ : List Bl), Sl 9 encS s4 s1_ Ss1_ ∧ Is [(1, vF 145 #[] #[]), (5, s4), (11, l'v), (12, vI (l'.length : Int)), (13, vI x2_)] (List.flatten [Ss1_]) tt ll ∧ nn = n9 + 1) (N + 1) ?_ ?_
 ·exact ⟨N, (List.replicate ((l'.length : Int)).toNat ([])), 0, hM, S5, H6, Ak rfl rfl, rfl⟩
 clear hM; rintro t l _ ⟨n9, s1_, x2_, hM, Ss1_, hs1_, ⟨⟨T, rfl⟩, rfl⟩, rfl⟩
 rcases n9 with _ | n9
 ·exact absurd hM (by simp [DN])
 rw [DN] at hM
 refine Ad <| r_V (vB (decide (x2_ < (l'.length : Int)))) rfl <| Aa <| Ai fun K11 hK11 => Af _ rfl (fun hc12 => ?_) (fun hc12 => ?_)
 ·replace hM := iD hc12 hM
  refine Ah <| hK11 _ _ ?_
  refine Ai fun K13 hK13 => Ap <| Ad <| r_V (vI x2_) rfl ?_
  obtain ⟨ck15, hM⟩ := Ae hM
  refine r_W (elA l'v (x2_.toNat * 4)) rfl (AD (An rfl rfl rfl (Rd.shp hl') ck15)) <| Bw (vA #[vS ((l'[x2_.toNat]!).1), vI ((l'[x2_.toNat]!).2.1), vI ((l'[x2_.toNat]!).2.2.1), vI ((l'[x2_.toNat]!).2.2.2)]) (En := enc_126) (l'[x2_.toNat]!) (x2_.toNat) 0 rfl rfl (Av hl') (AA ck15) rfl <| r_a (126, #[Value.string (⟨#[]⟩), vI 0, vI 0, vI 0]) rfl rfl rfl (fun b16 => ?_) (.inr rfl)
  refine r_V (vI x2_) rfl <| r_s (List.flatten [(Gt b16 ((l'[x2_.toNat]!).1) ((l'[x2_.toNat]!).2.1) ((l'[x2_.toNat]!).2.2.1) ((l'[x2_.toNat]!).2.2.2)), Ss1_]) 0 _ _ _ _ _ (#[vS ((l'[x2_.toNat]!).1), vI ((l'[x2_.toNat]!).2.1), vI ((l'[x2_.toNat]!).2.2.1), vI ((l'[x2_.toNat]!).2.2.2)]) rfl rfl rfl rfl (.of rfl rfl) rfl rfl <| Aa <| Ax <| r_R [s4, vI x2_, vF 145 #[] #[]] rfl <| rl (vA #[vS ((l'[x2_.toNat]!).1), vI ((l'[x2_.toNat]!).2.1), vI ((l'[x2_.toNat]!).2.2.1), vI ((l'[x2_.toNat]!).2.2.2)]) 0 ?_
  obtain ⟨r17, hr18, hM⟩ := Ab hM
  refine rc (vS r17) (AX (caps := []) rfl ZJ rfl) (Qz N ((l'[x2_.toNat]!).1) ((l'[x2_.toNat]!).2.1) ((l'[x2_.toNat]!).2.2.1) ((l'[x2_.toNat]!).2.2.2) _ hr18) ?_
  obtain ⟨ck19, hM⟩ := Ae hM
  refine r_W (elA s4 (x2_.toNat * 1)) rfl (AD (An rfl rfl rfl (Sl.shp hs1_) ck19)) <| MV (Ls := [(Gt b16 ((l'[x2_.toNat]!).1) ((l'[x2_.toNat]!).2.1) ((l'[x2_.toNat]!).2.2.1) ((l'[x2_.toNat]!).2.2.2)), Ss1_]) 1 (En := encS) (s1_[x2_.toNat]!) r17 (x2_.toNat) 0 rfl rfl rfl hs1_ (AA ck19) rfl rfl rfl (Gr rfl) rfl (fun S20 H21 => ?_)
  refine Aa <| hK13 _ _ ?_
  refine Ax ?_
  obtain ⟨ck22, hM⟩ := Ae hM
  refine r_X (vI (x2_ + 1)) rfl (AR rfl ck22.1 ck22.2) rfl <| r_V (vI (x2_ + 1)) rfl <| Aa <| fg _ (Sub.pick [(Gt b16 ((l'[x2_.toNat]!).1) ((l'[x2_.toNat]!).2.1) ((l'[x2_.toNat]!).2.2.1) ((l'[x2_.toNat]!).2.2.2)), S20] [1] rfl) ?_
  exact ⟨n9 + 1, by omega, n9, (s1_).set (x2_.toNat) r17, (x2_ + 1), hM, S20, H21, Ak rfl rfl, rfl⟩
 replace hM := iF hc12 hM
 refine AM <| hK7 _ _ ?_
 refine Ad <| r_R [s4, s4] rfl <| Aa ?_
 cases hM
 refine AW (fun hn => Ex (v0 := s4) hs1_ (Cv (Sub.pick [Ss1_] [0] rfl)) rfl (Cy rfl))
def EE (N : Nat) (x_1 : Int) (inRange1_ : Bool) : Option Int := (CT N x_1).bind fun r4 => (Ag N inRange1_ 7).bind fun r6 => (As N ([r4, r6])).bind fun r11 => some r11
def Eg (N : Nat) (_ : List UInt8) (x_1 : Int) (x_2 : Int) (x_3 : Int) : Option Int := (Az N x_2 0 65535).bind fun r13 => if r13 = true then (Az N x_3 1 1048576).bind fun r16 => EE N x_1 r16 else EE N x_1 false
theorem Qy (N : Nat) (x_0 : List UInt8) (x_1 x_2 x_3 r : Int) (hM : Eg N x_0 x_1 x_2 x_3 = some r) : Gives prog 146 #[vA #[vS x_0, vI x_1, vI x_2, vI x_3]] (vI r) := by
 unfold Eg at hM
 refine AC follows func146 rfl 19 rfl _ fz1 (fun base0_ => ?_)
 refine Ad <| r_a (126, #[vS x_0, vI x_1, vI x_2, vI x_3]) rfl rfl rfl (fun b2 => ?_) (.inr rfl)
 refine r_V (vI 0) rfl <| Aa <| Bm (fun tt ll => ∃ (inRange1_ : Bool), (EE N x_1 inRange1_ = some r) ∧ Is [(1, vP b2 0), (3, vB inRange1_)] (Gt b2 x_0 x_1 x_2 x_3) tt ll) ?_ ?_
 ·refine Ax <| r_V (vP b2 2) rfl <| rl (vI x_2) 0 ?_
  obtain ⟨r13, hr14, hM⟩ := Ab hM
  refine rc (vB r13) (cF BP) (AI N x_2 0 65535 _ hr14) <| r_V (vB r13) rfl ?_
  rcases hg15 : r13 with _ | _
  ·replace hM := iB hg15 hM
   refine r_R [none, none, none, vB false, vB false] rfl <| Aa <| fg _ (Sub.of (suK _ suN)) ?_
   exact ⟨false, hM, Ak (by first | rfl | (simp only [hg15]; done) | (simp only [hg15]; rfl) | (simp only [Bc]; rfl)) rfl⟩
  replace hM := ifp hg15 hM
  refine r_R [vP b2 3] rfl <| r_y rfl <| rl (vI x_3) 0 <| r_y rfl ?_
  obtain ⟨r16, hr17, hM⟩ := Ab hM
  refine rc (vB r16) (cF BP) (AI N x_3 1 1048576 _ hr17) <| r_R [vB r16, vB r16] rfl <| Aa <| fg _ (Sub.of (suK _ suN)) ?_
  exact ⟨r16, hM, Ak (by first | rfl | (simp only [hg15]; done) | (simp only [hg15]; rfl) | (simp only [Bc]; rfl)) rfl⟩
 clear hM; rintro t l ⟨inRange1_, hM, ⟨T, rfl⟩, rfl⟩
 unfold EE at hM
 refine AL [(some 17, false), (some 18, false)] (conG prog [(18, fun _ _ v_ L_ U_ => ∀ u0_, CT N x_1 = some u0_ → ∀ u1_, Ag N inRange1_ 7 = some u1_ → ∀ u2_, As N ([u0_, u1_]) = some u2_ → (pV (vI u2_)) v_ L_ U_)]) <| r_V (vP b2 1) rfl <| rl (vI x_1) 0 ?_
 obtain ⟨r4, hr5, hM⟩ := Ab hM
 refine rc (vI r4) (cF Oh) (KA N x_1 _ hr5) <| r_V (vB inRange1_) rfl ?_
 obtain ⟨r6, hr7, hM⟩ := Ab hM
 refine rc (vI r6) (cF AJ) (AB N inRange1_ 7 _ hr7) <| Dj (cs0 := [(18, fun _ _ v_ L_ U_ => ∀ u0_, CT N x_1 = some u0_ → ∀ u1_, Ag N inRange1_ 7 = some u1_ → ∀ u2_, As N ([u0_, u1_]) = some u2_ → (pV (vI u2_)) v_ L_ U_)]) (Ls := [(Gt b2 x_0 x_1 x_2 x_3)]) 38 BK [r4, r6] [vI r4, vI r6] [vI 0, vI 0] rfl rfl rfl rfl rfl rfl rfl (by kernel_rfl) (by kernel_rfl) rfl rfl rfl (fun s8 S9 H10 => ?_)
 obtain ⟨r11, hr12, hM⟩ := Ab hM
 refine rg (vI r11) (cF Br) (fun o w z_ => Bb N ([r4, r6]) _ hr12 z_.view s8 ((AN H10 (Aw (Ls := [(Gt b2 x_0 x_1 x_2 x_3), S9]) (k := 1) rfl rfl)) o w z_)) (fun _ _ v_ L_ U_ => ⟨fun h_ => h_ _ hr5 _ hr7 _ hr12, fun h_ => by intro _ e_; cases Option.some.inj (e_.symm.trans hr5); intro _ e_; cases Option.some.inj (e_.symm.trans hr7); intro _ e_; cases Option.some.inj (e_.symm.trans hr12); exact h_⟩) ?_
 refine r_V (vI r11) rfl <| Aa ?_
 cases hM
 exact aR eE1
def Eu (N : Nat) (i : Int) (x_0 : List UInt8) (x_1 : Int) (x_2 : Int) (x_3 : Int) (c2_ : List (List UInt8)) : Option Int := ck (0 ≤ i ∧ i < (c2_.length : Int)) ((Bf N (c2_[i.toNat]!)).bind fun r5 => (Ag N r5 4).bind fun r7 => (Ay N c2_ i).bind fun r9 => (Eg N x_0 x_1 x_2 x_3).bind fun r11 => (As N ([r7, r9, r11])).bind fun r16 => some r16)
theorem Mm (N : Nat) (i : Int) (x_0 : List UInt8) (x_1 x_2 x_3 : Int) (c2_ : List (List UInt8)) (r) (hM : Eu N i x_0 x_1 x_2 x_3 c2_ = some r) (ro : Ro) (bc2_ : Nat) (c2_v : Value) (hc2_ : Rd encS ro c2_v c2_) (hbc2_ : Blk ro bc2_ [c2_v]) (bc3_ : Nat) (hbc3_ : Blk ro bc3_ [vF 146 #[] #[]]) : Does prog 215 #[vI i, vA #[vS x_0, vI x_1, vI x_2, vI x_3], vP bc2_ 0, vP bc3_ 0] ro [] (pV (vI r)) := by
 unfold Eu at hM
 refine Aq follows func215 rfl 21 rfl _ fz4 (fun base0_ => ?_)
 refine Ad <| r_a (126, #[vS x_0, vI x_1, vI x_2, vI x_3]) rfl rfl rfl (fun b2 => ?_) (.inr rfl)
 refine r_V (vI 0) rfl <| Aa <| Ai fun K3 hK3 => Ck [(some 15, false), (some 19, false), (some 20, false)] (conG prog [(15, cV (Ay N c2_ i) fun u0_ => vI u0_), (20, fun _ _ v_ L_ U_ => ∀ u0_, Bf N (c2_[i.toNat]!) = some u0_ → ∀ u1_, Ag N u0_ 4 = some u1_ → ∀ u2_, Ay N c2_ i = some u2_ → ∀ u3_, Eg N x_0 x_1 x_2 x_3 = some u3_ → ∀ u4_, As N ([u1_, u2_, u3_]) = some u4_ → (pV (vI u4_)) v_ L_ U_)]) [] (by decide +kernel) (fun hn => Be) <| CR c2_v (vs := [c2_v]) (o := 0) rfl rfl (AK hbc2_) rfl <| r_V (vI i) rfl ?_
 obtain ⟨ck4, hM⟩ := Ae hM
 refine r_W (elA c2_v (i.toNat * 1)) rfl (AD (An rfl rfl rfl (Rd.shp hc2_) ck4)) <| Bw (vS (c2_[i.toNat]!)) (En := encS) (c2_[i.toNat]!) (i.toNat) 0 rfl rfl (Av hc2_) (AA ck4) rfl ?_
 obtain ⟨r5, hr6, hM⟩ := Ab hM
 refine rc (vB r5) (cF HT) (GJ N (c2_[i.toNat]!) _ hr6) ?_
 obtain ⟨r7, hr8, hM⟩ := Ab hM
 refine rc (vI r7) (cF AJ) (AB N r5 4 _ hr8) <| CR c2_v (vs := [c2_v]) (o := 0) rfl rfl (AK hbc2_) rfl <| r_V (vI i) rfl ?_
 obtain ⟨r9, hr10, hM⟩ := Ab hM
 refine rg (vI r9) (cF Hu) (fun o w z_ => Dn N c2_ i _ hr10 z_.view c2_v ((Av hc2_) o w z_)) (AF hr10) <| CR (vF 146 #[] #[]) (vs := [vF 146 #[] #[]]) (o := 0) rfl rfl (AK hbc3_) rfl <| rl (vA #[vS x_0, vI x_1, vI x_2, vI x_3]) 0 ?_
 obtain ⟨r11, hr12, hM⟩ := Ab hM
 refine rc (vI r11) (AX (caps := []) rfl ZH rfl) (Qy N x_0 x_1 x_2 x_3 _ hr12) ?_
 refine Dj (cs0 := [(15, cV (Ay N c2_ i) fun u0_ => vI u0_), (20, fun _ _ v_ L_ U_ => ∀ u0_, Bf N (c2_[i.toNat]!) = some u0_ → ∀ u1_, Ag N u0_ 4 = some u1_ → ∀ u2_, Ay N c2_ i = some u2_ → ∀ u3_, Eg N x_0 x_1 x_2 x_3 = some u3_ → ∀ u4_, As N ([u1_, u2_, u3_]) = some u4_ → (pV (vI u4_)) v_ L_ U_)]) (Ls := [(Gt b2 x_0 x_1 x_2 x_3)]) 38 BK [r7, r9, r11] [vI r7, vI r9, vI r11] [vI 0, vI 0, vI 0] rfl rfl rfl rfl rfl rfl rfl (by kernel_rfl) (by kernel_rfl) rfl rfl rfl (fun s13 S14 H15 => ?_)
 obtain ⟨r16, hr17, hM⟩ := Ab hM
 refine rg (vI r16) (cF Br) (fun o w z_ => Bb N ([r7, r9, r11]) _ hr17 z_.view s13 ((AN H15 (Aw (Ls := [(Gt b2 x_0 x_1 x_2 x_3), S14]) (k := 1) rfl rfl)) o w z_)) (fun _ _ v_ L_ U_ => ⟨fun h_ => h_ _ hr6 _ hr8 _ hr10 _ hr12 _ hr17, fun h_ => by intro _ e_; cases Option.some.inj (e_.symm.trans hr6); intro _ e_; cases Option.some.inj (e_.symm.trans hr8); intro _ e_; cases Option.some.inj (e_.symm.trans hr10); intro _ e_; cases Option.some.inj (e_.symm.trans hr12); intro _ e_; cases Option.some.inj (e_.symm.trans hr17); exact h_⟩) ?_
 refine r_V (vI r16) rfl <| Aa <| hK3 _ _ ?_
 cases hM
 exact aR eV1
def DR (N : Nat) (l' : List (List UInt8 × Int × Int × Int)) (ask0_ : List (List UInt8)) : Nat → Int → Option (Int × Int)
  | 0, _ => none
  | n8 + 1, x1_ => if x1_ < (l'.length : Int) then ck (0 ≤ x1_ ∧ x1_ < (l'.length : Int)) ((Eu N x1_ ((l'[x1_.toNat]!).1) ((l'[x1_.toNat]!).2.1) ((l'[x1_.toNat]!).2.2.1) ((l'[x1_.toNat]!).2.2.2) ask0_).bind fun r17 => if (r17 : Int) ≠ 0 then some (x1_, r17) else ck (-9223372036854775808 ≤ (x1_ + 1) ∧ (x1_ + 1) ≤ 9223372036854775807) ((DR N l' ask0_ n8) (x1_ + 1))) else some (0, 0)
def FJ (N : Nat) (l' : List (List UInt8 × Int × Int × Int)) (most : Int) (ask0_ : List (List UInt8)) : Option (Int × Int) := if (l'.length : Int) > most then some (0, 2) else DR N l' ask0_ N 0
theorem OU (N : Nat) (l' : List (List UInt8 × Int × Int × Int)) (most : Int) (ask0_ : List (List UInt8)) (r) (hM : FJ N l' most ask0_ = some r) (ro : Ro) (l'v : Value) (hl' : Rd enc_126 ro l'v l') (bask0_ : Nat) (ask0_v : Value) (hask0_ : Rd encS ro ask0_v ask0_) (hbask0_ : Blk ro bask0_ [ask0_v]) (bask1_ : Nat) (hbask1_ : Blk ro bask1_ [vF 146 #[] #[]]) : Does prog 214 #[l'v, vI most, vF 215 #[] #[vP bask0_ 0, vP bask1_ 0]] ro [] (pV (vT #[vI r.1, vI r.2])) := by
 unfold FJ at hM
 refine Aq follows func214 rfl 31 rfl _ fz3 (fun base0_ => ?_)
 refine Ad <| r_R [vI 0, vI 0] rfl <| Aa <| Ai fun K2 hK2 => Ad <| r_V l'v rfl <| r_W (vI (l'.length : Int)) rfl (Aj rfl rfl rfl (Rd.shp hl')) <| r_R [vI most, vB (decide ((l'.length : Int) > most))] rfl <| Aa <| Af _ rfl (fun hc4 => ?_) (fun hc4 => ?_)
 ·replace hM := iD hc4 hM
  refine Ad <| r_R [vI 0, vI 2] rfl <| Aa ?_
  cases hM
  exact aR eV2
 replace hM := iF hc4 hM
 refine Ah <| hK2 _ _ ?_
 refine Ai fun K6 hK6 => Ad <| r_V l'v rfl <| r_W (vI (l'.length : Int)) rfl (Aj rfl rfl rfl (Rd.shp hl')) <| r_V (vI 0) rfl <| Aa <| Ap <| AS (fun tt ll nn => ∃ (n8 : Nat) (x1_ : Int), (DR N l' ask0_ n8 x1_ = some r) ∧ Is [(2, vF 215 #[] #[vP bask0_ 0, vP bask1_ 0]), (15, l'v), (16, vI (l'.length : Int)), (17, vI x1_)] [] tt ll ∧ nn = n8 + 1) (N + 1) ?_ ?_
 ·exact ⟨N, 0, hM, Ak rfl rfl, rfl⟩
 clear hM; rintro t l _ ⟨n8, x1_, hM, ⟨⟨T, rfl⟩, rfl⟩, rfl⟩
 rcases n8 with _ | n8
 ·exact absurd hM (by simp [DR])
 rw [DR] at hM
 refine Ad <| r_V (vB (decide (x1_ < (l'.length : Int)))) rfl <| Aa <| Ai fun K10 hK10 => Af _ rfl (fun hc11 => ?_) (fun hc11 => ?_)
 ·replace hM := iD hc11 hM
  refine Ah <| hK10 _ _ ?_
  refine Ai fun K12 hK12 => Ap <| Ad <| r_V (vI x1_) rfl ?_
  obtain ⟨ck14, hM⟩ := Ae hM
  refine r_W (elA l'v (x1_.toNat * 4)) rfl (AD (An rfl rfl rfl (Rd.shp hl') ck14)) <| Bw (vA #[vS ((l'[x1_.toNat]!).1), vI ((l'[x1_.toNat]!).2.1), vI ((l'[x1_.toNat]!).2.2.1), vI ((l'[x1_.toNat]!).2.2.2)]) (En := enc_126) (l'[x1_.toNat]!) (x1_.toNat) 0 rfl rfl (Av hl') (AA ck14) rfl <| r_a (126, #[Value.string (⟨#[]⟩), vI 0, vI 0, vI 0]) rfl rfl rfl (fun b15 => ?_) (.inr rfl)
  refine r_V (vI x1_) rfl <| r_s (Gt b15 ((l'[x1_.toNat]!).1) ((l'[x1_.toNat]!).2.1) ((l'[x1_.toNat]!).2.2.1) ((l'[x1_.toNat]!).2.2.2)) 0 _ _ _ _ _ (#[vS ((l'[x1_.toNat]!).1), vI ((l'[x1_.toNat]!).2.1), vI ((l'[x1_.toNat]!).2.2.1), vI ((l'[x1_.toNat]!).2.2.2)]) rfl rfl rfl rfl (.of rfl rfl) rfl rfl <| Aa <| AL [(some 25, false)] (conG prog [(25, cV (Eu N x1_ ((l'[x1_.toNat]!).1) ((l'[x1_.toNat]!).2.1) ((l'[x1_.toNat]!).2.2.1) ((l'[x1_.toNat]!).2.2.2) ask0_) fun u0_ => vI u0_)]) ?_
  refine r_R [vF 215 #[] #[vP bask0_ 0, vP bask1_ 0], vI x1_] rfl <| rl (vA #[vS ((l'[x1_.toNat]!).1), vI ((l'[x1_.toNat]!).2.1), vI ((l'[x1_.toNat]!).2.2.1), vI ((l'[x1_.toNat]!).2.2.2)]) 0 ?_
  obtain ⟨r17, hr18, hM⟩ := Ab hM
  refine rg (vI r17) (AX (caps := [vP bask0_ 0, vP bask1_ 0]) rfl YO rfl) (fun o w z_ => Mm N x1_ ((l'[x1_.toNat]!).1) ((l'[x1_.toNat]!).2.1) ((l'[x1_.toNat]!).2.2.1) ((l'[x1_.toNat]!).2.2.2) ask0_ _ hr18 z_.view bask0_ ask0_v ((Av hask0_) o w z_) (AK hbask0_ o w z_) bask1_ (AK hbask1_ o w z_)) (AF hr18) <| r_V (vI r17) rfl <| Aa <| Ad <| r_R [vI r17, vB (r17 != 0)] rfl <| Aa <| Af _ rfl (fun hc20 => ?_) (fun hc20 => ?_)
  ·replace hM := iN hc20 hM
   refine Ad <| r_R [vI x1_, vI r17, vI x1_, vI r17] rfl <| Aa ?_
   cases hM
   exact aR eV2
  replace hM := iM hc20 hM
  refine Ah <| hK12 _ _ ?_
  refine Ax ?_
  obtain ⟨ck22, hM⟩ := Ae hM
  refine r_X (vI (x1_ + 1)) rfl (AR rfl ck22.1 ck22.2) rfl <| r_V (vI (x1_ + 1)) rfl <| Aa <| fg _ (Sub.of (suC _ suN)) ?_
  exact ⟨n8 + 1, by omega, n8, (x1_ + 1), hM, Ak rfl rfl, rfl⟩
 replace hM := iF hc11 hM
 refine AM <| hK6 _ _ ?_
 refine Ad <| r_R [vI 0, vI 0] rfl <| Aa ?_
 cases hM
 exact aR eV2
def GU (N : Nat) (l' : List (List UInt8 × Int × Int × Int)) (most : Int) : Option (Int × Int) := (GY N l').bind fun r4 => (FJ N l' most r4).bind fun r11 => some (r11.1, r11.2)
theorem OM (N : Nat) (l' : List (List UInt8 × Int × Int × Int)) (most : Int) (r) (hM : GU N l' most = some r) (ro : Ro) (l'v : Value) (hl' : Rd enc_126 ro l'v l') : Does prog 144 #[l'v, vI most, vF 145 #[] #[], vF 146 #[] #[]] ro [] (pV (vT #[vI r.1, vI r.2])) := by
 unfold GU at hM
 refine Aq follows func144 rfl 20 rfl _ fz4 (fun base0_ => ?_)
 refine Ad <| r_a (217, #[vF 146 #[] #[]]) rfl rfl rfl (fun b2 => ?_) (.inr rfl)
 refine r_R [vI 0, vI 0] rfl <| Aa <| AL [(some 13, false)] (conG prog [(13, fun _ _ v_ L_ U_ => ∀ u0_, GY N l' = some u0_ → (p1 (fun s_ => s_) 9 encS u0_) v_ L_ U_)]) <| r_R [l'v, vF 145 #[] #[]] rfl ?_
 obtain ⟨r4, hr5, hM⟩ := Ab hM
 refine Iy (Ls := [(Nj b2 (vF 146 #[] #[]))]) (fun s6 => s6) 9 encS r4 213 _ rfl rfl rfl (cF YQ) (fun o w z_ => OQ N l' _ hr5 z_.view l'v ((Av hl') o w z_)) (AF hr5) (fun s6 S7 H8 => ?_)
 refine r_a (81, #[nS]) rfl rfl rfl (fun b9 => ?_) (.inr rfl)
 refine r_s (List.flatten [(MC b9 s6), (Nj b2 (vF 146 #[] #[])), S7]) 0 _ _ _ _ _ (#[s6]) rfl rfl rfl (Du rfl (Sl.shp H8)) (.ofS rfl rfl (Ao (Shp.one (Sl.shp H8)) Bi)) rfl rfl <| Aa <| AL [(some 17, false)] (conG prog [(17, cV (FJ N l' most r4) fun u0_ => vT #[vI u0_.1, vI u0_.2])]) <| r_R [l'v, vI most] rfl <| r_W (vF 215 #[] #[vP b9 0, vP b2 0]) rfl (DV rfl) ?_
 obtain ⟨r11, hr12, hM⟩ := Ab hM
 refine rg (vT #[vI r11.1, vI r11.2]) (cF YP) (fun o w z_ => OU N l' most r4 _ hr12 z_.view l'v ((Av hl') o w z_) b9 s6 ((AN H8 (Aw (Ls := [(MC b9 s6), (Nj b2 (vF 146 #[] #[])), S7]) (k := 2) rfl rfl)) o w z_) (Bq 0 rfl rfl o w z_) b2 (Bq 1 rfl rfl o w z_)) (AF hr12) <| r_R [vI r11.1, vI r11.2, vI r11.1, vI r11.2] rfl <| Aa ?_
 cases hM
 exact aR eV2
def Dz (N : Nat) (c : Al) : Option (Int × Int) := (GU N c.2.2.2.2.2.2.2.2.2.2.2.2.2.2.1 8).bind fun r4 => some (r4.1, r4.2)
theorem OZ (N : Nat) (c : Al) (r) (hM : Dz N c = some r) (ro : Ro) (cv : AP) (hc : Bun35R ro cv c) : Does prog 77 #[vA (Ac c cv)] ro [] (pV (vT #[vI r.1, vI r.2])) := by
 unfold Dz at hM
 refine Aq follows func77 rfl 10 rfl _ fz1 (fun base0_ => ?_)
 refine Ad <| r_a (92, (Ac c cv)) rfl rfl rfl (fun b2 => ?_) (.inr rfl)
 refine r_R [vI 0, vI 0] rfl <| Aa <| AL [(some 7, false)] (conG prog [(7, cV (GU N c.2.2.2.2.2.2.2.2.2.2.2.2.2.2.1 8) fun u0_ => vT #[vI u0_.1, vI u0_.2])]) <| r_R [vP b2 0, vP b2 14] rfl <| rl cv.2.2.2.2.2.2.2.2.2.2.2.2.2 0 ?_
 obtain ⟨r4, hr5, hM⟩ := Ab hM
 refine rg (vT #[vI r4.1, vI r4.2]) (cF ZK) (fun o w z_ => OM N c.2.2.2.2.2.2.2.2.2.2.2.2.2.2.1 8 _ hr5 z_.view cv.2.2.2.2.2.2.2.2.2.2.2.2.2 ((Av hc.2.2.2.2.2.2.2.2.2.2.2.2.2) o w z_)) (AF hr5) <| r_R [vI r4.1, vI r4.2, vI r4.1, vI r4.2] rfl <| Aa ?_
 cases hM
 exact aR eV2
inductive Sum42 where
  | nil
  | t85 (x0 : Int) (x1 : Int) (x2 : Int)
  deriving Inhabited
def Sum42.on {β : Type} (x : Sum42) (a : β) (f85 : Int → Int → Int → β) : β := match x with | .nil => a | .t85 x0 x1 x2 => f85 x0 x1 x2
theorem Sum42.on_nil  {β : Type} {x : Sum42} {a r : β} {f85 : Int → Int → Int → β} (h : x = .nil) (e : Sum42.on x a f85 = r) : a = r := by subst h; exact e
theorem Sum42.at_t85  {β : Type} {a : β} {f85 : Int → Int → Int → β} {x0 : Int} {x1 : Int} {x2 : Int} : Sum42.on (.t85 x0 x1 x2) a f85 = f85 x0 x1 x2 := rfl
theorem Sum42.on_t85  {β : Type} {x : Sum42} {a r : β} {f85 : Int → Int → Int → β} {x0 : Int} {x1 : Int} {x2 : Int} (h : x = .t85 x0 x1 x2) (e : Sum42.on x a f85 = r) : f85 x0 x1 x2 = r := by subst h; exact e
def Sum42.onP (x : Sum42) (a : PO) (f85 : Int → Int → Int → PO) : PO := match x with | .nil => a | .t85 x0 x1 x2 => f85 x0 x1 x2
theorem Sum42.onP_nil  {x : Sum42} {a : PO} {f85 : Int → Int → Int → PO} {v : Value} {O : List (List Bl)} (h : x = .nil) (e : Sum42.onP x a f85 v O) : a v O := by subst h; exact e
theorem Sum42.onP_t85  {x : Sum42} {a : PO} {f85 : Int → Int → Int → PO} {x0 : Int} {x1 : Int} {x2 : Int} {v : Value} {O : List (List Bl)} (h : x = .t85 x0 x1 x2) (e : Sum42.onP x a f85 v O) : f85 x0 x1 x2 v O := by subst h; exact e
theorem Sum42.cases (x : Sum42) : x = .nil ∨ (∃ x0 x1 x2, x = .t85 x0 x1 x2) := by cases x <;> simp
def Am (N : Nat) (m : Al) : Nat → Int → Option Sum42
  | 0, _ => none
  | n10 + 1, x1_ => if x1_ < 15 then ck (0 ≤ x1_ ∧ x1_ < (15 : Int)) (if x1_ = 0 then (Dt N m).bind fun r19 => if (r19.2 : Int) ≠ 0 then some (.t85 x1_ r19.1 r19.2) else ck (-9223372036854775808 ≤ (x1_ + 1) ∧ (x1_ + 1) ≤ 9223372036854775807) ((Am N m n10) (x1_ + 1)) else if x1_ = 1 then (Cr N m).bind fun r28 => if (r28.2 : Int) ≠ 0 then some (.t85 x1_ r28.1 r28.2) else ck (-9223372036854775808 ≤ (x1_ + 1) ∧ (x1_ + 1) ≤ 9223372036854775807) ((Am N m n10) (x1_ + 1)) else if x1_ = 2 then (Ds N m).bind fun r37 => if (r37.2 : Int) ≠ 0 then some (.t85 x1_ r37.1 r37.2) else ck (-9223372036854775808 ≤ (x1_ + 1) ∧ (x1_ + 1) ≤ 9223372036854775807) ((Am N m n10) (x1_ + 1)) else if x1_ = 3 then (Eh N m).bind fun r46 => if (r46.2 : Int) ≠ 0 then some (.t85 x1_ r46.1 r46.2) else ck (-9223372036854775808 ≤ (x1_ + 1) ∧ (x1_ + 1) ≤ 9223372036854775807) ((Am N m n10) (x1_ + 1)) else if x1_ = 4 then (CK N m).bind fun r55 => if (r55.2 : Int) ≠ 0 then some (.t85 x1_ r55.1 r55.2) else ck (-9223372036854775808 ≤ (x1_ + 1) ∧ (x1_ + 1) ≤ 9223372036854775807) ((Am N m n10) (x1_ + 1)) else if x1_ = 5 then (CW N m).bind fun r64 => if (r64.2 : Int) ≠ 0 then some (.t85 x1_ r64.1 r64.2) else ck (-9223372036854775808 ≤ (x1_ + 1) ∧ (x1_ + 1) ≤ 9223372036854775807) ((Am N m n10) (x1_ + 1)) else if x1_ = 6 then (Dy N m).bind fun r73 => if (r73.2 : Int) ≠ 0 then some (.t85 x1_ r73.1 r73.2) else ck (-9223372036854775808 ≤ (x1_ + 1) ∧ (x1_ + 1) ≤ 9223372036854775807) ((Am N m n10) (x1_ + 1)) else if x1_ = 7 then (DU N m).bind fun r82 => if (r82.2 : Int) ≠ 0 then some (.t85 x1_ r82.1 r82.2) else ck (-9223372036854775808 ≤ (x1_ + 1) ∧ (x1_ + 1) ≤ 9223372036854775807) ((Am N m n10) (x1_ + 1)) else if x1_ = 8 then (EF N m).bind fun r91 => if (r91.2 : Int) ≠ 0 then some (.t85 x1_ r91.1 r91.2) else ck (-9223372036854775808 ≤ (x1_ + 1) ∧ (x1_ + 1) ≤ 9223372036854775807) ((Am N m n10) (x1_ + 1)) else if x1_ = 9 then (Cs N m).bind fun r100 => if (r100.2 : Int) ≠ 0 then some (.t85 x1_ r100.1 r100.2) else ck (-9223372036854775808 ≤ (x1_ + 1) ∧ (x1_ + 1) ≤ 9223372036854775807) ((Am N m n10) (x1_ + 1)) else if x1_ = 10 then (EG N m).bind fun r109 => if (r109.2 : Int) ≠ 0 then some (.t85 x1_ r109.1 r109.2) else ck (-9223372036854775808 ≤ (x1_ + 1) ∧ (x1_ + 1) ≤ 9223372036854775807) ((Am N m n10) (x1_ + 1)) else if x1_ = 11 then (DT N m).bind fun r118 => if (r118.2 : Int) ≠ 0 then some (.t85 x1_ r118.1 r118.2) else ck (-9223372036854775808 ≤ (x1_ + 1) ∧ (x1_ + 1) ≤ 9223372036854775807) ((Am N m n10) (x1_ + 1)) else if x1_ = 12 then (Fa N m).bind fun r127 => if (r127.2 : Int) ≠ 0 then some (.t85 x1_ r127.1 r127.2) else ck (-9223372036854775808 ≤ (x1_ + 1) ∧ (x1_ + 1) ≤ 9223372036854775807) ((Am N m n10) (x1_ + 1)) else if x1_ = 13 then (Cz N m).bind fun r136 => if (r136.2 : Int) ≠ 0 then some (.t85 x1_ r136.1 r136.2) else ck (-9223372036854775808 ≤ (x1_ + 1) ∧ (x1_ + 1) ≤ 9223372036854775807) ((Am N m n10) (x1_ + 1)) else (Dz N m).bind fun r145 => if (r145.2 : Int) ≠ 0 then some (.t85 x1_ r145.1 r145.2) else ck (-9223372036854775808 ≤ (x1_ + 1) ∧ (x1_ + 1) ≤ 9223372036854775807) ((Am N m n10) (x1_ + 1))) else some (.nil)
def CF (N : Nat) (m : Al) : Option Sum42 := (Hz N m).bind fun r5 => Am N m N 0
theorem Lc (N : Nat) (m : Al) (r) (hM : CF N m = some r) (ro : Ro) (mv : AP) (hm : Bun35R ro mv m) : DoesI prog 9 #[vA (Ac m mv)] DZ ro [] (pO [] (Sum42.onP r (oE Value.nilIface []) (fun y0_0 y0_1 y0_2 => (oB 89 #[vI y0_0, vI y0_1, vI y0_2] fun bs_0 => (oE (Value.iface 85 (vP bs_0 0)) []))))) := by
 unfold CF at hM
 refine Cg follows func9 rfl 30 rfl _ fz1 AT (fun base0_ => ?_)
 refine Ad <| r_a (35, (Ac m mv)) rfl rfl rfl (fun b2 => ?_) (.inr rfl)
 refine r_V Value.nilIface rfl <| Aa <| Ai fun K3 hK3 => AL [(some 9, false)] (conG prog [(9, fun _ _ v_ L_ U_ => (p1 (fun s_ => s_) 94 GA (Ha (vA (Ac m mv)))) v_ L_ U_)]) <| rl (vA (Ac m mv)) 0 <| r_W (vA (Ac m mv)) rfl (NS rfl rfl rfl (IS (c := (Ac m mv)) rfl Qb) (by kernel_rfl)) ?_
 obtain ⟨r5, hr6, hM⟩ := Ab hM
 refine Iy (Ls := [[(b2, 35, (Ac m mv))]]) (fun s7 => s7) 94 GA (Ha (vA (Ac m mv))) 18 _ rfl rfl rfl (cF ct) (fun o w z_ => Qx N m _ hr6 z_.view mv (Bun35R.mono z_.ro_cell hm)) (fun _ _ _ _ _ => Iff.rfl) (fun s7 S8 H9 => ?_)
 refine r_W (vI 15) rfl (Aj (n := 15) rfl rfl rfl (Sl.shp H9)) <| r_V (vI 0) rfl <| Aa <| Ap <| BF _ (Sub.pick [[(b2, 35, (Ac m mv))], S8] [1] rfl) <| AS (fun tt ll nn => ∃ (n10 : Nat) (x1_ : Int), (Am N m n10 x1_ = some r) ∧ Is [(9, s7), (10, vI 15), (11, vI x1_)] (List.flatten [S8]) tt ll ∧ nn = n10 + 1) (N + 1) ?_ ?_
 ·exact ⟨N, 0, hM, Ak rfl rfl, rfl⟩
 clear hM; rintro t l _ ⟨n10, x1_, hM, ⟨⟨T, rfl⟩, rfl⟩, rfl⟩
 rcases n10 with _ | n10
 ·exact absurd hM (by simp [Am])
 rw [Am] at hM
 refine Ad <| r_V (vB (decide (x1_ < 15))) rfl <| Aa <| Ai fun K12 hK12 => Af _ rfl (fun hc13 => ?_) (fun hc13 => ?_)
 ·replace hM := iD hc13 hM
  refine Ah <| hK12 _ _ ?_
  refine Ai fun K14 hK14 => Ap <| Ai fun K15 hK15 => Ax <| r_V (vI x1_) rfl ?_
  obtain ⟨ck16, hM⟩ := Ae hM
  rcases Decidable.em (x1_ = 0) with hk17 | hk17
  ·replace hM := ifp hk17 hM
   refine r_W (elA s7 (x1_.toNat * 1)) rfl (AD (An rfl rfl rfl (Sl.shp H9) (HL (n := 15) rfl ck16))) <| Bw (vF 63 #[vA (Ac m mv)] #[]) (En := GA) (⟨vF 63 #[vA (Ac m mv)] #[], rfl⟩) (x1_.toNat) 0 rfl rfl (AN H9 (Aw (Ls := [S8]) (k := 0) rfl rfl)) (HN (i := 0) hk17 rfl) rfl <| r_R [vI x1_, vF 63 #[vA (Ac m mv)] #[]] rfl <| Aa <| hK15 _ _ ?_
   refine AL [(some 18, false)] (conG prog [(18, cV (Dt N m) fun u0_ => vT #[vI u0_.1, vI u0_.2])]) <| r_V (vF 63 #[vA (Ac m mv)] #[]) rfl ?_
   obtain ⟨r19, hr20, hM⟩ := Ab hM
   refine rg (vT #[vI r19.1, vI r19.2]) (Ca (bd := [vA (Ac m mv)]) (caps := []) rfl cq rfl) (fun o w z_ => (Does.inv (QD N m _ hr20 z_.view mv (Bun35R.mono z_.ro_cell hm)) _)) (AF hr20) <| r_R [vT #[vI r19.1, vI r19.2], vI r19.1, vI r19.2, vI r19.1, vI r19.2] rfl <| Aa <| Ad <| r_R [vI r19.2, vB (r19.2 != 0)] rfl <| Aa <| Af _ rfl (fun hc22 => ?_) (fun hc22 => ?_)
   ·replace hM := iN hc22 hM
    refine Ad <| r_R [vI x1_, vI r19.1, vI r19.2] rfl <| r_W (vA #[vI x1_, vI r19.1, vI r19.2]) rfl (AE rfl rfl rfl rfl) <| r_a (89, #[vI x1_, vI r19.1, vI r19.2]) rfl rfl rfl (fun b24 => ?_) (.inr rfl)
    refine r_R [Value.iface 85 (vP b24 0), Value.iface 85 (vP b24 0)] rfl <| Aa ?_
    cases hM
    refine AW (fun hn => DW (v0 := Value.iface 85 (vP b24 0)) (O := [(Bs b24 x1_ r19.1 r19.2)]) (Cy rfl) (Sub.pick [(Bs b24 x1_ r19.1 r19.2), S8] [0] rfl) ⟨b24, _, ⟨rfl, rfl⟩, rfl⟩)
   replace hM := iM hc22 hM
   refine Ah <| hK14 _ _ ?_
   refine Ax ?_
   obtain ⟨ck25, hM⟩ := Ae hM
   refine r_X (vI (x1_ + 1)) rfl (AR rfl ck25.1 ck25.2) rfl <| r_V (vI (x1_ + 1)) rfl <| Aa <| fg _ (Sub.pick [S8] [0] rfl) ?_
   exact ⟨n10 + 1, by omega, n10, (x1_ + 1), hM, Ak rfl rfl, rfl⟩
  replace hM := ifn hk17 hM
  rcases Decidable.em (x1_ = 1) with hk26 | hk26
  ·replace hM := ifp hk26 hM
   refine r_W (elA s7 (x1_.toNat * 1)) rfl (AD (An rfl rfl rfl (Sl.shp H9) (HL (n := 15) rfl ck16))) <| Bw (vF 64 #[vA (Ac m mv)] #[]) (En := GA) (⟨vF 64 #[vA (Ac m mv)] #[], rfl⟩) (x1_.toNat) 0 rfl rfl (AN H9 (Aw (Ls := [S8]) (k := 0) rfl rfl)) (HN (i := 1) hk26 rfl) rfl <| r_R [vI x1_, vF 64 #[vA (Ac m mv)] #[]] rfl <| Aa <| hK15 _ _ ?_
   refine AL [(some 18, false)] (conG prog [(18, cV (Cr N m) fun u0_ => vT #[vI u0_.1, vI u0_.2])]) <| r_V (vF 64 #[vA (Ac m mv)] #[]) rfl ?_
   obtain ⟨r28, hr29, hM⟩ := Ab hM
   refine rg (vT #[vI r28.1, vI r28.2]) (Ca (bd := [vA (Ac m mv)]) (caps := []) rfl cp rfl) (fun o w z_ => (Does.inv (NJ N m _ hr29 z_.view mv (Bun35R.mono z_.ro_cell hm)) _)) (AF hr29) <| r_R [vT #[vI r28.1, vI r28.2], vI r28.1, vI r28.2, vI r28.1, vI r28.2] rfl <| Aa <| Ad <| r_R [vI r28.2, vB (r28.2 != 0)] rfl <| Aa <| Af _ rfl (fun hc31 => ?_) (fun hc31 => ?_)
   ·replace hM := iN hc31 hM
    refine Ad <| r_R [vI x1_, vI r28.1, vI r28.2] rfl <| r_W (vA #[vI x1_, vI r28.1, vI r28.2]) rfl (AE rfl rfl rfl rfl) <| r_a (89, #[vI x1_, vI r28.1, vI r28.2]) rfl rfl rfl (fun b33 => ?_) (.inr rfl)
    refine r_R [Value.iface 85 (vP b33 0), Value.iface 85 (vP b33 0)] rfl <| Aa ?_
    cases hM
    refine AW (fun hn => DW (v0 := Value.iface 85 (vP b33 0)) (O := [(Bs b33 x1_ r28.1 r28.2)]) (Cy rfl) (Sub.pick [(Bs b33 x1_ r28.1 r28.2), S8] [0] rfl) ⟨b33, _, ⟨rfl, rfl⟩, rfl⟩)
   replace hM := iM hc31 hM
   refine Ah <| hK14 _ _ ?_
   refine Ax ?_
   obtain ⟨ck34, hM⟩ := Ae hM
   refine r_X (vI (x1_ + 1)) rfl (AR rfl ck34.1 ck34.2) rfl <| r_V (vI (x1_ + 1)) rfl <| Aa <| fg _ (Sub.pick [S8] [0] rfl) ?_
   exact ⟨n10 + 1, by omega, n10, (x1_ + 1), hM, Ak rfl rfl, rfl⟩
  replace hM := ifn hk26 hM
  rcases Decidable.em (x1_ = 2) with hk35 | hk35
  ·replace hM := ifp hk35 hM
   refine r_W (elA s7 (x1_.toNat * 1)) rfl (AD (An rfl rfl rfl (Sl.shp H9) (HL (n := 15) rfl ck16))) <| Bw (vF 65 #[vA (Ac m mv)] #[]) (En := GA) (⟨vF 65 #[vA (Ac m mv)] #[], rfl⟩) (x1_.toNat) 0 rfl rfl (AN H9 (Aw (Ls := [S8]) (k := 0) rfl rfl)) (HN (i := 2) hk35 rfl) rfl <| r_R [vI x1_, vF 65 #[vA (Ac m mv)] #[]] rfl <| Aa <| hK15 _ _ ?_
   refine AL [(some 18, false)] (conG prog [(18, cV (Ds N m) fun u0_ => vT #[vI u0_.1, vI u0_.2])]) <| r_V (vF 65 #[vA (Ac m mv)] #[]) rfl ?_
   obtain ⟨r37, hr38, hM⟩ := Ab hM
   refine rg (vT #[vI r37.1, vI r37.2]) (Ca (bd := [vA (Ac m mv)]) (caps := []) rfl cn rfl) (fun o w z_ => (Does.inv (QC N m _ hr38 z_.view mv (Bun35R.mono z_.ro_cell hm)) _)) (AF hr38) <| r_R [vT #[vI r37.1, vI r37.2], vI r37.1, vI r37.2, vI r37.1, vI r37.2] rfl <| Aa <| Ad <| r_R [vI r37.2, vB (r37.2 != 0)] rfl <| Aa <| Af _ rfl (fun hc40 => ?_) (fun hc40 => ?_)
   ·replace hM := iN hc40 hM
    refine Ad <| r_R [vI x1_, vI r37.1, vI r37.2] rfl <| r_W (vA #[vI x1_, vI r37.1, vI r37.2]) rfl (AE rfl rfl rfl rfl) <| r_a (89, #[vI x1_, vI r37.1, vI r37.2]) rfl rfl rfl (fun b42 => ?_) (.inr rfl)
    refine r_R [Value.iface 85 (vP b42 0), Value.iface 85 (vP b42 0)] rfl <| Aa ?_
    cases hM
    refine AW (fun hn => DW (v0 := Value.iface 85 (vP b42 0)) (O := [(Bs b42 x1_ r37.1 r37.2)]) (Cy rfl) (Sub.pick [(Bs b42 x1_ r37.1 r37.2), S8] [0] rfl) ⟨b42, _, ⟨rfl, rfl⟩, rfl⟩)
   replace hM := iM hc40 hM
   refine Ah <| hK14 _ _ ?_
   refine Ax ?_
   obtain ⟨ck43, hM⟩ := Ae hM
   refine r_X (vI (x1_ + 1)) rfl (AR rfl ck43.1 ck43.2) rfl <| r_V (vI (x1_ + 1)) rfl <| Aa <| fg _ (Sub.pick [S8] [0] rfl) ?_
   exact ⟨n10 + 1, by omega, n10, (x1_ + 1), hM, Ak rfl rfl, rfl⟩
  replace hM := ifn hk35 hM
  rcases Decidable.em (x1_ = 3) with hk44 | hk44
  ·replace hM := ifp hk44 hM
   refine r_W (elA s7 (x1_.toNat * 1)) rfl (AD (An rfl rfl rfl (Sl.shp H9) (HL (n := 15) rfl ck16))) <| Bw (vF 66 #[vA (Ac m mv)] #[]) (En := GA) (⟨vF 66 #[vA (Ac m mv)] #[], rfl⟩) (x1_.toNat) 0 rfl rfl (AN H9 (Aw (Ls := [S8]) (k := 0) rfl rfl)) (HN (i := 3) hk44 rfl) rfl <| r_R [vI x1_, vF 66 #[vA (Ac m mv)] #[]] rfl <| Aa <| hK15 _ _ ?_
   refine AL [(some 18, false)] (conG prog [(18, cV (Eh N m) fun u0_ => vT #[vI u0_.1, vI u0_.2])]) <| r_V (vF 66 #[vA (Ac m mv)] #[]) rfl ?_
   obtain ⟨r46, hr47, hM⟩ := Ab hM
   refine rg (vT #[vI r46.1, vI r46.2]) (Ca (bd := [vA (Ac m mv)]) (caps := []) rfl cm rfl) (fun o w z_ => (Does.inv (QA N m _ hr47 z_.view mv (Bun35R.mono z_.ro_cell hm)) _)) (AF hr47) <| r_R [vT #[vI r46.1, vI r46.2], vI r46.1, vI r46.2, vI r46.1, vI r46.2] rfl <| Aa <| Ad <| r_R [vI r46.2, vB (r46.2 != 0)] rfl <| Aa <| Af _ rfl (fun hc49 => ?_) (fun hc49 => ?_)
   ·replace hM := iN hc49 hM
    refine Ad <| r_R [vI x1_, vI r46.1, vI r46.2] rfl <| r_W (vA #[vI x1_, vI r46.1, vI r46.2]) rfl (AE rfl rfl rfl rfl) <| r_a (89, #[vI x1_, vI r46.1, vI r46.2]) rfl rfl rfl (fun b51 => ?_) (.inr rfl)
    refine r_R [Value.iface 85 (vP b51 0), Value.iface 85 (vP b51 0)] rfl <| Aa ?_
    cases hM
    refine AW (fun hn => DW (v0 := Value.iface 85 (vP b51 0)) (O := [(Bs b51 x1_ r46.1 r46.2)]) (Cy rfl) (Sub.pick [(Bs b51 x1_ r46.1 r46.2), S8] [0] rfl) ⟨b51, _, ⟨rfl, rfl⟩, rfl⟩)
   replace hM := iM hc49 hM
   refine Ah <| hK14 _ _ ?_
   refine Ax ?_
   obtain ⟨ck52, hM⟩ := Ae hM
   refine r_X (vI (x1_ + 1)) rfl (AR rfl ck52.1 ck52.2) rfl <| r_V (vI (x1_ + 1)) rfl <| Aa <| fg _ (Sub.pick [S8] [0] rfl) ?_
   exact ⟨n10 + 1, by omega, n10, (x1_ + 1), hM, Ak rfl rfl, rfl⟩
  replace hM := ifn hk44 hM
  rcases Decidable.em (x1_ = 4) with hk53 | hk53
  ·replace hM := ifp hk53 hM
   refine r_W (elA s7 (x1_.toNat * 1)) rfl (AD (An rfl rfl rfl (Sl.shp H9) (HL (n := 15) rfl ck16))) <| Bw (vF 67 #[vA (Ac m mv)] #[]) (En := GA) (⟨vF 67 #[vA (Ac m mv)] #[], rfl⟩) (x1_.toNat) 0 rfl rfl (AN H9 (Aw (Ls := [S8]) (k := 0) rfl rfl)) (HN (i := 4) hk53 rfl) rfl <| r_R [vI x1_, vF 67 #[vA (Ac m mv)] #[]] rfl <| Aa <| hK15 _ _ ?_
   refine AL [(some 18, false)] (conG prog [(18, cV (CK N m) fun u0_ => vT #[vI u0_.1, vI u0_.2])]) <| r_V (vF 67 #[vA (Ac m mv)] #[]) rfl ?_
   obtain ⟨r55, hr56, hM⟩ := Ab hM
   refine rg (vT #[vI r55.1, vI r55.2]) (Ca (bd := [vA (Ac m mv)]) (caps := []) rfl cj rfl) (fun o w z_ => OY N m _ hr56 z_.view mv (Bun35R.mono z_.ro_cell hm)) (AF hr56) <| r_R [vT #[vI r55.1, vI r55.2], vI r55.1, vI r55.2, vI r55.1, vI r55.2] rfl <| Aa <| Ad <| r_R [vI r55.2, vB (r55.2 != 0)] rfl <| Aa <| Af _ rfl (fun hc58 => ?_) (fun hc58 => ?_)
   ·replace hM := iN hc58 hM
    refine Ad <| r_R [vI x1_, vI r55.1, vI r55.2] rfl <| r_W (vA #[vI x1_, vI r55.1, vI r55.2]) rfl (AE rfl rfl rfl rfl) <| r_a (89, #[vI x1_, vI r55.1, vI r55.2]) rfl rfl rfl (fun b60 => ?_) (.inr rfl)
    refine r_R [Value.iface 85 (vP b60 0), Value.iface 85 (vP b60 0)] rfl <| Aa ?_
    cases hM
    refine AW (fun hn => DW (v0 := Value.iface 85 (vP b60 0)) (O := [(Bs b60 x1_ r55.1 r55.2)]) (Cy rfl) (Sub.pick [(Bs b60 x1_ r55.1 r55.2), S8] [0] rfl) ⟨b60, _, ⟨rfl, rfl⟩, rfl⟩)
   replace hM := iM hc58 hM
   refine Ah <| hK14 _ _ ?_
   refine Ax ?_
   obtain ⟨ck61, hM⟩ := Ae hM
   refine r_X (vI (x1_ + 1)) rfl (AR rfl ck61.1 ck61.2) rfl <| r_V (vI (x1_ + 1)) rfl <| Aa <| fg _ (Sub.pick [S8] [0] rfl) ?_
   exact ⟨n10 + 1, by omega, n10, (x1_ + 1), hM, Ak rfl rfl, rfl⟩
  replace hM := ifn hk53 hM
  rcases Decidable.em (x1_ = 5) with hk62 | hk62
  ·replace hM := ifp hk62 hM
   refine r_W (elA s7 (x1_.toNat * 1)) rfl (AD (An rfl rfl rfl (Sl.shp H9) (HL (n := 15) rfl ck16))) <| Bw (vF 68 #[vA (Ac m mv)] #[]) (En := GA) (⟨vF 68 #[vA (Ac m mv)] #[], rfl⟩) (x1_.toNat) 0 rfl rfl (AN H9 (Aw (Ls := [S8]) (k := 0) rfl rfl)) (HN (i := 5) hk62 rfl) rfl <| r_R [vI x1_, vF 68 #[vA (Ac m mv)] #[]] rfl <| Aa <| hK15 _ _ ?_
   refine AL [(some 18, false)] (conG prog [(18, cV (CW N m) fun u0_ => vT #[vI u0_.1, vI u0_.2])]) <| r_V (vF 68 #[vA (Ac m mv)] #[]) rfl ?_
   obtain ⟨r64, hr65, hM⟩ := Ab hM
   refine rg (vT #[vI r64.1, vI r64.2]) (Ca (bd := [vA (Ac m mv)]) (caps := []) rfl ci rfl) (fun o w z_ => NN N m _ hr65 z_.view mv (Bun35R.mono z_.ro_cell hm)) (AF hr65) <| r_R [vT #[vI r64.1, vI r64.2], vI r64.1, vI r64.2, vI r64.1, vI r64.2] rfl <| Aa <| Ad <| r_R [vI r64.2, vB (r64.2 != 0)] rfl <| Aa <| Af _ rfl (fun hc67 => ?_) (fun hc67 => ?_)
   ·replace hM := iN hc67 hM
    refine Ad <| r_R [vI x1_, vI r64.1, vI r64.2] rfl <| r_W (vA #[vI x1_, vI r64.1, vI r64.2]) rfl (AE rfl rfl rfl rfl) <| r_a (89, #[vI x1_, vI r64.1, vI r64.2]) rfl rfl rfl (fun b69 => ?_) (.inr rfl)
    refine r_R [Value.iface 85 (vP b69 0), Value.iface 85 (vP b69 0)] rfl <| Aa ?_
    cases hM
    refine AW (fun hn => DW (v0 := Value.iface 85 (vP b69 0)) (O := [(Bs b69 x1_ r64.1 r64.2)]) (Cy rfl) (Sub.pick [(Bs b69 x1_ r64.1 r64.2), S8] [0] rfl) ⟨b69, _, ⟨rfl, rfl⟩, rfl⟩)
   replace hM := iM hc67 hM
   refine Ah <| hK14 _ _ ?_
   refine Ax ?_
   obtain ⟨ck70, hM⟩ := Ae hM
   refine r_X (vI (x1_ + 1)) rfl (AR rfl ck70.1 ck70.2) rfl <| r_V (vI (x1_ + 1)) rfl <| Aa <| fg _ (Sub.pick [S8] [0] rfl) ?_
   exact ⟨n10 + 1, by omega, n10, (x1_ + 1), hM, Ak rfl rfl, rfl⟩
  replace hM := ifn hk62 hM
  rcases Decidable.em (x1_ = 6) with hk71 | hk71
  ·replace hM := ifp hk71 hM
   refine r_W (elA s7 (x1_.toNat * 1)) rfl (AD (An rfl rfl rfl (Sl.shp H9) (HL (n := 15) rfl ck16))) <| Bw (vF 69 #[vA (Ac m mv)] #[]) (En := GA) (⟨vF 69 #[vA (Ac m mv)] #[], rfl⟩) (x1_.toNat) 0 rfl rfl (AN H9 (Aw (Ls := [S8]) (k := 0) rfl rfl)) (HN (i := 6) hk71 rfl) rfl <| r_R [vI x1_, vF 69 #[vA (Ac m mv)] #[]] rfl <| Aa <| hK15 _ _ ?_
   refine AL [(some 18, false)] (conG prog [(18, cV (Dy N m) fun u0_ => vT #[vI u0_.1, vI u0_.2])]) <| r_V (vF 69 #[vA (Ac m mv)] #[]) rfl ?_
   obtain ⟨r73, hr74, hM⟩ := Ab hM
   refine rg (vT #[vI r73.1, vI r73.2]) (Ca (bd := [vA (Ac m mv)]) (caps := []) rfl cg rfl) (fun o w z_ => OW N m _ hr74 z_.view mv (Bun35R.mono z_.ro_cell hm)) (AF hr74) <| r_R [vT #[vI r73.1, vI r73.2], vI r73.1, vI r73.2, vI r73.1, vI r73.2] rfl <| Aa <| Ad <| r_R [vI r73.2, vB (r73.2 != 0)] rfl <| Aa <| Af _ rfl (fun hc76 => ?_) (fun hc76 => ?_)
   ·replace hM := iN hc76 hM
    refine Ad <| r_R [vI x1_, vI r73.1, vI r73.2] rfl <| r_W (vA #[vI x1_, vI r73.1, vI r73.2]) rfl (AE rfl rfl rfl rfl) <| r_a (89, #[vI x1_, vI r73.1, vI r73.2]) rfl rfl rfl (fun b78 => ?_) (.inr rfl)
    refine r_R [Value.iface 85 (vP b78 0), Value.iface 85 (vP b78 0)] rfl <| Aa ?_
    cases hM
    refine AW (fun hn => DW (v0 := Value.iface 85 (vP b78 0)) (O := [(Bs b78 x1_ r73.1 r73.2)]) (Cy rfl) (Sub.pick [(Bs b78 x1_ r73.1 r73.2), S8] [0] rfl) ⟨b78, _, ⟨rfl, rfl⟩, rfl⟩)
   replace hM := iM hc76 hM
   refine Ah <| hK14 _ _ ?_
   refine Ax ?_
   obtain ⟨ck79, hM⟩ := Ae hM
   refine r_X (vI (x1_ + 1)) rfl (AR rfl ck79.1 ck79.2) rfl <| r_V (vI (x1_ + 1)) rfl <| Aa <| fg _ (Sub.pick [S8] [0] rfl) ?_
   exact ⟨n10 + 1, by omega, n10, (x1_ + 1), hM, Ak rfl rfl, rfl⟩
  replace hM := ifn hk71 hM
  rcases Decidable.em (x1_ = 7) with hk80 | hk80
  ·replace hM := ifp hk80 hM
   refine r_W (elA s7 (x1_.toNat * 1)) rfl (AD (An rfl rfl rfl (Sl.shp H9) (HL (n := 15) rfl ck16))) <| Bw (vF 70 #[vA (Ac m mv)] #[]) (En := GA) (⟨vF 70 #[vA (Ac m mv)] #[], rfl⟩) (x1_.toNat) 0 rfl rfl (AN H9 (Aw (Ls := [S8]) (k := 0) rfl rfl)) (HN (i := 7) hk80 rfl) rfl <| r_R [vI x1_, vF 70 #[vA (Ac m mv)] #[]] rfl <| Aa <| hK15 _ _ ?_
   refine AL [(some 18, false)] (conG prog [(18, cV (DU N m) fun u0_ => vT #[vI u0_.1, vI u0_.2])]) <| r_V (vF 70 #[vA (Ac m mv)] #[]) rfl ?_
   obtain ⟨r82, hr83, hM⟩ := Ab hM
   refine rg (vT #[vI r82.1, vI r82.2]) (Ca (bd := [vA (Ac m mv)]) (caps := []) rfl cf rfl) (fun o w z_ => NI N m _ hr83 z_.view mv (Bun35R.mono z_.ro_cell hm)) (AF hr83) <| r_R [vT #[vI r82.1, vI r82.2], vI r82.1, vI r82.2, vI r82.1, vI r82.2] rfl <| Aa <| Ad <| r_R [vI r82.2, vB (r82.2 != 0)] rfl <| Aa <| Af _ rfl (fun hc85 => ?_) (fun hc85 => ?_)
   ·replace hM := iN hc85 hM
    refine Ad <| r_R [vI x1_, vI r82.1, vI r82.2] rfl <| r_W (vA #[vI x1_, vI r82.1, vI r82.2]) rfl (AE rfl rfl rfl rfl) <| r_a (89, #[vI x1_, vI r82.1, vI r82.2]) rfl rfl rfl (fun b87 => ?_) (.inr rfl)
    refine r_R [Value.iface 85 (vP b87 0), Value.iface 85 (vP b87 0)] rfl <| Aa ?_
    cases hM
    refine AW (fun hn => DW (v0 := Value.iface 85 (vP b87 0)) (O := [(Bs b87 x1_ r82.1 r82.2)]) (Cy rfl) (Sub.pick [(Bs b87 x1_ r82.1 r82.2), S8] [0] rfl) ⟨b87, _, ⟨rfl, rfl⟩, rfl⟩)
   replace hM := iM hc85 hM
   refine Ah <| hK14 _ _ ?_
   refine Ax ?_
   obtain ⟨ck88, hM⟩ := Ae hM
   refine r_X (vI (x1_ + 1)) rfl (AR rfl ck88.1 ck88.2) rfl <| r_V (vI (x1_ + 1)) rfl <| Aa <| fg _ (Sub.pick [S8] [0] rfl) ?_
   exact ⟨n10 + 1, by omega, n10, (x1_ + 1), hM, Ak rfl rfl, rfl⟩
  replace hM := ifn hk80 hM
  rcases Decidable.em (x1_ = 8) with hk89 | hk89
  ·replace hM := ifp hk89 hM
   refine r_W (elA s7 (x1_.toNat * 1)) rfl (AD (An rfl rfl rfl (Sl.shp H9) (HL (n := 15) rfl ck16))) <| Bw (vF 71 #[vA (Ac m mv)] #[]) (En := GA) (⟨vF 71 #[vA (Ac m mv)] #[], rfl⟩) (x1_.toNat) 0 rfl rfl (AN H9 (Aw (Ls := [S8]) (k := 0) rfl rfl)) (HN (i := 8) hk89 rfl) rfl <| r_R [vI x1_, vF 71 #[vA (Ac m mv)] #[]] rfl <| Aa <| hK15 _ _ ?_
   refine AL [(some 18, false)] (conG prog [(18, cV (EF N m) fun u0_ => vT #[vI u0_.1, vI u0_.2])]) <| r_V (vF 71 #[vA (Ac m mv)] #[]) rfl ?_
   obtain ⟨r91, hr92, hM⟩ := Ab hM
   refine rg (vT #[vI r91.1, vI r91.2]) (Ca (bd := [vA (Ac m mv)]) (caps := []) rfl ce rfl) (fun o w z_ => Pa N m _ hr92 z_.view mv (Bun35R.mono z_.ro_cell hm)) (AF hr92) <| r_R [vT #[vI r91.1, vI r91.2], vI r91.1, vI r91.2, vI r91.1, vI r91.2] rfl <| Aa <| Ad <| r_R [vI r91.2, vB (r91.2 != 0)] rfl <| Aa <| Af _ rfl (fun hc94 => ?_) (fun hc94 => ?_)
   ·replace hM := iN hc94 hM
    refine Ad <| r_R [vI x1_, vI r91.1, vI r91.2] rfl <| r_W (vA #[vI x1_, vI r91.1, vI r91.2]) rfl (AE rfl rfl rfl rfl) <| r_a (89, #[vI x1_, vI r91.1, vI r91.2]) rfl rfl rfl (fun b96 => ?_) (.inr rfl)
    refine r_R [Value.iface 85 (vP b96 0), Value.iface 85 (vP b96 0)] rfl <| Aa ?_
    cases hM
    refine AW (fun hn => DW (v0 := Value.iface 85 (vP b96 0)) (O := [(Bs b96 x1_ r91.1 r91.2)]) (Cy rfl) (Sub.pick [(Bs b96 x1_ r91.1 r91.2), S8] [0] rfl) ⟨b96, _, ⟨rfl, rfl⟩, rfl⟩)
   replace hM := iM hc94 hM
   refine Ah <| hK14 _ _ ?_
   refine Ax ?_
   obtain ⟨ck97, hM⟩ := Ae hM
   refine r_X (vI (x1_ + 1)) rfl (AR rfl ck97.1 ck97.2) rfl <| r_V (vI (x1_ + 1)) rfl <| Aa <| fg _ (Sub.pick [S8] [0] rfl) ?_
   exact ⟨n10 + 1, by omega, n10, (x1_ + 1), hM, Ak rfl rfl, rfl⟩
  replace hM := ifn hk89 hM
  rcases Decidable.em (x1_ = 9) with hk98 | hk98
  ·replace hM := ifp hk98 hM
   refine r_W (elA s7 (x1_.toNat * 1)) rfl (AD (An rfl rfl rfl (Sl.shp H9) (HL (n := 15) rfl ck16))) <| Bw (vF 72 #[vA (Ac m mv)] #[]) (En := GA) (⟨vF 72 #[vA (Ac m mv)] #[], rfl⟩) (x1_.toNat) 0 rfl rfl (AN H9 (Aw (Ls := [S8]) (k := 0) rfl rfl)) (HN (i := 9) hk98 rfl) rfl <| r_R [vI x1_, vF 72 #[vA (Ac m mv)] #[]] rfl <| Aa <| hK15 _ _ ?_
   refine AL [(some 18, false)] (conG prog [(18, cV (Cs N m) fun u0_ => vT #[vI u0_.1, vI u0_.2])]) <| r_V (vF 72 #[vA (Ac m mv)] #[]) rfl ?_
   obtain ⟨r100, hr101, hM⟩ := Ab hM
   refine rg (vT #[vI r100.1, vI r100.2]) (Ca (bd := [vA (Ac m mv)]) (caps := []) rfl cd rfl) (fun o w z_ => (Does.inv (NK N m _ hr101 z_.view mv (Bun35R.mono z_.ro_cell hm)) _)) (AF hr101) <| r_R [vT #[vI r100.1, vI r100.2], vI r100.1, vI r100.2, vI r100.1, vI r100.2] rfl <| Aa <| Ad <| r_R [vI r100.2, vB (r100.2 != 0)] rfl <| Aa <| Af _ rfl (fun hc103 => ?_) (fun hc103 => ?_)
   ·replace hM := iN hc103 hM
    refine Ad <| r_R [vI x1_, vI r100.1, vI r100.2] rfl <| r_W (vA #[vI x1_, vI r100.1, vI r100.2]) rfl (AE rfl rfl rfl rfl) <| r_a (89, #[vI x1_, vI r100.1, vI r100.2]) rfl rfl rfl (fun b105 => ?_) (.inr rfl)
    refine r_R [Value.iface 85 (vP b105 0), Value.iface 85 (vP b105 0)] rfl <| Aa ?_
    cases hM
    refine AW (fun hn => DW (v0 := Value.iface 85 (vP b105 0)) (O := [(Bs b105 x1_ r100.1 r100.2)]) (Cy rfl) (Sub.pick [(Bs b105 x1_ r100.1 r100.2), S8] [0] rfl) ⟨b105, _, ⟨rfl, rfl⟩, rfl⟩)
   replace hM := iM hc103 hM
   refine Ah <| hK14 _ _ ?_
   refine Ax ?_
   obtain ⟨ck106, hM⟩ := Ae hM
   refine r_X (vI (x1_ + 1)) rfl (AR rfl ck106.1 ck106.2) rfl <| r_V (vI (x1_ + 1)) rfl <| Aa <| fg _ (Sub.pick [S8] [0] rfl) ?_
   exact ⟨n10 + 1, by omega, n10, (x1_ + 1), hM, Ak rfl rfl, rfl⟩
  replace hM := ifn hk98 hM
  rcases Decidable.em (x1_ = 10) with hk107 | hk107
  ·replace hM := ifp hk107 hM
   refine r_W (elA s7 (x1_.toNat * 1)) rfl (AD (An rfl rfl rfl (Sl.shp H9) (HL (n := 15) rfl ck16))) <| Bw (vF 73 #[vA (Ac m mv)] #[]) (En := GA) (⟨vF 73 #[vA (Ac m mv)] #[], rfl⟩) (x1_.toNat) 0 rfl rfl (AN H9 (Aw (Ls := [S8]) (k := 0) rfl rfl)) (HN (i := 10) hk107 rfl) rfl <| r_R [vI x1_, vF 73 #[vA (Ac m mv)] #[]] rfl <| Aa <| hK15 _ _ ?_
   refine AL [(some 18, false)] (conG prog [(18, cV (EG N m) fun u0_ => vT #[vI u0_.1, vI u0_.2])]) <| r_V (vF 73 #[vA (Ac m mv)] #[]) rfl ?_
   obtain ⟨r109, hr110, hM⟩ := Ab hM
   refine rg (vT #[vI r109.1, vI r109.2]) (Ca (bd := [vA (Ac m mv)]) (caps := []) rfl cc rfl) (fun o w z_ => (Does.inv (Pc N m _ hr110 z_.view mv (Bun35R.mono z_.ro_cell hm)) _)) (AF hr110) <| r_R [vT #[vI r109.1, vI r109.2], vI r109.1, vI r109.2, vI r109.1, vI r109.2] rfl <| Aa <| Ad <| r_R [vI r109.2, vB (r109.2 != 0)] rfl <| Aa <| Af _ rfl (fun hc112 => ?_) (fun hc112 => ?_)
   ·replace hM := iN hc112 hM
    refine Ad <| r_R [vI x1_, vI r109.1, vI r109.2] rfl <| r_W (vA #[vI x1_, vI r109.1, vI r109.2]) rfl (AE rfl rfl rfl rfl) <| r_a (89, #[vI x1_, vI r109.1, vI r109.2]) rfl rfl rfl (fun b114 => ?_) (.inr rfl)
    refine r_R [Value.iface 85 (vP b114 0), Value.iface 85 (vP b114 0)] rfl <| Aa ?_
    cases hM
    refine AW (fun hn => DW (v0 := Value.iface 85 (vP b114 0)) (O := [(Bs b114 x1_ r109.1 r109.2)]) (Cy rfl) (Sub.pick [(Bs b114 x1_ r109.1 r109.2), S8] [0] rfl) ⟨b114, _, ⟨rfl, rfl⟩, rfl⟩)
   replace hM := iM hc112 hM
   refine Ah <| hK14 _ _ ?_
   refine Ax ?_
   obtain ⟨ck115, hM⟩ := Ae hM
   refine r_X (vI (x1_ + 1)) rfl (AR rfl ck115.1 ck115.2) rfl <| r_V (vI (x1_ + 1)) rfl <| Aa <| fg _ (Sub.pick [S8] [0] rfl) ?_
   exact ⟨n10 + 1, by omega, n10, (x1_ + 1), hM, Ak rfl rfl, rfl⟩
  replace hM := ifn hk107 hM
  rcases Decidable.em (x1_ = 11) with hk116 | hk116
  ·replace hM := ifp hk116 hM
   refine r_W (elA s7 (x1_.toNat * 1)) rfl (AD (An rfl rfl rfl (Sl.shp H9) (HL (n := 15) rfl ck16))) <| Bw (vF 74 #[vA (Ac m mv)] #[]) (En := GA) (⟨vF 74 #[vA (Ac m mv)] #[], rfl⟩) (x1_.toNat) 0 rfl rfl (AN H9 (Aw (Ls := [S8]) (k := 0) rfl rfl)) (HN (i := 11) hk116 rfl) rfl <| r_R [vI x1_, vF 74 #[vA (Ac m mv)] #[]] rfl <| Aa <| hK15 _ _ ?_
   refine AL [(some 18, false)] (conG prog [(18, cV (DT N m) fun u0_ => vT #[vI u0_.1, vI u0_.2])]) <| r_V (vF 74 #[vA (Ac m mv)] #[]) rfl ?_
   obtain ⟨r118, hr119, hM⟩ := Ab hM
   refine rg (vT #[vI r118.1, vI r118.2]) (Ca (bd := [vA (Ac m mv)]) (caps := []) rfl cb rfl) (fun o w z_ => (Does.inv (NE N m _ hr119 z_.view mv (Bun35R.mono z_.ro_cell hm)) _)) (AF hr119) <| r_R [vT #[vI r118.1, vI r118.2], vI r118.1, vI r118.2, vI r118.1, vI r118.2] rfl <| Aa <| Ad <| r_R [vI r118.2, vB (r118.2 != 0)] rfl <| Aa <| Af _ rfl (fun hc121 => ?_) (fun hc121 => ?_)
   ·replace hM := iN hc121 hM
    refine Ad <| r_R [vI x1_, vI r118.1, vI r118.2] rfl <| r_W (vA #[vI x1_, vI r118.1, vI r118.2]) rfl (AE rfl rfl rfl rfl) <| r_a (89, #[vI x1_, vI r118.1, vI r118.2]) rfl rfl rfl (fun b123 => ?_) (.inr rfl)
    refine r_R [Value.iface 85 (vP b123 0), Value.iface 85 (vP b123 0)] rfl <| Aa ?_
    cases hM
    refine AW (fun hn => DW (v0 := Value.iface 85 (vP b123 0)) (O := [(Bs b123 x1_ r118.1 r118.2)]) (Cy rfl) (Sub.pick [(Bs b123 x1_ r118.1 r118.2), S8] [0] rfl) ⟨b123, _, ⟨rfl, rfl⟩, rfl⟩)
   replace hM := iM hc121 hM
   refine Ah <| hK14 _ _ ?_
   refine Ax ?_
   obtain ⟨ck124, hM⟩ := Ae hM
   refine r_X (vI (x1_ + 1)) rfl (AR rfl ck124.1 ck124.2) rfl <| r_V (vI (x1_ + 1)) rfl <| Aa <| fg _ (Sub.pick [S8] [0] rfl) ?_
   exact ⟨n10 + 1, by omega, n10, (x1_ + 1), hM, Ak rfl rfl, rfl⟩
  replace hM := ifn hk116 hM
  rcases Decidable.em (x1_ = 12) with hk125 | hk125
  ·replace hM := ifp hk125 hM
   refine r_W (elA s7 (x1_.toNat * 1)) rfl (AD (An rfl rfl rfl (Sl.shp H9) (HL (n := 15) rfl ck16))) <| Bw (vF 75 #[vA (Ac m mv)] #[]) (En := GA) (⟨vF 75 #[vA (Ac m mv)] #[], rfl⟩) (x1_.toNat) 0 rfl rfl (AN H9 (Aw (Ls := [S8]) (k := 0) rfl rfl)) (HN (i := 12) hk125 rfl) rfl <| r_R [vI x1_, vF 75 #[vA (Ac m mv)] #[]] rfl <| Aa <| hK15 _ _ ?_
   refine AL [(some 18, false)] (conG prog [(18, cV (Fa N m) fun u0_ => vT #[vI u0_.1, vI u0_.2])]) <| r_V (vF 75 #[vA (Ac m mv)] #[]) rfl ?_
   obtain ⟨r127, hr128, hM⟩ := Ab hM
   refine rg (vT #[vI r127.1, vI r127.2]) (Ca (bd := [vA (Ac m mv)]) (caps := []) rfl ca rfl) (fun o w z_ => (Does.inv (RE N m _ hr128 z_.view mv (Bun35R.mono z_.ro_cell hm)) _)) (AF hr128) <| r_R [vT #[vI r127.1, vI r127.2], vI r127.1, vI r127.2, vI r127.1, vI r127.2] rfl <| Aa <| Ad <| r_R [vI r127.2, vB (r127.2 != 0)] rfl <| Aa <| Af _ rfl (fun hc130 => ?_) (fun hc130 => ?_)
   ·replace hM := iN hc130 hM
    refine Ad <| r_R [vI x1_, vI r127.1, vI r127.2] rfl <| r_W (vA #[vI x1_, vI r127.1, vI r127.2]) rfl (AE rfl rfl rfl rfl) <| r_a (89, #[vI x1_, vI r127.1, vI r127.2]) rfl rfl rfl (fun b132 => ?_) (.inr rfl)
    refine r_R [Value.iface 85 (vP b132 0), Value.iface 85 (vP b132 0)] rfl <| Aa ?_
    cases hM
    refine AW (fun hn => DW (v0 := Value.iface 85 (vP b132 0)) (O := [(Bs b132 x1_ r127.1 r127.2)]) (Cy rfl) (Sub.pick [(Bs b132 x1_ r127.1 r127.2), S8] [0] rfl) ⟨b132, _, ⟨rfl, rfl⟩, rfl⟩)
   replace hM := iM hc130 hM
   refine Ah <| hK14 _ _ ?_
   refine Ax ?_
   obtain ⟨ck133, hM⟩ := Ae hM
   refine r_X (vI (x1_ + 1)) rfl (AR rfl ck133.1 ck133.2) rfl <| r_V (vI (x1_ + 1)) rfl <| Aa <| fg _ (Sub.pick [S8] [0] rfl) ?_
   exact ⟨n10 + 1, by omega, n10, (x1_ + 1), hM, Ak rfl rfl, rfl⟩
  replace hM := ifn hk125 hM
  rcases Decidable.em (x1_ = 13) with hk134 | hk134
  ·replace hM := ifp hk134 hM
   refine r_W (elA s7 (x1_.toNat * 1)) rfl (AD (An rfl rfl rfl (Sl.shp H9) (HL (n := 15) rfl ck16))) <| Bw (vF 76 #[vA (Ac m mv)] #[]) (En := GA) (⟨vF 76 #[vA (Ac m mv)] #[], rfl⟩) (x1_.toNat) 0 rfl rfl (AN H9 (Aw (Ls := [S8]) (k := 0) rfl rfl)) (HN (i := 13) hk134 rfl) rfl <| r_R [vI x1_, vF 76 #[vA (Ac m mv)] #[]] rfl <| Aa <| hK15 _ _ ?_
   refine AL [(some 18, false)] (conG prog [(18, cV (Cz N m) fun u0_ => vT #[vI u0_.1, vI u0_.2])]) <| r_V (vF 76 #[vA (Ac m mv)] #[]) rfl ?_
   obtain ⟨r136, hr137, hM⟩ := Ab hM
   refine rg (vT #[vI r136.1, vI r136.2]) (Ca (bd := [vA (Ac m mv)]) (caps := []) rfl bZ rfl) (fun o w z_ => (Does.inv (Mv N m _ hr137 z_.view mv (Bun35R.mono z_.ro_cell hm)) _)) (AF hr137) <| r_R [vT #[vI r136.1, vI r136.2], vI r136.1, vI r136.2, vI r136.1, vI r136.2] rfl <| Aa <| Ad <| r_R [vI r136.2, vB (r136.2 != 0)] rfl <| Aa <| Af _ rfl (fun hc139 => ?_) (fun hc139 => ?_)
   ·replace hM := iN hc139 hM
    refine Ad <| r_R [vI x1_, vI r136.1, vI r136.2] rfl <| r_W (vA #[vI x1_, vI r136.1, vI r136.2]) rfl (AE rfl rfl rfl rfl) <| r_a (89, #[vI x1_, vI r136.1, vI r136.2]) rfl rfl rfl (fun b141 => ?_) (.inr rfl)
    refine r_R [Value.iface 85 (vP b141 0), Value.iface 85 (vP b141 0)] rfl <| Aa ?_
    cases hM
    refine AW (fun hn => DW (v0 := Value.iface 85 (vP b141 0)) (O := [(Bs b141 x1_ r136.1 r136.2)]) (Cy rfl) (Sub.pick [(Bs b141 x1_ r136.1 r136.2), S8] [0] rfl) ⟨b141, _, ⟨rfl, rfl⟩, rfl⟩)
   replace hM := iM hc139 hM
   refine Ah <| hK14 _ _ ?_
   refine Ax ?_
   obtain ⟨ck142, hM⟩ := Ae hM
   refine r_X (vI (x1_ + 1)) rfl (AR rfl ck142.1 ck142.2) rfl <| r_V (vI (x1_ + 1)) rfl <| Aa <| fg _ (Sub.pick [S8] [0] rfl) ?_
   exact ⟨n10 + 1, by omega, n10, (x1_ + 1), hM, Ak rfl rfl, rfl⟩
  replace hM := ifn hk134 hM
  have hk143 : x1_ = 14 := bG ck16 (by omega)
  refine r_W (elA s7 (x1_.toNat * 1)) rfl (AD (An rfl rfl rfl (Sl.shp H9) (HL (n := 15) rfl ck16))) <| Bw (vF 77 #[vA (Ac m mv)] #[]) (En := GA) (⟨vF 77 #[vA (Ac m mv)] #[], rfl⟩) (x1_.toNat) 0 rfl rfl (AN H9 (Aw (Ls := [S8]) (k := 0) rfl rfl)) (HN (i := 14) hk143 rfl) rfl <| r_R [vI x1_, vF 77 #[vA (Ac m mv)] #[]] rfl <| Aa <| hK15 _ _ ?_
  refine AL [(some 18, false)] (conG prog [(18, cV (Dz N m) fun u0_ => vT #[vI u0_.1, vI u0_.2])]) <| r_V (vF 77 #[vA (Ac m mv)] #[]) rfl ?_
  obtain ⟨r145, hr146, hM⟩ := Ab hM
  refine rg (vT #[vI r145.1, vI r145.2]) (Ca (bd := [vA (Ac m mv)]) (caps := []) rfl bY rfl) (fun o w z_ => (Does.inv (OZ N m _ hr146 z_.view mv (Bun35R.mono z_.ro_cell hm)) _)) (AF hr146) <| r_R [vT #[vI r145.1, vI r145.2], vI r145.1, vI r145.2, vI r145.1, vI r145.2] rfl <| Aa <| Ad <| r_R [vI r145.2, vB (r145.2 != 0)] rfl <| Aa <| Af _ rfl (fun hc148 => ?_) (fun hc148 => ?_)
  ·replace hM := iN hc148 hM
   refine Ad <| r_R [vI x1_, vI r145.1, vI r145.2] rfl <| r_W (vA #[vI x1_, vI r145.1, vI r145.2]) rfl (AE rfl rfl rfl rfl) <| r_a (89, #[vI x1_, vI r145.1, vI r145.2]) rfl rfl rfl (fun b150 => ?_) (.inr rfl)
   refine r_R [Value.iface 85 (vP b150 0), Value.iface 85 (vP b150 0)] rfl <| Aa ?_
   cases hM
   refine AW (fun hn => DW (v0 := Value.iface 85 (vP b150 0)) (O := [(Bs b150 x1_ r145.1 r145.2)]) (Cy rfl) (Sub.pick [(Bs b150 x1_ r145.1 r145.2), S8] [0] rfl) ⟨b150, _, ⟨rfl, rfl⟩, rfl⟩)
  replace hM := iM hc148 hM
  refine Ah <| hK14 _ _ ?_
  refine Ax ?_
  obtain ⟨ck151, hM⟩ := Ae hM
  refine r_X (vI (x1_ + 1)) rfl (AR rfl ck151.1 ck151.2) rfl <| r_V (vI (x1_ + 1)) rfl <| Aa <| fg _ (Sub.pick [S8] [0] rfl) ?_
  exact ⟨n10 + 1, by omega, n10, (x1_ + 1), hM, Ak rfl rfl, rfl⟩
 replace hM := iF hc13 hM
 refine AM <| hK3 _ _ ?_
 refine Ad <| r_V Value.nilIface rfl <| Aa ?_
 cases hM
 refine AW (fun hn => DW (v0 := Value.nilIface) (O := []) (Cy rfl) (Sub.nil _) ⟨rfl, rfl⟩)
abbrev JN : EncO ((List UInt8) × (List (Int × Int)) × (List (Int × Int × Int)) × (List (Int × BitVec 128 × Int × BitVec 128 × Int)) × Int) := (RQ (Xq encS) (RQ (UE 164 enc_164) (RQ (UE 168 enc_168) (RQ (UE 66 enc_66) (Xq BK)))))
theorem Vr  {c : Addr → Option Value} {x} {vs : List Value} (h : (JN).V c x vs) : (encr_64).R c x vs := by obtain ⟨_, _, rfl, ⟨_, _, ⟨s0, rfl, h0⟩, ⟨_, _, ⟨s1, rfl, h1⟩, ⟨_, _, ⟨s2, rfl, h2⟩, rfl, rfl⟩, rfl⟩, rfl⟩, rfl⟩ := h; exact ⟨s0, s1, s2, h0, h1, h2, rfl⟩
def Db (N : Nat) : Option Bool := (CF N (([109] : List UInt8), [], [], [], [(([115] : List UInt8), [], [], [], -1)], [], [], [], [], [], [], [], [], [], [], 1, 1, 0)).bind fun r9 => Sum42.on r9 (some true) (fun _ _ _ => some false)
theorem LC (N : Nat) (r) (hM : Db N = some r) (ro : Ro) : DoesI prog 7 #[] DZ ro [] (pV (vB r)) := by
 unfold Db at hM
 refine AO follows func7 rfl 6 rfl _ fz0 AT (fun base0_ => ?_)
 refine Ad <| r_V (vB false) rfl <| Aa <| Ai fun K2 hK2 => BB [(some 2, false), (some 4, true)] (conG prog [(4, fun _ _ v_ L_ U_ => ∀ u0_, CF N (([109] : List UInt8), [], [], [], [(([115] : List UInt8), [], [], [], -1)], [], [], [], [], [], [], [], [], [], [], 1, 1, 0) = some u0_ → (pO (List.flatten []) (Sum42.onP u0_ (oE Value.nilIface []) (fun y0_0 y0_1 y0_2 => (oB 89 #[vI y0_0, vI y0_1, vI y0_2] fun bs_0 => (oE (Value.iface 85 (vP bs_0 0)) []))))) v_ L_ U_)]) <| r_W (vA #[Value.string (⟨#[115]⟩), nS, nS, nS, vI (-1)]) rfl (AE rfl rfl rfl rfl) ?_
 have hR3 : (JN).R (([115] : List UInt8), [], [], [], -1) [Value.string (⟨#[115]⟩), nS, nS, nS, vI (-1)] ([]) := (by have h_ := (Lh (RR (E := encS) ([115] : List UInt8)) (Lh (NV (e := 164) (E := enc_164) Sl.nil) (Lh (NV (e := 168) (E := enc_168) Sl.nil) (Lh (NV (e := 66) (E := enc_66) Sl.nil) (RR (E := BK) (-1)))))); exact EncO.cast h_ (by first | rfl | simp only [List.nil_append, List.append_nil, List.append_assoc]))
 refine Dj (cs0 := [(4, fun _ _ v_ L_ U_ => ∀ u0_, CF N (([109] : List UInt8), [], [], [], [(([115] : List UInt8), [], [], [], -1)], [], [], [], [], [], [], [], [], [], [], 1, 1, 0) = some u0_ → (pO (List.flatten []) (Sum42.onP u0_ (oE Value.nilIface []) (fun y0_0 y0_1 y0_2 => (oB 89 #[vI y0_0, vI y0_1, vI y0_2] fun bs_0 => (oE (Value.iface 85 (vP bs_0 0)) []))))) v_ L_ U_)]) (Ls := []) 64 (EncO.raw JN) [EncO.of JN hR3] [Value.string (⟨#[115]⟩), nS, nS, nS, vI (-1)] [Value.string (⟨#[]⟩), nS, nS, nS, vI 0] rfl rfl rfl rfl rfl rfl rfl (by kernel_rfl) ((Lg _ _ _ _ (IS rfl Qb)).trans (by kernel_rfl)) rfl rfl rfl (fun s4 S5 H6 => ?_)
 refine Um (Ls := [S5]) (p := fun S_ => SlO 64 JN s4 ([(([115] : List UInt8), [], [], [], -1)]) S_) 0 rfl (SlO.cast (⟨_, _, _, H6, (Items.one hR3), rfl⟩ : SlO 64 JN s4 [(([115] : List UInt8), [], [], [], -1)] _) (by first | rfl | simp only [List.nil_append, List.append_nil, List.append_assoc])) (fun S7 H8 => ?_)
 refine r_W (vA #[Value.string (⟨#[109]⟩), nS, nS, nS, s4, nS, nS, nS, nS, nS, nS, nS, nS, nS, nS, vI 1, vI 1, vI 0]) rfl (NS rfl rfl rfl (IS rfl (IS (Du rfl (SlO.shp H8)) (IS rfl (IS rfl Qb)))) rfl) ?_
 obtain ⟨r9, hr10, hM⟩ := Ab hM
 refine Lz (Ls := [S7]) (FL := []) [] _ (some 4) 9 _ rfl rfl rfl rfl rfl (cF XS) (fun o w hn_ z_ => Lc N (([109] : List UInt8), [], [], [], [(([115] : List UInt8), [], [], [], -1)], [], [], [], [], [], [], [], [], [], [], 1, 1, 0) _ hr10 _ (nS, nS, nS, s4, nS, nS, nS, nS, nS, nS, nS, nS, nS, nS) ⟨(.inl ⟨rfl, rfl⟩), (.inl ⟨rfl, rfl⟩), (.inl ⟨rfl, rfl⟩), (RdN.map (E' := encr_64) (SlO.view H8 (Ti (Ls := [S7]) (is := []) 0 rfl rfl hn_ z_)) rfl (fun _ _ h_ => Vr h_)), (.inl ⟨rfl, rfl⟩), (.inl ⟨rfl, rfl⟩), (.inl ⟨rfl, rfl⟩), (.inl ⟨rfl, rfl⟩), (.inl ⟨rfl, rfl⟩), (.inl ⟨rfl, rfl⟩), (.inl ⟨rfl, rfl⟩), (.inl ⟨rfl, rfl⟩), (.inl ⟨rfl, rfl⟩), (.inl ⟨rfl, rfl⟩)⟩) (AF hr10) (fun h_ => nomatch h_) ?_
 rintro _ _ hp_
 rcases Sum42.cases r9 with hx11 | ⟨x12_0, x13_1, x14_2, hx11⟩
 ·obtain ⟨rfl, rfl⟩ := Sum42.onP_nil hx11 hp_
  replace hM := Sum42.on_nil hx11 hM
  refine Cw (Ls := [S7]) (Ls' := [S7]) [0] rfl rfl <| r_R [vB true, vB true] rfl <| Aa <| hK2 _ _ ?_
  cases hM
  exact aR eV1
 obtain ⟨b15, _, ⟨rfl, rfl⟩, rfl⟩ := Sum42.onP_t85 hx11 hp_
 replace hM := Sum42.on_t85 hx11 hM
 refine Cw (Ls := [S7, (Bs b15 x12_0 x13_1 x14_2)]) (Ls' := [(Bs b15 x12_0 x13_1 x14_2), S7]) [1, 0] rfl rfl <| r_R [vB false, vB false] rfl <| Aa <| hK2 _ _ ?_
 cases hM
 exact aR eV1
end Go.Proofs.YtjmdbbnnpmmpiaaGreatDoor
