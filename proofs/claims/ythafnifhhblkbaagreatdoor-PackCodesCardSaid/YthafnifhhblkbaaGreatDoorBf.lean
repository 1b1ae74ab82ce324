import Derived.Test.YthafnifhhblkbaaGreatDoorBe
set_option linter.unusedSimpArgs false
set_option linter.unusedVariables false
namespace Go.Proofs.YthafnifhhblkbaaGreatDoor
open Go Go.RowKit Go.Eng _root_.Go.Proofs.Tryz
set_option maxRecDepth 100000
set_option maxHeartbeats 8000000
abbrev LJ (b : Nat) (x0 : List UInt8) (x1 : Int) (x2 : Int) : List Bl := [(b, 100, #[vS x0, vI x1, vI x2])]
abbrev RM (b : Nat) (x0 : Value) : List Bl := [(b, 343, #[x0])]
abbrev Nv (b : Nat) (x0 : Value) : List Bl := [(b, 62, #[x0])]
abbrev OP (b : Nat) (x0 : List UInt8) (x1 : Int) : List Bl := [(b, 102, #[vS x0, vI x1])]
abbrev RK (b : Nat) (x0 : Value) : List Bl := [(b, 346, #[x0])]
abbrev Kk (b : Nat) (x0 : List UInt8) (x1 : Int) (x2 : Int) (x3 : Int) : List Bl := [(b, 104, #[vS x0, vI x1, vI x2, vI x3])]
abbrev RJ (b : Nat) (x0 : Value) : List Bl := [(b, 349, #[x0])]
abbrev OO (b : Nat) (x0 : Int) (x1 : Int) (x2 : Int) : List Bl := [(b, 243, #[vI x0, vI x1, vI x2])]
def Ia (N : Nat) (l' : List (Int × Int)) (ask0_ : AN) : Nat → Int → Option (Int × Int)
  | 0, _ => none
  | n8 + 1, x1_ => if x1_ < (l'.length : Int) then ck (0 ≤ x1_ ∧ x1_ < (l'.length : Int)) ((Jb N x1_ ((l'[x1_.toNat]!).1) ((l'[x1_.toNat]!).2) ask0_).bind fun r17 => if (r17 : Int) ≠ 0 then some (x1_, r17) else ck (-9223372036854775808 ≤ (x1_ + 1) ∧ (x1_ + 1) ≤ 9223372036854775807) ((Ia N l' ask0_ n8) (x1_ + 1))) else some (0, 0)
def KW (N : Nat) (l' : List (Int × Int)) (most : Int) (ask0_ : AN) : Option (Int × Int) := if (l'.length : Int) > most then some (0, 2) else Ia N l' ask0_ N 0
theorem WU (N l' most ask0_ r) (hM : KW N l' most ask0_ = some r) (ro l'v) (hl' : Rd JR ro l'v l') (bask0_ : Nat) (ask0_v : AH) (hask0_ : Bun35R ro ask0_v ask0_) (hbask0_ : Blk ro bask0_ (DA ask0_ ask0_v)) : Does prog 323 #[l'v, vI most, vF 324 #[] #[vP bask0_ 0]] ro [] (pV (vT #[vI r.1, vI r.2])) := by
 unfold KW at hM
 refine Ac follows func323 rfl 31 rfl _ fz3 (fun base0_ => ?_)
 refine AZ rfl <| Aa fun K2 hK2 => Ai <| rn 1 rfl <| rL (Rd.shp hl') rfl <| rz rfl <| aD hM rfl (fun hc4 hM => ?_) (fun hc4 hM => ?_)
 ·refine AZ rfl ?_
  cases hM
  exact aR eV2
 refine Af <| hK2 _ _ ?_
 refine Aa fun K6 hK6 => Ai <| rn 1 rfl <| rL (Rd.shp hl') rfl <| rz rfl <| Aj <| AU (fun tt ll nn => ∃ (n8 : Nat) (x1_ : Int), (Ia N l' ask0_ n8 x1_ = some r) ∧ Is [(2, vF 324 #[] #[vP bask0_ 0]), (15, l'v), (16, vI (l'.length : Int)), (17, vI x1_)] [] tt ll ∧ nn = n8 + 1) (N + 1) ?_ ?_
 ·exact ⟨N, 0, hM, Ak rfl rfl, rfl⟩
 clear hM; rintro t l _ ⟨n8, x1_, hM, ⟨⟨T, rfl⟩, rfl⟩, rfl⟩
 rcases n8 with _ | n8
 ·exact absurd hM (by simp [Ia])
 rw [Ia] at hM
 refine AZ rfl <| Aa fun K10 hK10 => aD hM rfl (fun hc11 hM => ?_) (fun hc11 hM => ?_)
 ·refine Af <| hK10 _ _ ?_
  refine Aa fun K12 hK12 => Aj <| Ai <| rn 1 rfl <| kC hM fun ck14 hM => rI (Rd.shp hl') ck14 rfl <| rE (AA hl') ck14 0 rfl <| rA rfl fun b15 => ry [0] rfl <| A_sc [(some 25, false)] (conG prog [(25, cV (Jb N x1_ ((l'[x1_.toNat]!).1) ((l'[x1_.toNat]!).2) ask0_) fun u0_ => vI u0_)]) <| rm 3 [0] rfl <| kB hM fun r17 hr18 hM => rg _ (AO (caps := [vP bask0_ 0]) rfl ef rfl) (fun o w z_ => TV N x1_ ((l'[x1_.toNat]!).1) ((l'[x1_.toNat]!).2) ask0_ _ hr18 z_.view bask0_ ask0_v (Bun35R.mono z_.ro_cell hask0_) (AM hbask0_ o w z_)) (Ao hr18) <| rz rfl <| AZ rfl <| aN hM rfl (fun hc20 hM => ?_) (fun hc20 hM => ?_)
  ·refine AZ rfl ?_
   cases hM
   exact aR eV2
  refine Af <| hK12 _ _ ?_
  refine Ar <| kC hM fun ck22 hM => rX ck22 rfl <| rz rfl <| fg _ (Sub.of (suC _ suN)) ?_
  exact ⟨n8 + 1, by omega, n8, (x1_ + 1), hM, Ak rfl rfl, rfl⟩
 refine AS <| hK6 _ _ ?_
 refine AZ rfl ?_
 cases hM
 exact aR eV2
def Hy (N : Nat) (c : AN) (l' : List (Int × Int)) : Option (Int × Int) := (KW N l' 4 c).bind fun r4 => some (r4.1, r4.2)
theorem Ql (N c l' r) (hM : Hy N c l' = some r) (ro) (cv : AH) (hc : Bun35R ro cv c) (l'v) (hl' : Rd JR ro l'v l') : Does prog 253 #[vA (Ag c cv), l'v] ro [] (pV (vT #[vI r.1, vI r.2])) := by
 unfold Hy at hM
 refine Ac follows func253 rfl 11 rfl _ fz2 (fun base0_ => ?_)
 refine Ai <| rA rfl fun b2 => rz rfl <| A_sc [(some 8, false)] (conG prog [(8, cV (KW N l' 4 c) fun u0_ => vT #[vI u0_.1, vI u0_.2])]) <| rn 1 rfl <| r_W (vF 324 #[] #[vP b2 0]) rfl (EM rfl) <| kB hM fun r4 hr5 hM => rg _ (cF eg) (fun o w z_ => WU N l' 4 c _ hr5 z_.view l'v ((AA hl') o w z_) b2 cv (Bun35R.mono z_.ro_cell hc) (BR 0 rfl rfl o w z_)) (Ao hr5) <| rz rfl ?_
 cases hM
 exact aR eV2
def Ly (N : Nat) (c : AN) : Option (Int × Int) := (Hy N c c.2.2.2.2.2.2.2.2.2.2.1).bind fun r4 => some (r4.1, r4.2)
theorem Ua (N c r) (hM : Ly N c = some r) (ro) (cv : AH) (hc : Bun35R ro cv c) : Does prog 203 #[vA (Ag c cv)] ro [] (pV (vT #[vI r.1, vI r.2])) := by
 unfold Ly at hM
 refine Ac follows func203 rfl 11 rfl _ fz1 (fun base0_ => ?_)
 refine Ai <| rA rfl fun b2 => rz rfl <| A_sc [(some 8, false)] (conG prog [(8, cV (Hy N c c.2.2.2.2.2.2.2.2.2.2.1) fun u0_ => vT #[vI u0_.1, vI u0_.2])]) <| rm 4 [0, 0] rfl <| kB hM fun r4 hr5 hM => rg _ (cF XW) (fun o w z_ => Ql N c c.2.2.2.2.2.2.2.2.2.2.1 _ hr5 z_.view cv (Bun35R.mono z_.ro_cell hc) cv.2.2.2.2.2.2.2.2.2.1 ((AA hc.2.2.2.2.2.2.2.2.2.1) o w z_)) (Ao hr5) <| rz rfl ?_
 cases hM
 exact aR eV2
def Kn (N : Nat) (c : AN) : Option (Int × Int) := (Hy N c c.2.2.2.2.2.2.2.2.2.2.2.1).bind fun r4 => some (r4.1, r4.2)
theorem Sh (N c r) (hM : Kn N c = some r) (ro) (cv : AH) (hc : Bun35R ro cv c) : Does prog 204 #[vA (Ag c cv)] ro [] (pV (vT #[vI r.1, vI r.2])) := by
 unfold Kn at hM
 refine Ac follows func204 rfl 11 rfl _ fz1 (fun base0_ => ?_)
 refine Ai <| rA rfl fun b2 => rz rfl <| A_sc [(some 8, false)] (conG prog [(8, cV (Hy N c c.2.2.2.2.2.2.2.2.2.2.2.1) fun u0_ => vT #[vI u0_.1, vI u0_.2])]) <| rm 4 [0, 0] rfl <| kB hM fun r4 hr5 hM => rg _ (cF XW) (fun o w z_ => Ql N c c.2.2.2.2.2.2.2.2.2.2.2.1 _ hr5 z_.view cv (Bun35R.mono z_.ro_cell hc) cv.2.2.2.2.2.2.2.2.2.2.1 ((AA hc.2.2.2.2.2.2.2.2.2.2.1) o w z_)) (Ao hr5) <| rz rfl ?_
 cases hM
 exact aR eV2
def Oh (_ : Nat) (x_0 : List UInt8) (_ : Int) (_ : Int) : Option (List UInt8) := some x_0
theorem YJ (N x_0 x_1 x_2 r) (hM : Oh N x_0 x_1 x_2 = some r) : Gives prog 255 #[vA #[vS x_0, vI x_1, vI x_2]] (vS r) := by
 unfold Oh at hM
 refine Aq follows func255 rfl 5 rfl _ fz1 (fun base0_ => ?_)
 refine Ai <| rA rfl fun b2 => rz rfl <| AY [0] rfl ?_
 cases hM
 exact aR eE1
def HW (N : Nat) (l' : List (List UInt8 × Int × Int)) : Nat → List (List UInt8) → Int → Option (List (List UInt8))
  | 0, _, _ => none
  | n9 + 1, s1_, x2_ => if x2_ < (l'.length : Int) then ck (0 ≤ x2_ ∧ x2_ < (l'.length : Int)) ((Oh N ((l'[x2_.toNat]!).1) ((l'[x2_.toNat]!).2.1) ((l'[x2_.toNat]!).2.2)).bind fun r17 => ck (0 ≤ x2_ ∧ x2_ < (s1_.length : Int)) (ck (-9223372036854775808 ≤ (x2_ + 1) ∧ (x2_ + 1) ≤ 9223372036854775807) ((HW N l' n9) ((s1_).set (x2_.toNat) r17) (x2_ + 1)))) else some s1_
def KU (N : Nat) (l' : List (List UInt8 × Int × Int)) : Option (List (List UInt8)) := ck (0 ≤ (l'.length : Int) ∧ (l'.length : Int) ≤ 8796093022208) (HW N l' N ((List.replicate ((l'.length : Int)).toNat ([]))) 0)
theorem WS (N l' r) (hM : KU N l' = some r) (ro l'v) (hl' : Rd Lf ro l'v l') : Does prog 328 #[l'v, vF 255 #[] #[]] ro [] (p1 (fun s_ => s_) 9 Bz r) := by
 unfold KU at hM
 refine Ac follows func328 rfl 26 rfl _ fz2 (fun base0_ => ?_)
 refine AZ rfl <| A_sc [(some 10, false)] (conG prog [(10, fun _ _ v_ L_ U_ => (p1 (fun v => v) 9 Bz (List.replicate ((l'.length : Int)).toNat ([]))) v_ L_ U_)]) <| rn 1 rfl <| rL (Rd.shp hl') rfl <| kC hM fun ck3 hM => Rs (Ls := []) 9 Bz ([]) (l'.length : Int) rfl rfl rfl rfl rfl rfl rfl rfl rfl rfl 8796093022208 rfl ck3 (fun _ _ _ _ _ => Iff.rfl) (fun s4 S5 H6 => ?_)
 refine rz rfl <| Aa fun K7 hK7 => Ai <| rn 1 rfl <| rL (Rd.shp hl') rfl <| rz rfl <| Aj <| Be _ (Sub.pick [S5] [0] rfl) <| AU (fun tt ll nn => ∃ (n9 : Nat) (s1_ : List (List UInt8)) (x2_ : Int), (HW N l' n9 s1_ x2_ = some r) ∧ ∃ (Ss1_ : List Bl), Sl 9 Bz s4 s1_ Ss1_ ∧ Is [(1, vF 255 #[] #[]), (5, s4), (11, l'v), (12, vI (l'.length : Int)), (13, vI x2_)] (List.flatten [Ss1_]) tt ll ∧ nn = n9 + 1) (N + 1) ?_ ?_
 ·exact ⟨N, (List.replicate ((l'.length : Int)).toNat ([])), 0, hM, S5, H6, Ak rfl rfl, rfl⟩
 clear hM; rintro t l _ ⟨n9, s1_, x2_, hM, Ss1_, hs1_, ⟨⟨T, rfl⟩, rfl⟩, rfl⟩
 rcases n9 with _ | n9
 ·exact absurd hM (by simp [HW])
 rw [HW] at hM
 refine AZ rfl <| Aa fun K11 hK11 => aD hM rfl (fun hc12 hM => ?_) (fun hc12 hM => ?_)
 ·refine Af <| hK11 _ _ ?_
  refine Aa fun K13 hK13 => Aj <| Ai <| rn 1 rfl <| kC hM fun ck15 hM => rI (Rd.shp hl') ck15 rfl <| rE (AA hl') ck15 0 rfl <| rA rfl fun b16 => ry [0] rfl <| Ar <| rm 4 [0] rfl <| kB hM fun r17 hr18 hM => rc _ (AO (caps := []) rfl fh rfl) (YJ N ((l'[x2_.toNat]!).1) ((l'[x2_.toNat]!).2.1) ((l'[x2_.toNat]!).2.2) _ hr18) <| kC hM fun ck19 hM => rI (Sl.shp hs1_) ck19 rfl <| Rr (Ls := [(LJ b16 ((l'[x2_.toNat]!).1) ((l'[x2_.toNat]!).2.1) ((l'[x2_.toNat]!).2.2)), Ss1_]) 1 (En := Bz) (s1_[x2_.toNat]!) r17 (x2_.toNat) 0 rfl rfl rfl hs1_ (CP ck19) rfl rfl rfl (HI rfl) rfl (fun S20 H21 => ?_)
  refine As <| hK13 _ _ ?_
  refine Ar <| kC hM fun ck22 hM => rX ck22 rfl <| rz rfl <| fg _ (Sub.pick [(LJ b16 ((l'[x2_.toNat]!).1) ((l'[x2_.toNat]!).2.1) ((l'[x2_.toNat]!).2.2)), S20] [1] rfl) ?_
  exact ⟨n9 + 1, by omega, n9, (s1_).set (x2_.toNat) r17, (x2_ + 1), hM, S20, H21, Ak rfl rfl, rfl⟩
 refine AS <| hK7 _ _ ?_
 refine AZ rfl ?_
 cases hM
 refine Au (fun hn => AG (v0 := s4) hs1_ (Aw (Sub.pick [Ss1_] [0] rfl)) rfl (AV rfl))
def Hn (N : Nat) (n : Int) : Option Int := (AE N n 1 8).bind fun r3 => (Al N r3 7).bind fun r5 => some r5
theorem Og (N n r) (hM : Hn N n = some r) : Gives prog 257 #[vI n] (vI r) := by
 unfold Hn at hM
 refine Aq follows func257 rfl 6 rfl _ fz1 (fun base0_ => ?_)
 refine AZ rfl <| Ai <| rn 1 rfl <| kB hM fun r3 hr4 hM => rc _ (cF Cd) (AJ N n 1 8 _ hr4) <| kB hM fun r5 hr6 hM => rc _ (cF AL) (Az N r3 7 _ hr6) <| rz rfl ?_
 cases hM
 exact aR eE1
def Mf (N : Nat) (_ : List UInt8) (x_1 : Int) (x_2 : Int) : Option Int := (Gr N x_1).bind fun r4 => (Hn N x_2).bind fun r6 => (AC N ([r4, r6])).bind fun r11 => some r11
theorem YI (N x_0 x_1 x_2 r) (hM : Mf N x_0 x_1 x_2 = some r) : Gives prog 256 #[vA #[vS x_0, vI x_1, vI x_2]] (vI r) := by
 unfold Mf at hM
 refine Aq follows func256 rfl 11 rfl _ fz1 (fun base0_ => ?_)
 refine Ai <| rA rfl fun b2 => rz rfl <| Aa fun K3 hK3 => BA [(some 9, false), (some 10, false)] (conG prog [(10, fun _ _ v_ L_ U_ => ∀ u0_, Gr N x_1 = some u0_ → ∀ u1_, Hn N x_2 = some u1_ → ∀ u2_, AC N ([u0_, u1_]) = some u2_ → (pV (vI u2_)) v_ L_ U_)]) [] (by decide +kernel) (fun hn => Ba) <| rm 2 [0] rfl <| kB hM fun r4 hr5 hM => rc _ (cF SP) (Md N x_1 _ hr5) <| rm 2 [0] rfl <| kB hM fun r6 hr7 hM => rc _ (cF SM) (Og N x_2 _ hr7) <| BF (Ls := [(LJ b2 x_0 x_1 x_2)]) 39 Bf [r4, r6] [vI r4, vI r6] [vI 0, vI 0] rfl rfl rfl rfl rfl rfl rfl (by kernel_rfl) (by kernel_rfl) rfl rfl rfl (fun s8 S9 H10 => ?_)
 refine kB hM fun r11 hr12 hM => rg _ (cF BV) (fun o w z_ => BD N ([r4, r6]) _ hr12 z_.view s8 ((Ap H10 (Ad (Ls := [(LJ b2 x_0 x_1 x_2), S9]) (k := 1) rfl rfl)) o w z_)) (fun _ _ v_ L_ U_ => ⟨fun h_ => h_ _ hr5 _ hr7 _ hr12, fun h_ => by intro _ e_; cases Option.some.inj (e_.symm.trans hr5); intro _ e_; cases Option.some.inj (e_.symm.trans hr7); intro _ e_; cases Option.some.inj (e_.symm.trans hr12); exact h_⟩) ?_
 refine rz rfl <| hK3 _ _ ?_
 cases hM
 exact aR eE1
def IQ (N : Nat) (i : Int) (x_0 : List UInt8) (x_1 : Int) (x_2 : Int) (c2_ : List (List UInt8)) : Option Int := ck (0 ≤ i ∧ i < (c2_.length : Int)) ((Df N (c2_[i.toNat]!)).bind fun r5 => (Al N r5 4).bind fun r7 => (Bb N c2_ i).bind fun r9 => (Mf N x_0 x_1 x_2).bind fun r11 => (AC N ([r7, r9, r11])).bind fun r16 => some r16)
theorem TJ (N i x_0 x_1 x_2 c2_ r) (hM : IQ N i x_0 x_1 x_2 c2_ = some r) (ro) (bc2_ : Nat) (c2_v) (hc2_ : Rd Bz ro c2_v c2_) (hbc2_ : Blk ro bc2_ [c2_v]) (bc3_ : Nat) (hbc3_ : Blk ro bc3_ [vF 256 #[] #[]]) : Does prog 330 #[vI i, vA #[vS x_0, vI x_1, vI x_2], vP bc2_ 0, vP bc3_ 0] ro [] (pV (vI r)) := by
 unfold IQ at hM
 refine Ac follows func330 rfl 21 rfl _ fz4 (fun base0_ => ?_)
 refine Ai <| rA rfl fun b2 => rz rfl <| Aa fun K3 hK3 => BA [(some 15, false), (some 19, false), (some 20, false)] (conG prog [(15, cV (Bb N c2_ i) fun u0_ => vI u0_), (20, fun _ _ v_ L_ U_ => ∀ u0_, Df N (c2_[i.toNat]!) = some u0_ → ∀ u1_, Al N u0_ 4 = some u1_ → ∀ u2_, Bb N c2_ i = some u2_ → ∀ u3_, Mf N x_0 x_1 x_2 = some u3_ → ∀ u4_, AC N ([u1_, u2_, u3_]) = some u4_ → (pV (vI u4_)) v_ L_ U_)]) [] (by decide +kernel) (fun hn => Ba) <| Ec c2_v (vs := [c2_v]) (o := 0) rfl rfl (AM hbc2_) rfl <| rn 1 rfl <| kC hM fun ck4 hM => rI (Rd.shp hc2_) ck4 rfl <| rE (AA hc2_) ck4 0 rfl <| kB hM fun r5 hr6 hM => rc _ (cF Kz) (Iz N (c2_[i.toNat]!) _ hr6) <| kB hM fun r7 hr8 hM => rc _ (cF AL) (Az N r5 4 _ hr8) <| Ec c2_v (vs := [c2_v]) (o := 0) rfl rfl (AM hbc2_) rfl <| rn 1 rfl <| kB hM fun r9 hr10 hM => rg _ (cF Jt) (fun o w z_ => Es N c2_ i _ hr10 z_.view c2_v (z_.r hc2_)) (Ao hr10) <| Ec (vF 256 #[] #[]) (vs := [vF 256 #[] #[]]) (o := 0) rfl rfl (AM hbc3_) rfl <| rm 1 [0] rfl <| kB hM fun r11 hr12 hM => rc _ (AO (caps := []) rfl ff rfl) (YI N x_0 x_1 x_2 _ hr12) ?_
 refine BF (Ls := [(LJ b2 x_0 x_1 x_2)]) 39 Bf [r7, r9, r11] [vI r7, vI r9, vI r11] [vI 0, vI 0, vI 0] rfl rfl rfl rfl rfl rfl rfl (by kernel_rfl) (by kernel_rfl) rfl rfl rfl (fun s13 S14 H15 => ?_)
 refine kB hM fun r16 hr17 hM => rg _ (cF BV) (fun o w z_ => BD N ([r7, r9, r11]) _ hr17 z_.view s13 ((Ap H15 (Ad (Ls := [(LJ b2 x_0 x_1 x_2), S14]) (k := 1) rfl rfl)) o w z_)) (fun _ _ v_ L_ U_ => ⟨fun h_ => h_ _ hr6 _ hr8 _ hr10 _ hr12 _ hr17, fun h_ => by intro _ e_; cases Option.some.inj (e_.symm.trans hr6); intro _ e_; cases Option.some.inj (e_.symm.trans hr8); intro _ e_; cases Option.some.inj (e_.symm.trans hr10); intro _ e_; cases Option.some.inj (e_.symm.trans hr12); intro _ e_; cases Option.some.inj (e_.symm.trans hr17); exact h_⟩) ?_
 refine rz rfl <| hK3 _ _ ?_
 cases hM
 exact aR eV1
def Ib (N : Nat) (l' : List (List UInt8 × Int × Int)) (ask0_ : List (List UInt8)) : Nat → Int → Option (Int × Int)
  | 0, _ => none
  | n8 + 1, x1_ => if x1_ < (l'.length : Int) then ck (0 ≤ x1_ ∧ x1_ < (l'.length : Int)) ((IQ N x1_ ((l'[x1_.toNat]!).1) ((l'[x1_.toNat]!).2.1) ((l'[x1_.toNat]!).2.2) ask0_).bind fun r17 => if (r17 : Int) ≠ 0 then some (x1_, r17) else ck (-9223372036854775808 ≤ (x1_ + 1) ∧ (x1_ + 1) ≤ 9223372036854775807) ((Ib N l' ask0_ n8) (x1_ + 1))) else some (0, 0)
def KX (N : Nat) (l' : List (List UInt8 × Int × Int)) (most : Int) (ask0_ : List (List UInt8)) : Option (Int × Int) := if (l'.length : Int) > most then some (0, 2) else Ib N l' ask0_ N 0
theorem WV (N l' most ask0_ r) (hM : KX N l' most ask0_ = some r) (ro l'v) (hl' : Rd Lf ro l'v l') (bask0_ : Nat) (ask0_v) (hask0_ : Rd Bz ro ask0_v ask0_) (hbask0_ : Blk ro bask0_ [ask0_v]) (bask1_ : Nat) (hbask1_ : Blk ro bask1_ [vF 256 #[] #[]]) : Does prog 329 #[l'v, vI most, vF 330 #[] #[vP bask0_ 0, vP bask1_ 0]] ro [] (pV (vT #[vI r.1, vI r.2])) := by
 unfold KX at hM
 refine Ac follows func329 rfl 31 rfl _ fz3 (fun base0_ => ?_)
 refine AZ rfl <| Aa fun K2 hK2 => Ai <| rn 1 rfl <| rL (Rd.shp hl') rfl <| rz rfl <| aD hM rfl (fun hc4 hM => ?_) (fun hc4 hM => ?_)
 ·refine AZ rfl ?_
  cases hM
  exact aR eV2
 refine Af <| hK2 _ _ ?_
 refine Aa fun K6 hK6 => Ai <| rn 1 rfl <| rL (Rd.shp hl') rfl <| rz rfl <| Aj <| AU (fun tt ll nn => ∃ (n8 : Nat) (x1_ : Int), (Ib N l' ask0_ n8 x1_ = some r) ∧ Is [(2, vF 330 #[] #[vP bask0_ 0, vP bask1_ 0]), (15, l'v), (16, vI (l'.length : Int)), (17, vI x1_)] [] tt ll ∧ nn = n8 + 1) (N + 1) ?_ ?_
 ·exact ⟨N, 0, hM, Ak rfl rfl, rfl⟩
 clear hM; rintro t l _ ⟨n8, x1_, hM, ⟨⟨T, rfl⟩, rfl⟩, rfl⟩
 rcases n8 with _ | n8
 ·exact absurd hM (by simp [Ib])
 rw [Ib] at hM
 refine AZ rfl <| Aa fun K10 hK10 => aD hM rfl (fun hc11 hM => ?_) (fun hc11 hM => ?_)
 ·refine Af <| hK10 _ _ ?_
  refine Aa fun K12 hK12 => Aj <| Ai <| rn 1 rfl <| kC hM fun ck14 hM => rI (Rd.shp hl') ck14 rfl <| rE (AA hl') ck14 0 rfl <| rA rfl fun b15 => ry [0] rfl <| A_sc [(some 25, false)] (conG prog [(25, cV (IQ N x1_ ((l'[x1_.toNat]!).1) ((l'[x1_.toNat]!).2.1) ((l'[x1_.toNat]!).2.2) ask0_) fun u0_ => vI u0_)]) <| rn 2 rfl ?_
  refine rm 1 [0] rfl <| kB hM fun r17 hr18 hM => rg _ (AO (caps := [vP bask0_ 0, vP bask1_ 0]) rfl ea rfl) (fun o w z_ => TJ N x1_ ((l'[x1_.toNat]!).1) ((l'[x1_.toNat]!).2.1) ((l'[x1_.toNat]!).2.2) ask0_ _ hr18 z_.view bask0_ ask0_v (z_.r hask0_) (AM hbask0_ o w z_) bask1_ (AM hbask1_ o w z_)) (Ao hr18) <| rz rfl <| AZ rfl <| aN hM rfl (fun hc20 hM => ?_) (fun hc20 hM => ?_)
  ·refine AZ rfl ?_
   cases hM
   exact aR eV2
  refine Af <| hK12 _ _ ?_
  refine Ar <| kC hM fun ck22 hM => rX ck22 rfl <| rz rfl <| fg _ (Sub.of (suC _ suN)) ?_
  exact ⟨n8 + 1, by omega, n8, (x1_ + 1), hM, Ak rfl rfl, rfl⟩
 refine AS <| hK6 _ _ ?_
 refine AZ rfl ?_
 cases hM
 exact aR eV2
def KT (N : Nat) (l' : List (List UInt8 × Int × Int)) (most : Int) : Option (Int × Int) := (KU N l').bind fun r4 => (KX N l' most r4).bind fun r11 => some (r11.1, r11.2)
theorem WR (N l' most r) (hM : KT N l' most = some r) (ro l'v) (hl' : Rd Lf ro l'v l') : Does prog 254 #[l'v, vI most, vF 255 #[] #[], vF 256 #[] #[]] ro [] (pV (vT #[vI r.1, vI r.2])) := by
 unfold KT at hM
 refine Ac follows func254 rfl 20 rfl _ fz4 (fun base0_ => ?_)
 refine Ai <| rA rfl fun b2 => rz rfl <| A_sc [(some 13, false)] (conG prog [(13, fun _ _ v_ L_ U_ => ∀ u0_, KU N l' = some u0_ → (p1 (fun s_ => s_) 9 Bz u0_) v_ L_ U_)]) <| rn 2 rfl <| kB hM fun r4 hr5 hM => AP (Ls := [(RM b2 (vF 256 #[] #[]))]) (fun s6 => s6) 9 Bz r4 328 _ rfl rfl rfl (cF ec) (fun o w z_ => WS N l' _ hr5 z_.view l'v ((AA hl') o w z_)) (Ao hr5) (fun s6 S7 H8 => ?_)
 refine rA rfl fun b9 => r_s (List.flatten [(Nv b9 s6), (RM b2 (vF 256 #[] #[])), S7]) 0 _ _ _ _ _ (#[s6]) rfl rfl rfl (AI rfl (Sl.shp H8)) (.ofS rfl rfl (Ab (Shp.one (Sl.shp H8)) Bh)) rfl rfl <| As <| A_sc [(some 17, false)] (conG prog [(17, cV (KX N l' most r4) fun u0_ => vT #[vI u0_.1, vI u0_.2])]) <| rn 2 rfl <| r_W (vF 330 #[] #[vP b9 0, vP b2 0]) rfl (EM rfl) <| kB hM fun r11 hr12 hM => rg _ (cF eb) (fun o w z_ => WV N l' most r4 _ hr12 z_.view l'v ((AA hl') o w z_) b9 s6 ((Ap H8 (Ad (Ls := [(Nv b9 s6), (RM b2 (vF 256 #[] #[])), S7]) (k := 2) rfl rfl)) o w z_) (BR 0 rfl rfl o w z_) b2 (BR 1 rfl rfl o w z_)) (Ao hr12) <| rz rfl ?_
 cases hM
 exact aR eV2
def MY (N : Nat) (c : AN) : Option (Int × Int) := (KT N c.2.2.2.2.2.2.2.2.2.2.2.2.1 8).bind fun r4 => some (r4.1, r4.2)
theorem WY (N c r) (hM : MY N c = some r) (ro) (cv : AH) (hc : Bun35R ro cv c) : Does prog 205 #[vA (Ag c cv)] ro [] (pV (vT #[vI r.1, vI r.2])) := by
 unfold MY at hM
 refine Ac follows func205 rfl 10 rfl _ fz1 (fun base0_ => ?_)
 refine Ai <| rA rfl fun b2 => rz rfl <| A_sc [(some 7, false)] (conG prog [(7, cV (KT N c.2.2.2.2.2.2.2.2.2.2.2.2.1 8) fun u0_ => vT #[vI u0_.1, vI u0_.2])]) <| rm 3 [0] rfl <| kB hM fun r4 hr5 hM => rg _ (cF fj) (fun o w z_ => WR N c.2.2.2.2.2.2.2.2.2.2.2.2.1 8 _ hr5 z_.view cv.2.2.2.2.2.2.2.2.2.2.2.1 ((AA hc.2.2.2.2.2.2.2.2.2.2.2.1) o w z_)) (Ao hr5) <| rz rfl ?_
 cases hM
 exact aR eV2
def Kr (_ : Nat) (x_0 : List UInt8) (_ : Int) : Option (List UInt8) := some x_0
theorem Ss (N x_0 x_1 r) (hM : Kr N x_0 x_1 = some r) : Gives prog 259 #[vA #[vS x_0, vI x_1]] (vS r) := by
 unfold Kr at hM
 refine Aq follows func259 rfl 5 rfl _ fz1 (fun base0_ => ?_)
 refine Ai <| rA rfl fun b2 => rz rfl <| AY [0] rfl ?_
 cases hM
 exact aR eE1
def EJ (N : Nat) (l' : List (List UInt8 × Int)) : Nat → List (List UInt8) → Int → Option (List (List UInt8))
  | 0, _, _ => none
  | n9 + 1, s1_, x2_ => if x2_ < (l'.length : Int) then ck (0 ≤ x2_ ∧ x2_ < (l'.length : Int)) ((Kr N ((l'[x2_.toNat]!).1) ((l'[x2_.toNat]!).2)).bind fun r17 => ck (0 ≤ x2_ ∧ x2_ < (s1_.length : Int)) (ck (-9223372036854775808 ≤ (x2_ + 1) ∧ (x2_ + 1) ≤ 9223372036854775807) ((EJ N l' n9) ((s1_).set (x2_.toNat) r17) (x2_ + 1)))) else some s1_
def Hd (N : Nat) (l' : List (List UInt8 × Int)) : Option (List (List UInt8)) := ck (0 ≤ (l'.length : Int) ∧ (l'.length : Int) ≤ 8796093022208) (EJ N l' N ((List.replicate ((l'.length : Int)).toNat ([]))) 0)
theorem QH (N l' r) (hM : Hd N l' = some r) (ro l'v) (hl' : Rd Le ro l'v l') : Does prog 331 #[l'v, vF 259 #[] #[]] ro [] (p1 (fun s_ => s_) 9 Bz r) := by
 unfold Hd at hM
 refine Ac follows func331 rfl 26 rfl _ fz2 (fun base0_ => ?_)
 refine AZ rfl <| A_sc [(some 10, false)] (conG prog [(10, fun _ _ v_ L_ U_ => (p1 (fun v => v) 9 Bz (List.replicate ((l'.length : Int)).toNat ([]))) v_ L_ U_)]) <| rn 1 rfl <| rL (Rd.shp hl') rfl <| kC hM fun ck3 hM => Rs (Ls := []) 9 Bz ([]) (l'.length : Int) rfl rfl rfl rfl rfl rfl rfl rfl rfl rfl 8796093022208 rfl ck3 (fun _ _ _ _ _ => Iff.rfl) (fun s4 S5 H6 => ?_)
 refine rz rfl <| Aa fun K7 hK7 => Ai <| rn 1 rfl <| rL (Rd.shp hl') rfl <| rz rfl <| Aj <| Be _ (Sub.pick [S5] [0] rfl) <| AU (fun tt ll nn => ∃ (n9 : Nat) (s1_ : List (List UInt8)) (x2_ : Int), (EJ N l' n9 s1_ x2_ = some r) ∧ ∃ (Ss1_ : List Bl), Sl 9 Bz s4 s1_ Ss1_ ∧ Is [(1, vF 259 #[] #[]), (5, s4), (11, l'v), (12, vI (l'.length : Int)), (13, vI x2_)] (List.flatten [Ss1_]) tt ll ∧ nn = n9 + 1) (N + 1) ?_ ?_
 ·exact ⟨N, (List.replicate ((l'.length : Int)).toNat ([])), 0, hM, S5, H6, Ak rfl rfl, rfl⟩
 clear hM; rintro t l _ ⟨n9, s1_, x2_, hM, Ss1_, hs1_, ⟨⟨T, rfl⟩, rfl⟩, rfl⟩
 rcases n9 with _ | n9
 ·exact absurd hM (by simp [EJ])
 rw [EJ] at hM
 refine AZ rfl <| Aa fun K11 hK11 => aD hM rfl (fun hc12 hM => ?_) (fun hc12 hM => ?_)
 ·refine Af <| hK11 _ _ ?_
  refine Aa fun K13 hK13 => Aj <| Ai <| rn 1 rfl <| kC hM fun ck15 hM => rI (Rd.shp hl') ck15 rfl <| rE (AA hl') ck15 0 rfl <| rA rfl fun b16 => ry [0] rfl <| Ar <| rm 4 [0] rfl <| kB hM fun r17 hr18 hM => rc _ (AO (caps := []) rfl fd rfl) (Ss N ((l'[x2_.toNat]!).1) ((l'[x2_.toNat]!).2) _ hr18) <| kC hM fun ck19 hM => rI (Sl.shp hs1_) ck19 rfl <| Rr (Ls := [(OP b16 ((l'[x2_.toNat]!).1) ((l'[x2_.toNat]!).2)), Ss1_]) 1 (En := Bz) (s1_[x2_.toNat]!) r17 (x2_.toNat) 0 rfl rfl rfl hs1_ (CP ck19) rfl rfl rfl (HI rfl) rfl (fun S20 H21 => ?_)
  refine As <| hK13 _ _ ?_
  refine Ar <| kC hM fun ck22 hM => rX ck22 rfl <| rz rfl <| fg _ (Sub.pick [(OP b16 ((l'[x2_.toNat]!).1) ((l'[x2_.toNat]!).2)), S20] [1] rfl) ?_
  exact ⟨n9 + 1, by omega, n9, (s1_).set (x2_.toNat) r17, (x2_ + 1), hM, S20, H21, Ak rfl rfl, rfl⟩
 refine AS <| hK7 _ _ ?_
 refine AZ rfl ?_
 cases hM
 refine Au (fun hn => AG (v0 := s4) hs1_ (Aw (Sub.pick [Ss1_] [0] rfl)) rfl (AV rfl))
def Ik (N : Nat) (_ : List UInt8) (x_1 : Int) : Option Int := (Hn N x_1).bind fun r4 => some r4
theorem Sr (N x_0 x_1 r) (hM : Ik N x_0 x_1 = some r) : Gives prog 260 #[vA #[vS x_0, vI x_1]] (vI r) := by
 unfold Ik at hM
 refine Aq follows func260 rfl 6 rfl _ fz1 (fun base0_ => ?_)
 refine Ai <| rA rfl fun b2 => rz rfl <| Ai <| rm 2 [0] rfl <| kB hM fun r4 hr5 hM => rc _ (cF SM) (Og N x_1 _ hr5) <| rz rfl ?_
 cases hM
 exact aR eE1
def Fw (N : Nat) (i : Int) (x_0 : List UInt8) (x_1 : Int) (c2_ : List (List UInt8)) : Option Int := ck (0 ≤ i ∧ i < (c2_.length : Int)) ((Df N (c2_[i.toNat]!)).bind fun r5 => (Al N r5 4).bind fun r7 => (Bb N c2_ i).bind fun r9 => (Ik N x_0 x_1).bind fun r11 => (AC N ([r7, r9, r11])).bind fun r16 => some r16)
theorem OX (N i x_0 x_1 c2_ r) (hM : Fw N i x_0 x_1 c2_ = some r) (ro) (bc2_ : Nat) (c2_v) (hc2_ : Rd Bz ro c2_v c2_) (hbc2_ : Blk ro bc2_ [c2_v]) (bc3_ : Nat) (hbc3_ : Blk ro bc3_ [vF 260 #[] #[]]) : Does prog 333 #[vI i, vA #[vS x_0, vI x_1], vP bc2_ 0, vP bc3_ 0] ro [] (pV (vI r)) := by
 unfold Fw at hM
 refine Ac follows func333 rfl 21 rfl _ fz4 (fun base0_ => ?_)
 refine Ai <| rA rfl fun b2 => rz rfl <| Aa fun K3 hK3 => BA [(some 15, false), (some 19, false), (some 20, false)] (conG prog [(15, cV (Bb N c2_ i) fun u0_ => vI u0_), (20, fun _ _ v_ L_ U_ => ∀ u0_, Df N (c2_[i.toNat]!) = some u0_ → ∀ u1_, Al N u0_ 4 = some u1_ → ∀ u2_, Bb N c2_ i = some u2_ → ∀ u3_, Ik N x_0 x_1 = some u3_ → ∀ u4_, AC N ([u1_, u2_, u3_]) = some u4_ → (pV (vI u4_)) v_ L_ U_)]) [] (by decide +kernel) (fun hn => Ba) <| Ec c2_v (vs := [c2_v]) (o := 0) rfl rfl (AM hbc2_) rfl <| rn 1 rfl <| kC hM fun ck4 hM => rI (Rd.shp hc2_) ck4 rfl <| rE (AA hc2_) ck4 0 rfl <| kB hM fun r5 hr6 hM => rc _ (cF Kz) (Iz N (c2_[i.toNat]!) _ hr6) <| kB hM fun r7 hr8 hM => rc _ (cF AL) (Az N r5 4 _ hr8) <| Ec c2_v (vs := [c2_v]) (o := 0) rfl rfl (AM hbc2_) rfl <| rn 1 rfl <| kB hM fun r9 hr10 hM => rg _ (cF Jt) (fun o w z_ => Es N c2_ i _ hr10 z_.view c2_v (z_.r hc2_)) (Ao hr10) <| Ec (vF 260 #[] #[]) (vs := [vF 260 #[] #[]]) (o := 0) rfl rfl (AM hbc3_) rfl <| rm 1 [0] rfl <| kB hM fun r11 hr12 hM => rc _ (AO (caps := []) rfl fc rfl) (Sr N x_0 x_1 _ hr12) ?_
 refine BF (Ls := [(OP b2 x_0 x_1)]) 39 Bf [r7, r9, r11] [vI r7, vI r9, vI r11] [vI 0, vI 0, vI 0] rfl rfl rfl rfl rfl rfl rfl (by kernel_rfl) (by kernel_rfl) rfl rfl rfl (fun s13 S14 H15 => ?_)
 refine kB hM fun r16 hr17 hM => rg _ (cF BV) (fun o w z_ => BD N ([r7, r9, r11]) _ hr17 z_.view s13 ((Ap H15 (Ad (Ls := [(OP b2 x_0 x_1), S14]) (k := 1) rfl rfl)) o w z_)) (fun _ _ v_ L_ U_ => ⟨fun h_ => h_ _ hr6 _ hr8 _ hr10 _ hr12 _ hr17, fun h_ => by intro _ e_; cases Option.some.inj (e_.symm.trans hr6); intro _ e_; cases Option.some.inj (e_.symm.trans hr8); intro _ e_; cases Option.some.inj (e_.symm.trans hr10); intro _ e_; cases Option.some.inj (e_.symm.trans hr12); intro _ e_; cases Option.some.inj (e_.symm.trans hr17); exact h_⟩) ?_
 refine rz rfl <| hK3 _ _ ?_
 cases hM
 exact aR eV1
def EK (N : Nat) (l' : List (List UInt8 × Int)) (ask0_ : List (List UInt8)) : Nat → Int → Option (Int × Int)
  | 0, _ => none
  | n8 + 1, x1_ => if x1_ < (l'.length : Int) then ck (0 ≤ x1_ ∧ x1_ < (l'.length : Int)) ((Fw N x1_ ((l'[x1_.toNat]!).1) ((l'[x1_.toNat]!).2) ask0_).bind fun r17 => if (r17 : Int) ≠ 0 then some (x1_, r17) else ck (-9223372036854775808 ≤ (x1_ + 1) ∧ (x1_ + 1) ≤ 9223372036854775807) ((EK N l' ask0_ n8) (x1_ + 1))) else some (0, 0)
def He (N : Nat) (l' : List (List UInt8 × Int)) (most : Int) (ask0_ : List (List UInt8)) : Option (Int × Int) := if (l'.length : Int) > most then some (0, 2) else EK N l' ask0_ N 0
theorem QI (N l' most ask0_ r) (hM : He N l' most ask0_ = some r) (ro l'v) (hl' : Rd Le ro l'v l') (bask0_ : Nat) (ask0_v) (hask0_ : Rd Bz ro ask0_v ask0_) (hbask0_ : Blk ro bask0_ [ask0_v]) (bask1_ : Nat) (hbask1_ : Blk ro bask1_ [vF 260 #[] #[]]) : Does prog 332 #[l'v, vI most, vF 333 #[] #[vP bask0_ 0, vP bask1_ 0]] ro [] (pV (vT #[vI r.1, vI r.2])) := by
 unfold He at hM
 refine Ac follows func332 rfl 31 rfl _ fz3 (fun base0_ => ?_)
 refine AZ rfl <| Aa fun K2 hK2 => Ai <| rn 1 rfl <| rL (Rd.shp hl') rfl <| rz rfl <| aD hM rfl (fun hc4 hM => ?_) (fun hc4 hM => ?_)
 ·refine AZ rfl ?_
  cases hM
  exact aR eV2
 refine Af <| hK2 _ _ ?_
 refine Aa fun K6 hK6 => Ai <| rn 1 rfl <| rL (Rd.shp hl') rfl <| rz rfl <| Aj <| AU (fun tt ll nn => ∃ (n8 : Nat) (x1_ : Int), (EK N l' ask0_ n8 x1_ = some r) ∧ Is [(2, vF 333 #[] #[vP bask0_ 0, vP bask1_ 0]), (15, l'v), (16, vI (l'.length : Int)), (17, vI x1_)] [] tt ll ∧ nn = n8 + 1) (N + 1) ?_ ?_
 ·exact ⟨N, 0, hM, Ak rfl rfl, rfl⟩
 clear hM; rintro t l _ ⟨n8, x1_, hM, ⟨⟨T, rfl⟩, rfl⟩, rfl⟩
 rcases n8 with _ | n8
 ·exact absurd hM (by simp [EK])
 rw [EK] at hM
 refine AZ rfl <| Aa fun K10 hK10 => aD hM rfl (fun hc11 hM => ?_) (fun hc11 hM => ?_)
 ·refine Af <| hK10 _ _ ?_
  refine Aa fun K12 hK12 => Aj <| Ai <| rn 1 rfl <| kC hM fun ck14 hM => rI (Rd.shp hl') ck14 rfl <| rE (AA hl') ck14 0 rfl <| rA rfl fun b15 => ry [0] rfl <| A_sc [(some 25, false)] (conG prog [(25, cV (Fw N x1_ ((l'[x1_.toNat]!).1) ((l'[x1_.toNat]!).2) ask0_) fun u0_ => vI u0_)]) <| rm 3 [0] rfl <| kB hM fun r17 hr18 hM => rg _ (AO (caps := [vP bask0_ 0, vP bask1_ 0]) rfl dX rfl) (fun o w z_ => OX N x1_ ((l'[x1_.toNat]!).1) ((l'[x1_.toNat]!).2) ask0_ _ hr18 z_.view bask0_ ask0_v (z_.r hask0_) (AM hbask0_ o w z_) bask1_ (AM hbask1_ o w z_)) (Ao hr18) <| rz rfl <| AZ rfl <| aN hM rfl (fun hc20 hM => ?_) (fun hc20 hM => ?_)
  ·refine AZ rfl ?_
   cases hM
   exact aR eV2
  refine Af <| hK12 _ _ ?_
  refine Ar <| kC hM fun ck22 hM => rX ck22 rfl <| rz rfl <| fg _ (Sub.of (suC _ suN)) ?_
  exact ⟨n8 + 1, by omega, n8, (x1_ + 1), hM, Ak rfl rfl, rfl⟩
 refine AS <| hK6 _ _ ?_
 refine AZ rfl ?_
 cases hM
 exact aR eV2
def Hc (N : Nat) (l' : List (List UInt8 × Int)) (most : Int) : Option (Int × Int) := (Hd N l').bind fun r4 => (He N l' most r4).bind fun r11 => some (r11.1, r11.2)
theorem QG (N l' most r) (hM : Hc N l' most = some r) (ro l'v) (hl' : Rd Le ro l'v l') : Does prog 258 #[l'v, vI most, vF 259 #[] #[], vF 260 #[] #[]] ro [] (pV (vT #[vI r.1, vI r.2])) := by
 unfold Hc at hM
 refine Ac follows func258 rfl 20 rfl _ fz4 (fun base0_ => ?_)
 refine Ai <| rA rfl fun b2 => rz rfl <| A_sc [(some 13, false)] (conG prog [(13, fun _ _ v_ L_ U_ => ∀ u0_, Hd N l' = some u0_ → (p1 (fun s_ => s_) 9 Bz u0_) v_ L_ U_)]) <| rn 2 rfl <| kB hM fun r4 hr5 hM => AP (Ls := [(RK b2 (vF 260 #[] #[]))]) (fun s6 => s6) 9 Bz r4 331 _ rfl rfl rfl (cF dZ) (fun o w z_ => QH N l' _ hr5 z_.view l'v ((AA hl') o w z_)) (Ao hr5) (fun s6 S7 H8 => ?_)
 refine rA rfl fun b9 => r_s (List.flatten [(Nv b9 s6), (RK b2 (vF 260 #[] #[])), S7]) 0 _ _ _ _ _ (#[s6]) rfl rfl rfl (AI rfl (Sl.shp H8)) (.ofS rfl rfl (Ab (Shp.one (Sl.shp H8)) Bh)) rfl rfl <| As <| A_sc [(some 17, false)] (conG prog [(17, cV (He N l' most r4) fun u0_ => vT #[vI u0_.1, vI u0_.2])]) <| rn 2 rfl <| r_W (vF 333 #[] #[vP b9 0, vP b2 0]) rfl (EM rfl) <| kB hM fun r11 hr12 hM => rg _ (cF dY) (fun o w z_ => QI N l' most r4 _ hr12 z_.view l'v ((AA hl') o w z_) b9 s6 ((Ap H8 (Ad (Ls := [(Nv b9 s6), (RK b2 (vF 260 #[] #[])), S7]) (k := 2) rfl rfl)) o w z_) (BR 0 rfl rfl o w z_) b2 (BR 1 rfl rfl o w z_)) (Ao hr12) <| rz rfl ?_
 cases hM
 exact aR eV2
def JA (N : Nat) (c : AN) : Option (Int × Int) := (Hc N c.2.2.2.2.2.2.2.2.2.2.2.2.2.1 8).bind fun r4 => some (r4.1, r4.2)
theorem QO (N c r) (hM : JA N c = some r) (ro) (cv : AH) (hc : Bun35R ro cv c) : Does prog 206 #[vA (Ag c cv)] ro [] (pV (vT #[vI r.1, vI r.2])) := by
 unfold JA at hM
 refine Ac follows func206 rfl 10 rfl _ fz1 (fun base0_ => ?_)
 refine Ai <| rA rfl fun b2 => rz rfl <| A_sc [(some 7, false)] (conG prog [(7, cV (Hc N c.2.2.2.2.2.2.2.2.2.2.2.2.2.1 8) fun u0_ => vT #[vI u0_.1, vI u0_.2])]) <| rm 3 [0] rfl <| kB hM fun r4 hr5 hM => rg _ (cF fe) (fun o w z_ => QG N c.2.2.2.2.2.2.2.2.2.2.2.2.2.1 8 _ hr5 z_.view cv.2.2.2.2.2.2.2.2.2.2.2.2.1 ((AA hc.2.2.2.2.2.2.2.2.2.2.2.2.1) o w z_)) (Ao hr5) <| rz rfl ?_
 cases hM
 exact aR eV2
def Mh (_ : Nat) (x_0 : List UInt8) (_ : Int) (_ : Int) (_ : Int) : Option (List UInt8) := some x_0
theorem VD (N x_0 x_1 x_2 x_3 r) (hM : Mh N x_0 x_1 x_2 x_3 = some r) : Gives prog 262 #[vA #[vS x_0, vI x_1, vI x_2, vI x_3]] (vS r) := by
 unfold Mh at hM
 refine Aq follows func262 rfl 5 rfl _ fz1 (fun base0_ => ?_)
 refine Ai <| rA rfl fun b2 => rz rfl <| AY [0] rfl ?_
 cases hM
 exact aR eE1
def FU (N : Nat) (l' : List (List UInt8 × Int × Int × Int)) : Nat → List (List UInt8) → Int → Option (List (List UInt8))
  | 0, _, _ => none
  | n9 + 1, s1_, x2_ => if x2_ < (l'.length : Int) then ck (0 ≤ x2_ ∧ x2_ < (l'.length : Int)) ((Mh N ((l'[x2_.toNat]!).1) ((l'[x2_.toNat]!).2.1) ((l'[x2_.toNat]!).2.2.1) ((l'[x2_.toNat]!).2.2.2)).bind fun r17 => ck (0 ≤ x2_ ∧ x2_ < (s1_.length : Int)) (ck (-9223372036854775808 ≤ (x2_ + 1) ∧ (x2_ + 1) ≤ 9223372036854775807) ((FU N l' n9) ((s1_).set (x2_.toNat) r17) (x2_ + 1)))) else some s1_
def IV (N : Nat) (l' : List (List UInt8 × Int × Int × Int)) : Option (List (List UInt8)) := ck (0 ≤ (l'.length : Int) ∧ (l'.length : Int) ≤ 8796093022208) (FU N l' N ((List.replicate ((l'.length : Int)).toNat ([]))) 0)
theorem TO (N l' r) (hM : IV N l' = some r) (ro l'v) (hl' : Rd Ld ro l'v l') : Does prog 334 #[l'v, vF 262 #[] #[]] ro [] (p1 (fun s_ => s_) 9 Bz r) := by
 unfold IV at hM
 refine Ac follows func334 rfl 26 rfl _ fz2 (fun base0_ => ?_)
 refine AZ rfl <| A_sc [(some 10, false)] (conG prog [(10, fun _ _ v_ L_ U_ => (p1 (fun v => v) 9 Bz (List.replicate ((l'.length : Int)).toNat ([]))) v_ L_ U_)]) <| rn 1 rfl <| rL (Rd.shp hl') rfl <| kC hM fun ck3 hM => Rs (Ls := []) 9 Bz ([]) (l'.length : Int) rfl rfl rfl rfl rfl rfl rfl rfl rfl rfl 8796093022208 rfl ck3 (fun _ _ _ _ _ => Iff.rfl) (fun s4 S5 H6 => ?_)
 refine rz rfl <| Aa fun K7 hK7 => Ai <| rn 1 rfl <| rL (Rd.shp hl') rfl <| rz rfl <| Aj <| Be _ (Sub.pick [S5] [0] rfl) <| AU (fun tt ll nn => ∃ (n9 : Nat) (s1_ : List (List UInt8)) (x2_ : Int), (FU N l' n9 s1_ x2_ = some r) ∧ ∃ (Ss1_ : List Bl), Sl 9 Bz s4 s1_ Ss1_ ∧ Is [(1, vF 262 #[] #[]), (5, s4), (11, l'v), (12, vI (l'.length : Int)), (13, vI x2_)] (List.flatten [Ss1_]) tt ll ∧ nn = n9 + 1) (N + 1) ?_ ?_
 ·exact ⟨N, (List.replicate ((l'.length : Int)).toNat ([])), 0, hM, S5, H6, Ak rfl rfl, rfl⟩
 clear hM; rintro t l _ ⟨n9, s1_, x2_, hM, Ss1_, hs1_, ⟨⟨T, rfl⟩, rfl⟩, rfl⟩
 rcases n9 with _ | n9
 ·exact absurd hM (by simp [FU])
 rw [FU] at hM
 refine AZ rfl <| Aa fun K11 hK11 => aD hM rfl (fun hc12 hM => ?_) (fun hc12 hM => ?_)
 ·refine Af <| hK11 _ _ ?_
  refine Aa fun K13 hK13 => Aj <| Ai <| rn 1 rfl <| kC hM fun ck15 hM => rI (Rd.shp hl') ck15 rfl <| rE (AA hl') ck15 0 rfl <| rA rfl fun b16 => ry [0] rfl <| Ar <| rm 4 [0] rfl <| kB hM fun r17 hr18 hM => rc _ (AO (caps := []) rfl fa rfl) (VD N ((l'[x2_.toNat]!).1) ((l'[x2_.toNat]!).2.1) ((l'[x2_.toNat]!).2.2.1) ((l'[x2_.toNat]!).2.2.2) _ hr18) <| kC hM fun ck19 hM => rI (Sl.shp hs1_) ck19 rfl <| Rr (Ls := [(Kk b16 ((l'[x2_.toNat]!).1) ((l'[x2_.toNat]!).2.1) ((l'[x2_.toNat]!).2.2.1) ((l'[x2_.toNat]!).2.2.2)), Ss1_]) 1 (En := Bz) (s1_[x2_.toNat]!) r17 (x2_.toNat) 0 rfl rfl rfl hs1_ (CP ck19) rfl rfl rfl (HI rfl) rfl (fun S20 H21 => ?_)
  refine As <| hK13 _ _ ?_
  refine Ar <| kC hM fun ck22 hM => rX ck22 rfl <| rz rfl <| fg _ (Sub.pick [(Kk b16 ((l'[x2_.toNat]!).1) ((l'[x2_.toNat]!).2.1) ((l'[x2_.toNat]!).2.2.1) ((l'[x2_.toNat]!).2.2.2)), S20] [1] rfl) ?_
  exact ⟨n9 + 1, by omega, n9, (s1_).set (x2_.toNat) r17, (x2_ + 1), hM, S20, H21, Ak rfl rfl, rfl⟩
 refine AS <| hK7 _ _ ?_
 refine AZ rfl ?_
 cases hM
 refine Au (fun hn => AG (v0 := s4) hs1_ (Aw (Sub.pick [Ss1_] [0] rfl)) rfl (AV rfl))
def Jc (N : Nat) (x_1 : Int) (inRange1_ : Bool) : Option Int := (Hn N x_1).bind fun r4 => (Al N inRange1_ 7).bind fun r6 => (AC N ([r4, r6])).bind fun r11 => some r11
def JN (N : Nat) (_ : List UInt8) (x_1 : Int) (x_2 : Int) (x_3 : Int) : Option Int := (AE N x_2 0 65535).bind fun r13 => if r13 = true then (AE N x_3 1 1048576).bind fun r16 => Jc N x_1 r16 else Jc N x_1 false
theorem VC (N x_0 x_1 x_2 x_3 r) (hM : JN N x_0 x_1 x_2 x_3 = some r) : Gives prog 263 #[vA #[vS x_0, vI x_1, vI x_2, vI x_3]] (vI r) := by
 unfold JN at hM
 refine Aq follows func263 rfl 19 rfl _ fz1 (fun base0_ => ?_)
 refine Ai <| rA rfl fun b2 => rz rfl <| Cr (fun tt ll => ∃ (inRange1_ : Bool), (Jc N x_1 inRange1_ = some r) ∧ Is [(1, vP b2 0), (3, vB inRange1_)] (Kk b2 x_0 x_1 x_2 x_3) tt ll) ?_ ?_
 ·refine Ar <| rm 2 [0] rfl <| kB hM fun r13 hr14 hM => rc _ (cF Cd) (AJ N x_2 0 65535 _ hr14) <| rn 1 rfl ?_
  rcases hg15 : r13 with _ | _
  ·replace hM := iB hg15 hM
   refine rz rfl <| fg _ (Sub.of (suK _ suN)) ?_
   exact ⟨false, hM, Ak (by first | rfl | (simp only [hg15]; done) | (simp only [hg15]; rfl) | (simp only [CZ]; rfl)) rfl⟩
  replace hM := ifp hg15 hM
  refine rn 1 rfl <| r_y rfl <| rm 1 [0] rfl <| r_y rfl <| kB hM fun r16 hr17 hM => rc _ (cF Cd) (AJ N x_3 1 1048576 _ hr17) <| rz rfl <| fg _ (Sub.of (suK _ suN)) ?_
  exact ⟨r16, hM, Ak (by first | rfl | (simp only [hg15]; done) | (simp only [hg15]; rfl) | (simp only [CZ]; rfl)) rfl⟩
 clear hM; rintro t l ⟨inRange1_, hM, ⟨T, rfl⟩, rfl⟩
 unfold Jc at hM
 refine A_sc [(some 17, false), (some 18, false)] (conG prog [(18, fun _ _ v_ L_ U_ => ∀ u0_, Hn N x_1 = some u0_ → ∀ u1_, Al N inRange1_ 7 = some u1_ → ∀ u2_, AC N ([u0_, u1_]) = some u2_ → (pV (vI u2_)) v_ L_ U_)]) <| rm 2 [0] rfl <| kB hM fun r4 hr5 hM => rc _ (cF SM) (Og N x_1 _ hr5) <| rn 1 rfl <| kB hM fun r6 hr7 hM => rc _ (cF AL) (Az N inRange1_ 7 _ hr7) <| BF (Ls := [(Kk b2 x_0 x_1 x_2 x_3)]) 39 Bf [r4, r6] [vI r4, vI r6] [vI 0, vI 0] rfl rfl rfl rfl rfl rfl rfl (by kernel_rfl) (by kernel_rfl) rfl rfl rfl (fun s8 S9 H10 => ?_)
 refine kB hM fun r11 hr12 hM => rg _ (cF BV) (fun o w z_ => BD N ([r4, r6]) _ hr12 z_.view s8 ((Ap H10 (Ad (Ls := [(Kk b2 x_0 x_1 x_2 x_3), S9]) (k := 1) rfl rfl)) o w z_)) (fun _ _ v_ L_ U_ => ⟨fun h_ => h_ _ hr5 _ hr7 _ hr12, fun h_ => by intro _ e_; cases Option.some.inj (e_.symm.trans hr5); intro _ e_; cases Option.some.inj (e_.symm.trans hr7); intro _ e_; cases Option.some.inj (e_.symm.trans hr12); exact h_⟩) ?_
 refine rz rfl ?_
 cases hM
 exact aR eE1
def Ha (N : Nat) (i : Int) (x_0 : List UInt8) (x_1 : Int) (x_2 : Int) (x_3 : Int) (c2_ : List (List UInt8)) : Option Int := ck (0 ≤ i ∧ i < (c2_.length : Int)) ((Df N (c2_[i.toNat]!)).bind fun r5 => (Al N r5 4).bind fun r7 => (Bb N c2_ i).bind fun r9 => (JN N x_0 x_1 x_2 x_3).bind fun r11 => (AC N ([r7, r9, r11])).bind fun r16 => some r16)
theorem QE (N i x_0 x_1 x_2 x_3 c2_ r) (hM : Ha N i x_0 x_1 x_2 x_3 c2_ = some r) (ro) (bc2_ : Nat) (c2_v) (hc2_ : Rd Bz ro c2_v c2_) (hbc2_ : Blk ro bc2_ [c2_v]) (bc3_ : Nat) (hbc3_ : Blk ro bc3_ [vF 263 #[] #[]]) : Does prog 336 #[vI i, vA #[vS x_0, vI x_1, vI x_2, vI x_3], vP bc2_ 0, vP bc3_ 0] ro [] (pV (vI r)) := by
 unfold Ha at hM
 refine Ac follows func336 rfl 21 rfl _ fz4 (fun base0_ => ?_)
 refine Ai <| rA rfl fun b2 => rz rfl <| Aa fun K3 hK3 => BA [(some 15, false), (some 19, false), (some 20, false)] (conG prog [(15, cV (Bb N c2_ i) fun u0_ => vI u0_), (20, fun _ _ v_ L_ U_ => ∀ u0_, Df N (c2_[i.toNat]!) = some u0_ → ∀ u1_, Al N u0_ 4 = some u1_ → ∀ u2_, Bb N c2_ i = some u2_ → ∀ u3_, JN N x_0 x_1 x_2 x_3 = some u3_ → ∀ u4_, AC N ([u1_, u2_, u3_]) = some u4_ → (pV (vI u4_)) v_ L_ U_)]) [] (by decide +kernel) (fun hn => Ba) <| Ec c2_v (vs := [c2_v]) (o := 0) rfl rfl (AM hbc2_) rfl <| rn 1 rfl <| kC hM fun ck4 hM => rI (Rd.shp hc2_) ck4 rfl <| rE (AA hc2_) ck4 0 rfl <| kB hM fun r5 hr6 hM => rc _ (cF Kz) (Iz N (c2_[i.toNat]!) _ hr6) <| kB hM fun r7 hr8 hM => rc _ (cF AL) (Az N r5 4 _ hr8) <| Ec c2_v (vs := [c2_v]) (o := 0) rfl rfl (AM hbc2_) rfl <| rn 1 rfl <| kB hM fun r9 hr10 hM => rg _ (cF Jt) (fun o w z_ => Es N c2_ i _ hr10 z_.view c2_v (z_.r hc2_)) (Ao hr10) <| Ec (vF 263 #[] #[]) (vs := [vF 263 #[] #[]]) (o := 0) rfl rfl (AM hbc3_) rfl <| rm 1 [0] rfl <| kB hM fun r11 hr12 hM => rc _ (AO (caps := []) rfl eZ rfl) (VC N x_0 x_1 x_2 x_3 _ hr12) ?_
 refine BF (Ls := [(Kk b2 x_0 x_1 x_2 x_3)]) 39 Bf [r7, r9, r11] [vI r7, vI r9, vI r11] [vI 0, vI 0, vI 0] rfl rfl rfl rfl rfl rfl rfl (by kernel_rfl) (by kernel_rfl) rfl rfl rfl (fun s13 S14 H15 => ?_)
 refine kB hM fun r16 hr17 hM => rg _ (cF BV) (fun o w z_ => BD N ([r7, r9, r11]) _ hr17 z_.view s13 ((Ap H15 (Ad (Ls := [(Kk b2 x_0 x_1 x_2 x_3), S14]) (k := 1) rfl rfl)) o w z_)) (fun _ _ v_ L_ U_ => ⟨fun h_ => h_ _ hr6 _ hr8 _ hr10 _ hr12 _ hr17, fun h_ => by intro _ e_; cases Option.some.inj (e_.symm.trans hr6); intro _ e_; cases Option.some.inj (e_.symm.trans hr8); intro _ e_; cases Option.some.inj (e_.symm.trans hr10); intro _ e_; cases Option.some.inj (e_.symm.trans hr12); intro _ e_; cases Option.some.inj (e_.symm.trans hr17); exact h_⟩) ?_
 refine rz rfl <| hK3 _ _ ?_
 cases hM
 exact aR eV1
def FY (N : Nat) (l' : List (List UInt8 × Int × Int × Int)) (ask0_ : List (List UInt8)) : Nat → Int → Option (Int × Int)
  | 0, _ => none
  | n8 + 1, x1_ => if x1_ < (l'.length : Int) then ck (0 ≤ x1_ ∧ x1_ < (l'.length : Int)) ((Ha N x1_ ((l'[x1_.toNat]!).1) ((l'[x1_.toNat]!).2.1) ((l'[x1_.toNat]!).2.2.1) ((l'[x1_.toNat]!).2.2.2) ask0_).bind fun r17 => if (r17 : Int) ≠ 0 then some (x1_, r17) else ck (-9223372036854775808 ≤ (x1_ + 1) ∧ (x1_ + 1) ≤ 9223372036854775807) ((FY N l' ask0_ n8) (x1_ + 1))) else some (0, 0)
def IZ (N : Nat) (l' : List (List UInt8 × Int × Int × Int)) (most : Int) (ask0_ : List (List UInt8)) : Option (Int × Int) := if (l'.length : Int) > most then some (0, 2) else FY N l' ask0_ N 0
theorem TS (N l' most ask0_ r) (hM : IZ N l' most ask0_ = some r) (ro l'v) (hl' : Rd Ld ro l'v l') (bask0_ : Nat) (ask0_v) (hask0_ : Rd Bz ro ask0_v ask0_) (hbask0_ : Blk ro bask0_ [ask0_v]) (bask1_ : Nat) (hbask1_ : Blk ro bask1_ [vF 263 #[] #[]]) : Does prog 335 #[l'v, vI most, vF 336 #[] #[vP bask0_ 0, vP bask1_ 0]] ro [] (pV (vT #[vI r.1, vI r.2])) := by
 unfold IZ at hM
 refine Ac follows func335 rfl 31 rfl _ fz3 (fun base0_ => ?_)
 refine AZ rfl <| Aa fun K2 hK2 => Ai <| rn 1 rfl <| rL (Rd.shp hl') rfl <| rz rfl <| aD hM rfl (fun hc4 hM => ?_) (fun hc4 hM => ?_)
 ·refine AZ rfl ?_
  cases hM
  exact aR eV2
 refine Af <| hK2 _ _ ?_
 refine Aa fun K6 hK6 => Ai <| rn 1 rfl <| rL (Rd.shp hl') rfl <| rz rfl <| Aj <| AU (fun tt ll nn => ∃ (n8 : Nat) (x1_ : Int), (FY N l' ask0_ n8 x1_ = some r) ∧ Is [(2, vF 336 #[] #[vP bask0_ 0, vP bask1_ 0]), (15, l'v), (16, vI (l'.length : Int)), (17, vI x1_)] [] tt ll ∧ nn = n8 + 1) (N + 1) ?_ ?_
 ·exact ⟨N, 0, hM, Ak rfl rfl, rfl⟩
 clear hM; rintro t l _ ⟨n8, x1_, hM, ⟨⟨T, rfl⟩, rfl⟩, rfl⟩
 rcases n8 with _ | n8
 ·exact absurd hM (by simp [FY])
 rw [FY] at hM
 refine AZ rfl <| Aa fun K10 hK10 => aD hM rfl (fun hc11 hM => ?_) (fun hc11 hM => ?_)
 ·refine Af <| hK10 _ _ ?_
  refine Aa fun K12 hK12 => Aj <| Ai <| rn 1 rfl <| kC hM fun ck14 hM => rI (Rd.shp hl') ck14 rfl <| rE (AA hl') ck14 0 rfl <| rA rfl fun b15 => ry [0] rfl <| A_sc [(some 25, false)] (conG prog [(25, cV (Ha N x1_ ((l'[x1_.toNat]!).1) ((l'[x1_.toNat]!).2.1) ((l'[x1_.toNat]!).2.2.1) ((l'[x1_.toNat]!).2.2.2) ask0_) fun u0_ => vI u0_)]) ?_
  refine rm 3 [0] rfl <| kB hM fun r17 hr18 hM => rg _ (AO (caps := [vP bask0_ 0, vP bask1_ 0]) rfl dU rfl) (fun o w z_ => QE N x1_ ((l'[x1_.toNat]!).1) ((l'[x1_.toNat]!).2.1) ((l'[x1_.toNat]!).2.2.1) ((l'[x1_.toNat]!).2.2.2) ask0_ _ hr18 z_.view bask0_ ask0_v (z_.r hask0_) (AM hbask0_ o w z_) bask1_ (AM hbask1_ o w z_)) (Ao hr18) <| rz rfl <| AZ rfl <| aN hM rfl (fun hc20 hM => ?_) (fun hc20 hM => ?_)
  ·refine AZ rfl ?_
   cases hM
   exact aR eV2
  refine Af <| hK12 _ _ ?_
  refine Ar <| kC hM fun ck22 hM => rX ck22 rfl <| rz rfl <| fg _ (Sub.of (suC _ suN)) ?_
  exact ⟨n8 + 1, by omega, n8, (x1_ + 1), hM, Ak rfl rfl, rfl⟩
 refine AS <| hK6 _ _ ?_
 refine AZ rfl ?_
 cases hM
 exact aR eV2
def IR (N : Nat) (l' : List (List UInt8 × Int × Int × Int)) (most : Int) : Option (Int × Int) := (IV N l').bind fun r4 => (IZ N l' most r4).bind fun r11 => some (r11.1, r11.2)
theorem TK (N l' most r) (hM : IR N l' most = some r) (ro l'v) (hl' : Rd Ld ro l'v l') : Does prog 261 #[l'v, vI most, vF 262 #[] #[], vF 263 #[] #[]] ro [] (pV (vT #[vI r.1, vI r.2])) := by
 unfold IR at hM
 refine Ac follows func261 rfl 20 rfl _ fz4 (fun base0_ => ?_)
 refine Ai <| rA rfl fun b2 => rz rfl <| A_sc [(some 13, false)] (conG prog [(13, fun _ _ v_ L_ U_ => ∀ u0_, IV N l' = some u0_ → (p1 (fun s_ => s_) 9 Bz u0_) v_ L_ U_)]) <| rn 2 rfl <| kB hM fun r4 hr5 hM => AP (Ls := [(RJ b2 (vF 263 #[] #[]))]) (fun s6 => s6) 9 Bz r4 334 _ rfl rfl rfl (cF dW) (fun o w z_ => TO N l' _ hr5 z_.view l'v ((AA hl') o w z_)) (Ao hr5) (fun s6 S7 H8 => ?_)
 refine rA rfl fun b9 => r_s (List.flatten [(Nv b9 s6), (RJ b2 (vF 263 #[] #[])), S7]) 0 _ _ _ _ _ (#[s6]) rfl rfl rfl (AI rfl (Sl.shp H8)) (.ofS rfl rfl (Ab (Shp.one (Sl.shp H8)) Bh)) rfl rfl <| As <| A_sc [(some 17, false)] (conG prog [(17, cV (IZ N l' most r4) fun u0_ => vT #[vI u0_.1, vI u0_.2])]) <| rn 2 rfl <| r_W (vF 336 #[] #[vP b9 0, vP b2 0]) rfl (EM rfl) <| kB hM fun r11 hr12 hM => rg _ (cF dV) (fun o w z_ => TS N l' most r4 _ hr12 z_.view l'v ((AA hl') o w z_) b9 s6 ((Ap H8 (Ad (Ls := [(Nv b9 s6), (RJ b2 (vF 263 #[] #[])), S7]) (k := 2) rfl rfl)) o w z_) (BR 0 rfl rfl o w z_) b2 (BR 1 rfl rfl o w z_)) (Ao hr12) <| rz rfl ?_
 cases hM
 exact aR eV2
def Lw (N : Nat) (c : AN) : Option (Int × Int) := (IR N c.2.2.2.2.2.2.2.2.2.2.2.2.2.2.1 8).bind fun r4 => some (r4.1, r4.2)
theorem TX (N c r) (hM : Lw N c = some r) (ro) (cv : AH) (hc : Bun35R ro cv c) : Does prog 207 #[vA (Ag c cv)] ro [] (pV (vT #[vI r.1, vI r.2])) := by
 unfold Lw at hM
 refine Ac follows func207 rfl 10 rfl _ fz1 (fun base0_ => ?_)
 refine Ai <| rA rfl fun b2 => rz rfl <| A_sc [(some 7, false)] (conG prog [(7, cV (IR N c.2.2.2.2.2.2.2.2.2.2.2.2.2.2.1 8) fun u0_ => vT #[vI u0_.1, vI u0_.2])]) <| rm 3 [0] rfl <| kB hM fun r4 hr5 hM => rg _ (cF fb) (fun o w z_ => TK N c.2.2.2.2.2.2.2.2.2.2.2.2.2.2.1 8 _ hr5 z_.view cv.2.2.2.2.2.2.2.2.2.2.2.2.2 ((AA hc.2.2.2.2.2.2.2.2.2.2.2.2.2) o w z_)) (Ao hr5) <| rz rfl ?_
 cases hM
 exact aR eV2
inductive Sum158 where
  | nil
  | t241 (x0 : Int) (x1 : Int) (x2 : Int)
  deriving Inhabited
def Sum158.on {β : Type} (x : Sum158) (a : β) (f241 : Int → Int → Int → β) : β := match x with | .nil => a | .t241 x0 x1 x2 => f241 x0 x1 x2
theorem Sum158.on_nil  {β : Type} {x : Sum158} {a r : β} {f241 : Int → Int → Int → β} (h : x = .nil) (e : Sum158.on x a f241 = r) : a = r := by subst h; exact e
theorem Sum158.on_t241  {β : Type} {x : Sum158} {a r : β} {f241 : Int → Int → Int → β} {x0 : Int} {x1 : Int} {x2 : Int} (h : x = .t241 x0 x1 x2) (e : Sum158.on x a f241 = r) : f241 x0 x1 x2 = r := by subst h; exact e
def Sum158.onP (x : Sum158) (a : PO) (f241 : Int → Int → Int → PO) : PO := match x with | .nil => a | .t241 x0 x1 x2 => f241 x0 x1 x2
theorem Sum158.onP_nil  {x : Sum158} {a : PO} {f241 : Int → Int → Int → PO} {v : Value} {O : List (List Bl)} (h : x = .nil) (e : Sum158.onP x a f241 v O) : a v O := by subst h; exact e
theorem Sum158.onP_t241  {x : Sum158} {a : PO} {f241 : Int → Int → Int → PO} {x0 : Int} {x1 : Int} {x2 : Int} {v : Value} {O : List (List Bl)} (h : x = .t241 x0 x1 x2) (e : Sum158.onP x a f241 v O) : f241 x0 x1 x2 v O := by subst h; exact e
theorem Sum158.cases (x : Sum158) : x = .nil ∨ (∃ x0 x1 x2, x = .t241 x0 x1 x2) := by cases x <;> simp
def Bp (N : Nat) (m : AN) : Nat → Int → Option Sum158
  | 0, _ => none
  | n10 + 1, x1_ => if x1_ < 15 then ck (0 ≤ x1_ ∧ x1_ < (15 : Int)) (if x1_ = 0 then (Mk N m).bind fun r19 => if (r19.2 : Int) ≠ 0 then some (.t241 x1_ r19.1 r19.2) else ck (-9223372036854775808 ≤ (x1_ + 1) ∧ (x1_ + 1) ≤ 9223372036854775807) ((Bp N m n10) (x1_ + 1)) else if x1_ = 1 then (Kp N m).bind fun r28 => if (r28.2 : Int) ≠ 0 then some (.t241 x1_ r28.1 r28.2) else ck (-9223372036854775808 ≤ (x1_ + 1) ∧ (x1_ + 1) ≤ 9223372036854775807) ((Bp N m n10) (x1_ + 1)) else if x1_ = 2 then (Mj N m).bind fun r37 => if (r37.2 : Int) ≠ 0 then some (.t241 x1_ r37.1 r37.2) else ck (-9223372036854775808 ≤ (x1_ + 1) ∧ (x1_ + 1) ≤ 9223372036854775807) ((Bp N m n10) (x1_ + 1)) else if x1_ = 3 then (Mi N m).bind fun r46 => if (r46.2 : Int) ≠ 0 then some (.t241 x1_ r46.1 r46.2) else ck (-9223372036854775808 ≤ (x1_ + 1) ∧ (x1_ + 1) ≤ 9223372036854775807) ((Bp N m n10) (x1_ + 1)) else if x1_ = 4 then (Lv N m).bind fun r55 => if (r55.2 : Int) ≠ 0 then some (.t241 x1_ r55.1 r55.2) else ck (-9223372036854775808 ≤ (x1_ + 1) ∧ (x1_ + 1) ≤ 9223372036854775807) ((Bp N m n10) (x1_ + 1)) else if x1_ = 5 then (Ks N m).bind fun r64 => if (r64.2 : Int) ≠ 0 then some (.t241 x1_ r64.1 r64.2) else ck (-9223372036854775808 ≤ (x1_ + 1) ∧ (x1_ + 1) ≤ 9223372036854775807) ((Bp N m n10) (x1_ + 1)) else if x1_ = 6 then (Lu N m).bind fun r73 => if (r73.2 : Int) ≠ 0 then some (.t241 x1_ r73.1 r73.2) else ck (-9223372036854775808 ≤ (x1_ + 1) ∧ (x1_ + 1) ≤ 9223372036854775807) ((Bp N m n10) (x1_ + 1)) else if x1_ = 7 then (Ko N m).bind fun r82 => if (r82.2 : Int) ≠ 0 then some (.t241 x1_ r82.1 r82.2) else ck (-9223372036854775808 ≤ (x1_ + 1) ∧ (x1_ + 1) ≤ 9223372036854775807) ((Bp N m n10) (x1_ + 1)) else if x1_ = 8 then (Lx N m).bind fun r91 => if (r91.2 : Int) ≠ 0 then some (.t241 x1_ r91.1 r91.2) else ck (-9223372036854775808 ≤ (x1_ + 1) ∧ (x1_ + 1) ≤ 9223372036854775807) ((Bp N m n10) (x1_ + 1)) else if x1_ = 9 then (Kq N m).bind fun r100 => if (r100.2 : Int) ≠ 0 then some (.t241 x1_ r100.1 r100.2) else ck (-9223372036854775808 ≤ (x1_ + 1) ∧ (x1_ + 1) ≤ 9223372036854775807) ((Bp N m n10) (x1_ + 1)) else if x1_ = 10 then (Ly N m).bind fun r109 => if (r109.2 : Int) ≠ 0 then some (.t241 x1_ r109.1 r109.2) else ck (-9223372036854775808 ≤ (x1_ + 1) ∧ (x1_ + 1) ≤ 9223372036854775807) ((Bp N m n10) (x1_ + 1)) else if x1_ = 11 then (Kn N m).bind fun r118 => if (r118.2 : Int) ≠ 0 then some (.t241 x1_ r118.1 r118.2) else ck (-9223372036854775808 ≤ (x1_ + 1) ∧ (x1_ + 1) ≤ 9223372036854775807) ((Bp N m n10) (x1_ + 1)) else if x1_ = 12 then (MY N m).bind fun r127 => if (r127.2 : Int) ≠ 0 then some (.t241 x1_ r127.1 r127.2) else ck (-9223372036854775808 ≤ (x1_ + 1) ∧ (x1_ + 1) ≤ 9223372036854775807) ((Bp N m n10) (x1_ + 1)) else if x1_ = 13 then (JA N m).bind fun r136 => if (r136.2 : Int) ≠ 0 then some (.t241 x1_ r136.1 r136.2) else ck (-9223372036854775808 ≤ (x1_ + 1) ∧ (x1_ + 1) ≤ 9223372036854775807) ((Bp N m n10) (x1_ + 1)) else (Lw N m).bind fun r145 => if (r145.2 : Int) ≠ 0 then some (.t241 x1_ r145.1 r145.2) else ck (-9223372036854775808 ≤ (x1_ + 1) ∧ (x1_ + 1) ≤ 9223372036854775807) ((Bp N m n10) (x1_ + 1))) else some (.nil)
def JJ (N : Nat) (m : AN) : Option Sum158 := (Mg N m).bind fun r5 => Bp N m N 0
theorem Vv (N m r) (hM : JJ N m = some r) (ro) (mv : AH) (hm : Bun35R ro mv m) : DoesI prog 82 #[vA (Ag m mv)] Ej ro [] (pO [] (Sum158.onP r (oE Value.nilIface []) (fun y0_0 y0_1 y0_2 => (oB 243 #[vI y0_0, vI y0_1, vI y0_2] fun bs_0 => (oE (Value.iface 241 (vP bs_0 0)) []))))) := by
 unfold JJ at hM
 refine BU follows func82 rfl 30 rfl _ fz1 AW (fun base0_ => ?_)
 refine Ai <| r_a (35, (Ag m mv)) rfl rfl rfl (fun b2 => ?_) (.inr rfl)
 refine r_V Value.nilIface rfl <| As <| Aa fun K3 hK3 => A_sc [(some 9, false)] (conG prog [(9, fun _ _ v_ L_ U_ => (p1 (fun s_ => s_) 240 NQ (GJ (vA (Ag m mv)))) v_ L_ U_)]) <| rl (vA (Ag m mv)) 0 <| r_W (vA (Ag m mv)) rfl (Ol rfl rfl rfl (Bj (c := (Ag m mv)) rfl Ei) (by kernel_rfl)) ?_
 obtain ⟨r5, hr6, hM⟩ := BG hM
 refine AP (Ls := [[(b2, 35, (Ag m mv))]]) (fun s7 => s7) 240 NQ (GJ (vA (Ag m mv))) 162 _ rfl rfl rfl (cF gn) (fun o w z_ => VB N m _ hr6 z_.view mv (Bun35R.mono z_.ro_cell hm)) (fun _ _ _ _ _ => Iff.rfl) (fun s7 S8 H9 => ?_)
 refine r_W (vI 15) rfl (Sx (n := 15) rfl rfl rfl (Sl.shp H9)) <| r_V (vI 0) rfl <| As <| Aj <| Be _ (Sub.pick [[(b2, 35, (Ag m mv))], S8] [1] rfl) <| AU (fun tt ll nn => ∃ (n10 : Nat) (x1_ : Int), (Bp N m n10 x1_ = some r) ∧ Is [(9, s7), (10, vI 15), (11, vI x1_)] (List.flatten [S8]) tt ll ∧ nn = n10 + 1) (N + 1) ?_ ?_
 ·exact ⟨N, 0, hM, Ak rfl rfl, rfl⟩
 clear hM; rintro t l _ ⟨n10, x1_, hM, ⟨⟨T, rfl⟩, rfl⟩, rfl⟩
 rcases n10 with _ | n10
 ·exact absurd hM (by simp [Bp])
 rw [Bp] at hM
 refine Ai <| r_V (vB (decide (x1_ < 15))) rfl <| As <| Aa fun K12 hK12 => AB _ rfl (fun hc13 => ?_) (fun hc13 => ?_)
 ·replace hM := iD hc13 hM
  refine Af <| hK12 _ _ ?_
  refine Aa fun K14 hK14 => Aj <| Aa fun K15 hK15 => Ar <| r_V (vI x1_) rfl ?_
  obtain ⟨ck16, hM⟩ := Rc hM
  obtain ⟨f, i, q, hcb, hi, hfr, hdo, hM⟩ : ∃ (f i : Nat) (q : Int × Int), Ah prog f = true ∧ x1_ = (i : Int) ∧ (GJ (vA (Ag m mv)))[i]? = some ⟨vF f #[vA (Ag m mv)] #[], rfl⟩ ∧ (∀ c : Ro, (∀ a v, ro a = some v → c a = some v) → DoesI prog f #[vA (Ag m mv)] Ej c [] (pV (vT #[vI q.1, vI q.2]))) ∧ (if (q.2 : Int) ≠ 0 then some (.t241 x1_ q.1 q.2) else ck (-9223372036854775808 ≤ (x1_ + 1) ∧ (x1_ + 1) ≤ 9223372036854775807) ((Bp N m n10) (x1_ + 1))) = some r := by
   rcases Decidable.em (x1_ = 0) with h | h
   · replace hM := ifp h hM; obtain ⟨q, hq, hM⟩ := BG hM; exact ⟨193, 0, q, ga, h, rfl, fun c hc => Does.inv (VH N m _ hq c mv (Bun35R.mono hc hm)) _, hM⟩
   replace hM := ifn h hM
   rcases Decidable.em (x1_ = 1) with h | h
   · replace hM := ifp h hM; obtain ⟨q, hq, hM⟩ := BG hM; exact ⟨194, 1, q, fZ, h, rfl, fun c hc => Does.inv (So N m _ hq c mv (Bun35R.mono hc hm)) _, hM⟩
   replace hM := ifn h hM
   rcases Decidable.em (x1_ = 2) with h | h
   · replace hM := ifp h hM; obtain ⟨q, hq, hM⟩ := BG hM; exact ⟨195, 2, q, fY, h, rfl, fun c hc => Does.inv (VG N m _ hq c mv (Bun35R.mono hc hm)) _, hM⟩
   replace hM := ifn h hM
   rcases Decidable.em (x1_ = 3) with h | h
   · replace hM := ifp h hM; obtain ⟨q, hq, hM⟩ := BG hM; exact ⟨196, 3, q, fX, h, rfl, fun c hc => Does.inv (VE N m _ hq c mv (Bun35R.mono hc hm)) _, hM⟩
   replace hM := ifn h hM
   rcases Decidable.em (x1_ = 4) with h | h
   · replace hM := ifp h hM; obtain ⟨q, hq, hM⟩ := BG hM; exact ⟨197, 4, q, fW, h, rfl, fun c hc => TW N m _ hq c mv (Bun35R.mono hc hm), hM⟩
   replace hM := ifn h hM
   rcases Decidable.em (x1_ = 5) with h | h
   · replace hM := ifp h hM; obtain ⟨q, hq, hM⟩ := BG hM; exact ⟨198, 5, q, fV, h, rfl, fun c hc => Su N m _ hq c mv (Bun35R.mono hc hm), hM⟩
   replace hM := ifn h hM
   rcases Decidable.em (x1_ = 6) with h | h
   · replace hM := ifp h hM; obtain ⟨q, hq, hM⟩ := BG hM; exact ⟨199, 6, q, fU, h, rfl, fun c hc => TU N m _ hq c mv (Bun35R.mono hc hm), hM⟩
   replace hM := ifn h hM
   rcases Decidable.em (x1_ = 7) with h | h
   · replace hM := ifp h hM; obtain ⟨q, hq, hM⟩ := BG hM; exact ⟨200, 7, q, fT, h, rfl, fun c hc => Sn N m _ hq c mv (Bun35R.mono hc hm), hM⟩
   replace hM := ifn h hM
   rcases Decidable.em (x1_ = 8) with h | h
   · replace hM := ifp h hM; obtain ⟨q, hq, hM⟩ := BG hM; exact ⟨201, 8, q, fS, h, rfl, fun c hc => TY N m _ hq c mv (Bun35R.mono hc hm), hM⟩
   replace hM := ifn h hM
   rcases Decidable.em (x1_ = 9) with h | h
   · replace hM := ifp h hM; obtain ⟨q, hq, hM⟩ := BG hM; exact ⟨202, 9, q, fR, h, rfl, fun c hc => Does.inv (Sq N m _ hq c mv (Bun35R.mono hc hm)) _, hM⟩
   replace hM := ifn h hM
   rcases Decidable.em (x1_ = 10) with h | h
   · replace hM := ifp h hM; obtain ⟨q, hq, hM⟩ := BG hM; exact ⟨203, 10, q, fQ, h, rfl, fun c hc => Does.inv (Ua N m _ hq c mv (Bun35R.mono hc hm)) _, hM⟩
   replace hM := ifn h hM
   rcases Decidable.em (x1_ = 11) with h | h
   · replace hM := ifp h hM; obtain ⟨q, hq, hM⟩ := BG hM; exact ⟨204, 11, q, fP, h, rfl, fun c hc => Does.inv (Sh N m _ hq c mv (Bun35R.mono hc hm)) _, hM⟩
   replace hM := ifn h hM
   rcases Decidable.em (x1_ = 12) with h | h
   · replace hM := ifp h hM; obtain ⟨q, hq, hM⟩ := BG hM; exact ⟨205, 12, q, fO, h, rfl, fun c hc => Does.inv (WY N m _ hq c mv (Bun35R.mono hc hm)) _, hM⟩
   replace hM := ifn h hM
   rcases Decidable.em (x1_ = 13) with h | h
   · replace hM := ifp h hM; obtain ⟨q, hq, hM⟩ := BG hM; exact ⟨206, 13, q, fN, h, rfl, fun c hc => Does.inv (QO N m _ hq c mv (Bun35R.mono hc hm)) _, hM⟩
   replace hM := ifn h hM
   obtain ⟨q, hq, hM⟩ := BG hM; exact ⟨207, 14, q, fM, (by omega), rfl, fun c hc => Does.inv (TX N m _ hq c mv (Bun35R.mono hc hm)) _, hM⟩
  refine r_W (elA s7 (x1_.toNat * 1)) rfl (GE (Xk rfl rfl rfl (Sl.shp H9) (jV (n := 15) rfl ck16))) <| iA (vF f #[vA (Ag m mv)] #[]) (En := NQ) (⟨vF f #[vA (Ag m mv)] #[], rfl⟩) (x1_.toNat) 0 rfl rfl (Ap H9 (Ad (Ls := [S8]) (k := 0) rfl rfl)) (jW (i := i) hi hfr) rfl <| r_R [vI x1_, vF f #[vA (Ag m mv)] #[]] rfl <| As <| hK15 _ _ ?_
  refine A_sc [(some 18, false)] (conG prog [(18, fun _ _ v_ L_ U_ => (pV (vT #[vI q.1, vI q.2])) v_ L_ U_)]) <| r_V (vF f #[vA (Ag m mv)] #[]) rfl ?_
  refine rg (vT #[vI q.1, vI q.2]) (Nd (bd := [vA (Ag m mv)]) (caps := []) rfl hcb rfl) (fun _ _ z_ => hdo _ z_.ro_cell) (fun _ _ _ _ _ => Iff.rfl) <| r_R [vT #[vI q.1, vI q.2], vI q.1, vI q.2, vI q.1, vI q.2] rfl <| As <| Ai <| r_R [vI q.2, vB (q.2 != 0)] rfl <| As <| AB _ rfl (fun hc22 => ?_) (fun hc22 => ?_)
  ·replace hM := iN hc22 hM
   refine Ai <| r_R [vI x1_, vI q.1, vI q.2] rfl <| r_W (vA #[vI x1_, vI q.1, vI q.2]) rfl (An rfl rfl rfl rfl) <| r_a (243, #[vI x1_, vI q.1, vI q.2]) rfl rfl rfl (fun b24 => ?_) (.inr rfl)
   refine r_R [Value.iface 241 (vP b24 0), Value.iface 241 (vP b24 0)] rfl <| As ?_
   cases hM
   refine Au (fun hn => Ge (v0 := Value.iface 241 (vP b24 0)) (O := [(OO b24 x1_ q.1 q.2)]) (AV rfl) (Sub.pick [(OO b24 x1_ q.1 q.2), S8] [0] rfl) ⟨b24, _, ⟨rfl, rfl⟩, rfl⟩)
  replace hM := iM hc22 hM
  refine Af <| hK14 _ _ ?_
  refine Ar ?_
  obtain ⟨ck25, hM⟩ := Rc hM
  refine r_X (vI (x1_ + 1)) rfl (Ot rfl ck25.1 ck25.2) rfl <| r_V (vI (x1_ + 1)) rfl <| As <| fg _ (Sub.pick [S8] [0] rfl) ?_
  exact ⟨n10 + 1, by omega, n10, (x1_ + 1), hM, Ak rfl rfl, rfl⟩
 replace hM := iF hc13 hM
 refine AS <| hK3 _ _ ?_
 refine Ai <| r_V Value.nilIface rfl <| As ?_
 cases hM
 refine Au (fun hn => Ge (v0 := Value.nilIface) (O := []) (AV rfl) (Sub.nil _) ⟨rfl, rfl⟩)
def Fq (N : Nat) (m : AN) : Option Bool := (JJ N m).bind fun r4 => Sum158.on r4 (some false) (fun _ _ _ => some true)
theorem OE (N m r) (hM : Fq N m = some r) (ro) (mv : AH) (hm : Bun35R ro mv m) : DoesI prog 22 #[vA (Ag m mv)] Ej ro [] (pV (vB r)) := by
 unfold Fq at hM
 refine AQ follows func22 rfl 6 rfl _ fz1 AW (fun base0_ => ?_)
 refine Ai <| rA rfl fun b2 => rz rfl <| Aa fun K3 hK3 => A_regC [(some 4, true)] (conG prog [(4, fun _ _ v_ L_ U_ => ∀ u0_, JJ N m = some u0_ → (pO (List.flatten []) (Sum158.onP u0_ (oE Value.nilIface []) (fun y0_0 y0_1 y0_2 => (oB 243 #[vI y0_0, vI y0_1, vI y0_2] fun bs_0 => (oE (Value.iface 241 (vP bs_0 0)) []))))) v_ L_ U_)]) <| rm 1 [0] rfl <| kB hM fun r4 hr5 hM => Ju (Ls := [[(b2, 35, (Ag m mv))]]) (FL := []) [] _ (some 4) 82 _ rfl rfl rfl rfl rfl (cF ju) (fun o w hn_ z_ => Vv N m _ hr5 _ mv (Bun35R.mono (OB (Ls := [[(b2, 35, (Ag m mv))]]) (is := []) rfl z_) hm)) (Ao hr5) (fun h_ => nomatch h_) ?_
 rintro _ _ hp_
 rcases Sum158.cases r4 with hx6 | ⟨x7_0, x8_1, x9_2, hx6⟩
 ·obtain ⟨rfl, rfl⟩ := Sum158.onP_nil hx6 hp_
  replace hM := Sum158.on_nil hx6 hM
  refine AX (Ls := [[(b2, 35, (Ag m mv))]]) (Ls' := [[(b2, 35, (Ag m mv))]]) [0] rfl rfl <| rz rfl <| hK3 _ _ ?_
  cases hM
  exact aR eV1
 obtain ⟨b10, _, ⟨rfl, rfl⟩, rfl⟩ := Sum158.onP_t241 hx6 hp_
 replace hM := Sum158.on_t241 hx6 hM
 refine AX (Ls := [[(b2, 35, (Ag m mv))], (OO b10 x7_0 x8_1 x9_2)]) (Ls' := [[(b2, 35, (Ag m mv))], (OO b10 x7_0 x8_1 x9_2)]) [0, 1] rfl rfl <| rz rfl <| hK3 _ _ ?_
 cases hM
 exact aR eV1
end Go.Proofs.YthafnifhhblkbaaGreatDoor
