import Derived.Test.YthafnifhhblkbaaGreatDoorBd
namespace Go.Proofs.YthafnifhhblkbaaGreatDoor
open Go Go.RowKit Go.Eng _root_.Go.Proofs.Tryz
set_option maxRecDepth 100000
set_option maxHeartbeats 8000000
abbrev KO (b : Nat) (x0 : List UInt8) (x1 : Int) (x2 : Value) (x3 : Value) (x4 : Int) (x5 : Value) (x6 : Int) : List Bl := [(b, 94, #[vS x0, vI x1, x2, x3, vI x4, x5, vI x6])]
abbrev Zw (b : Nat) (x0 : Value) : List Bl := [(b, 29, #[x0])]
abbrev RN (b : Nat) (x0 : Value) : List Bl := [(b, 335, #[x0])]
abbrev Zv (b : Nat) (x0 : Value) : List Bl := [(b, 62, #[x0])]
abbrev Km (b : Nat) (x0 : Int) (x1 : Int) (x2 : Value) (x3 : Value) (x4 : Int) (x5 : Int) : List Bl := [(b, 128, #[vI x0, vI x1, x2, x3, vI x4, vI x5])]
abbrev Kl (b : Nat) (x0 : Int) (x1 : Int) : List Bl := [(b, 133, #[vI x0, vI x1])]
abbrev Nw (b : Nat) (x0 : List UInt8) (x1 : Value) (x2 : Int) (x3 : Int) (x4 : Int) (x5 : Int) : List Bl := [(b, 68, #[vS x0, x1, vI x2, vI x3, vI x4, vI x5])]
def Ks (N : Nat) (c : AN) : Option (Int × Int) := (HV N c.2.2.2.2.2.1 32 c).bind fun r4 => some (r4.1, r4.2)
theorem Su (N c r) (hM : Ks N c = some r) (ro) (cv : AH) (hc : Bun35R ro cv c) : DoesI prog 198 #[vA (Ag c cv)] Ej ro [] (pV (vT #[vI r.1, vI r.2])) := by
 unfold Ks at hM
 refine AQ follows func198 rfl 12 rfl _ fz1 AW (fun base0_ => ?_)
 refine Ai <| rA rfl fun b2 => rz rfl <| A_sc [(some 9, false)] (conG prog [(9, cV (HV N c.2.2.2.2.2.1 32 c) fun u0_ => vT #[vI u0_.1, vI u0_.2])]) <| rm 4 [0, 0] rfl <| r_W (vF 244 #[vA (Ag c cv)] #[]) rfl (EU rfl rfl) <| kB hM fun r4 hr5 hM => rg _ (cF fu) (fun o w z_ => Sa N c.2.2.2.2.2.1 32 c _ hr5 z_.view cv.2.2.2.2.1 (RdN.mono z_.ro_cell hc.2.2.2.2.1) cv (Bun35R.mono z_.ro_cell hc)) (Ao hr5) <| rz rfl ?_
 cases hM
 exact aR eV2
def Hf (_ : Nat) (x_0 : List UInt8) (_ : Int) (_ : List (Int × Int × Int)) (_ : List Int) (_ : Int) (_ : List (Int × BitVec 128)) (_ : Int) : Option (List UInt8) := some x_0
theorem QJ (N x_0 x_1 x_2 x_3 x_4 x_5 x_6 r) (hM : Hf N x_0 x_1 x_2 x_3 x_4 x_5 x_6 = some r) (ro : Ro) (x_2v : Value) (_hx_2 : Rd DO ro x_2v x_2) (x_3v : Value) (_hx_3 : Rd Bf ro x_3v x_3) (x_5v : Value) (_hx_5 : Rd enc_54 ro x_5v x_5) : Does prog 246 #[vA #[vS x_0, vI x_1, x_2v, x_3v, vI x_4, x_5v, vI x_6]] ro [] (pV (vS r)) := by
 unfold Hf at hM
 refine Ac follows func246 rfl 5 rfl _ fz1 (fun base0_ => ?_)
 refine Ai <| rA rfl fun b2 => rz rfl <| AY [0] rfl ?_
 cases hM
 exact aR eV1
def FS (N : Nat) (l' : List ((List UInt8) × Int × (List (Int × Int × Int)) × (List Int) × Int × (List (Int × BitVec 128)) × Int)) : Nat → List (List UInt8) → Int → Option (List (List UInt8))
  | 0, _, _ => none
  | n9 + 1, s1_, x2_ => if x2_ < (l'.length : Int) then ck (0 ≤ x2_ ∧ x2_ < (l'.length : Int)) ((Hf N (l'[x2_.toNat]!.1) (l'[x2_.toNat]!.2.1) (l'[x2_.toNat]!.2.2.1) (l'[x2_.toNat]!.2.2.2.1) (l'[x2_.toNat]!.2.2.2.2.1) (l'[x2_.toNat]!.2.2.2.2.2.1) (l'[x2_.toNat]!.2.2.2.2.2.2)).bind fun r24 => ck (0 ≤ x2_ ∧ x2_ < (s1_.length : Int)) (ck (-9223372036854775808 ≤ (x2_ + 1) ∧ (x2_ + 1) ≤ 9223372036854775807) ((FS N l' n9) ((s1_).set (x2_.toNat) r24) (x2_ + 1)))) else some s1_
def IT (N : Nat) (l' : List ((List UInt8) × Int × (List (Int × Int × Int)) × (List Int) × Int × (List (Int × BitVec 128)) × Int)) : Option (List (List UInt8)) := ck (0 ≤ (l'.length : Int) ∧ (l'.length : Int) ≤ 8796093022208) (FS N l' N ((List.replicate ((l'.length : Int)).toNat ([]))) 0)
theorem TM (N l' r) (hM : IT N l' = some r) (ro l'v) (hl' : RdN Il ro l'v l') : Does prog 309 #[l'v, vF 246 #[] #[]] ro [] (p1 (fun s_ => s_) 9 Bz r) := by
 unfold IT at hM
 refine Ac follows func309 rfl 26 rfl _ fz2 (fun base0_ => ?_)
 refine AZ rfl <| A_sc [(some 10, false)] (conG prog [(10, fun _ _ v_ L_ U_ => (p1 (fun v => v) 9 Bz (List.replicate ((l'.length : Int)).toNat ([]))) v_ L_ U_)]) <| rn 1 rfl <| rL (RdN.shp hl') rfl <| kC hM fun ck3 hM => Rs (Ls := []) 9 Bz ([]) (l'.length : Int) rfl rfl rfl rfl rfl rfl rfl rfl rfl rfl 8796093022208 rfl ck3 (fun _ _ _ _ _ => Iff.rfl) (fun s4 S5 H6 => ?_)
 refine rz rfl <| Aa fun K7 hK7 => Ai <| rn 1 rfl <| rL (RdN.shp hl') rfl <| rz rfl <| Aj <| Be _ (Sub.pick [S5] [0] rfl) <| AU (fun tt ll nn => ∃ (n9 : Nat) (s1_ : List (List UInt8)) (x2_ : Int), (FS N l' n9 s1_ x2_ = some r) ∧ ∃ (Ss1_ : List Bl), Sl 9 Bz s4 s1_ Ss1_ ∧ Is [(1, vF 246 #[] #[]), (5, s4), (11, l'v), (12, vI (l'.length : Int)), (13, vI x2_)] (List.flatten [Ss1_]) tt ll ∧ nn = n9 + 1) (N + 1) ?_ ?_
 ·exact ⟨N, (List.replicate ((l'.length : Int)).toNat ([])), 0, hM, S5, H6, Ak rfl rfl, rfl⟩
 clear hM; rintro t l _ ⟨n9, s1_, x2_, hM, Ss1_, hs1_, ⟨⟨T, rfl⟩, rfl⟩, rfl⟩
 rcases n9 with _ | n9
 ·exact absurd hM (by simp [FS])
 rw [FS] at hM
 refine AZ rfl <| Aa fun K11 hK11 => aD hM rfl (fun hc12 hM => ?_) (fun hc12 hM => ?_)
 ·refine Af <| hK11 _ _ ?_
  refine Aa fun K13 hK13 => Aj <| Ai <| rn 1 rfl <| kC hM fun ck15 hM => ?_
  obtain ⟨_, ⟨s16, s17, s18, hs19, hs20, hs21, rfl⟩, hat22⟩ := RdN.at (E := Il) hl' (CP ck15)
  refine rI (RdN.shp hl') ck15 rfl <| Mv (vA #[vS (l'[x2_.toNat]!.1), vI (l'[x2_.toNat]!.2.1), s16, s17, vI (l'[x2_.toNat]!.2.2.2.2.1), s18, vI (l'[x2_.toNat]!.2.2.2.2.2.2)]) (vs := [vS (l'[x2_.toNat]!.1), vI (l'[x2_.toNat]!.2.1), s16, s17, vI (l'[x2_.toNat]!.2.2.2.2.1), s18, vI (l'[x2_.toNat]!.2.2.2.2.2.2)]) (x2_.toNat * 7) 0 rfl rfl (fun o w z_ => At.mono z_.ro_cell hat22) rfl <| rA rfl fun b23 => rn 1 rfl <| r_s (List.flatten [(KO b23 (l'[x2_.toNat]!.1) (l'[x2_.toNat]!.2.1) s16 s17 (l'[x2_.toNat]!.2.2.2.2.1) s18 (l'[x2_.toNat]!.2.2.2.2.2.2)), Ss1_]) 0 _ _ _ _ _ (#[vS (l'[x2_.toNat]!.1), vI (l'[x2_.toNat]!.2.1), s16, s17, vI (l'[x2_.toNat]!.2.2.2.2.1), s18, vI (l'[x2_.toNat]!.2.2.2.2.2.2)]) rfl rfl rfl rfl (.ofS rfl rfl (Ab rfl (Ab rfl (Ab (Shp.one (Rd.shp hs19)) (Ab (Shp.one (Rd.shp hs20)) (Ab rfl (Ab (Shp.one (Rd.shp hs21)) (Ab rfl Bh)))))))) rfl rfl <| As ?_
  refine A_regC [(some 22, false)] (conG prog [(22, cV (Hf N (l'[x2_.toNat]!.1) (l'[x2_.toNat]!.2.1) (l'[x2_.toNat]!.2.2.1) (l'[x2_.toNat]!.2.2.2.1) (l'[x2_.toNat]!.2.2.2.2.1) (l'[x2_.toNat]!.2.2.2.2.2.1) (l'[x2_.toNat]!.2.2.2.2.2.2)) fun u0_ => vS u0_)]) <| rm 4 [0] rfl <| kB hM fun r24 hr25 hM => rg _ (AO (caps := []) rfl fm rfl) (fun o w z_ => QJ N (l'[x2_.toNat]!.1) (l'[x2_.toNat]!.2.1) (l'[x2_.toNat]!.2.2.1) (l'[x2_.toNat]!.2.2.2.1) (l'[x2_.toNat]!.2.2.2.2.1) (l'[x2_.toNat]!.2.2.2.2.2.1) (l'[x2_.toNat]!.2.2.2.2.2.2) _ hr25 z_.view s16 (z_.r hs19) s17 (z_.r hs20) s18 (z_.r hs21)) (Ao hr25) <| kC hM fun ck26 hM => rI (Sl.shp hs1_) ck26 rfl <| Rr (Ls := [(KO b23 (l'[x2_.toNat]!.1) (l'[x2_.toNat]!.2.1) s16 s17 (l'[x2_.toNat]!.2.2.2.2.1) s18 (l'[x2_.toNat]!.2.2.2.2.2.2)), Ss1_]) 1 (En := Bz) (s1_[x2_.toNat]!) r24 (x2_.toNat) 0 rfl rfl rfl hs1_ (CP ck26) rfl rfl rfl (HI rfl) rfl (fun S27 H28 => ?_)
  refine As <| hK13 _ _ ?_
  refine Ar <| kC hM fun ck29 hM => rX ck29 rfl <| rz rfl <| fg _ (Sub.pick [(KO b23 (l'[x2_.toNat]!.1) (l'[x2_.toNat]!.2.1) s16 s17 (l'[x2_.toNat]!.2.2.2.2.1) s18 (l'[x2_.toNat]!.2.2.2.2.2.2)), S27] [1] rfl) ?_
  exact ⟨n9 + 1, by omega, n9, (s1_).set (x2_.toNat) r24, (x2_ + 1), hM, S27, H28, Ak rfl rfl, rfl⟩
 refine AS <| hK7 _ _ ?_
 refine AZ rfl ?_
 cases hM
 refine Au (fun hn => AG (v0 := s4) hs1_ (Aw (Sub.pick [Ss1_] [0] rfl)) rfl (AV rfl))
def DM (_ : Nat) (n : Int) (least : Int) (most : Int) : Option Bool := if n ≥ least then some (decide (n ≤ most)) else some false
theorem LK (N n least most r) (hM : DM N n least most = some r) : Gives prog 312 #[vI n, vI least, vI most] (vB r) := by
 unfold DM at hM
 refine Aq follows func312 rfl 15 rfl _ fz3 (fun base0_ => ?_)
 refine AZ rfl <| Aa fun K2 hK2 => Ar <| rn 4 rfl ?_
 rcases hg3 : (decide (n ≥ least)) with _ | _
 ·replace hM := iF hg3 hM
  refine rz rfl <| hK2 _ _ ?_
  cases hM
  exact aR eE1
 replace hM := iD hg3 hM
 refine rz rfl <| hK2 _ _ ?_
 cases hM
 exact aR eE1
def Di (N : Nat) (l' : List ((List UInt8) × (List Int) × (List (Int × Int × Int × Int × BitVec 128)))) (i : Int) : Option Bool := ck ((-9223372036854775808 ≤ ((l'.length : Int) - 1) ∧ ((l'.length : Int) - 1) ≤ 9223372036854775807)) ((AE N i 0 ((l'.length : Int) - 1)).bind fun r4 => some r4)
theorem Jz (N l' i r) (hM : Di N l' i = some r) (ro l'v) (hl' : RdN Hk ro l'v l') : Does prog 369 #[l'v, vI i] ro [] (pV (vB r)) := by
 unfold Di at hM
 refine Ac follows func369 rfl 10 rfl _ fz2 (fun base0_ => ?_)
 refine AZ rfl <| Ai <| rn 2 rfl <| rL (RdN.shp hl') rfl <| kC hM fun ck3 hM => rX ck3 rfl <| kB hM fun r4 hr5 hM => rc _ (cF Cd) (AJ N i 0 ((l'.length : Int) - 1) _ hr5) <| rz rfl ?_
 cases hM
 exact aR eV1
def Hi (N : Nat) (_ : Int) (a : Int) (c2_ : AN) : Option Int := (Di N c2_.2.2.2.2.2.1 a).bind fun r3 => (Al N r3 5).bind fun r5 => some r5
theorem QQ (N x a c2_ r) (hM : Hi N x a c2_ = some r) (ro) (bc2_ : Nat) (c2_v : AH) (hc2_ : Bun35R ro c2_v c2_) (hbc2_ : Blk ro bc2_ (DA c2_ c2_v)) : Does prog 368 #[vI x, vI a, vP bc2_ 0] ro [] (pV (vI r)) := by
 unfold Hi at hM
 refine Ac follows func368 rfl 12 rfl _ fz3 (fun base0_ => ?_)
 refine AZ rfl <| A_sc [(some 10, false)] (conG prog [(10, cV (Di N c2_.2.2.2.2.2.1 a) fun u0_ => vB u0_)]) <| rn 2 rfl <| Ec c2_v.2.2.2.2.1 (vs := (DA c2_ c2_v)) (o := 5) rfl rfl (AM hbc2_) rfl <| rn 1 rfl <| kB hM fun r3 hr4 hM => rg _ (cF SF) (fun o w z_ => Jz N c2_.2.2.2.2.2.1 a _ hr4 z_.view c2_v.2.2.2.2.1 (RdN.mono z_.ro_cell hc2_.2.2.2.2.1)) (Ao hr4) <| kB hM fun r5 hr6 hM => rc _ (cF AL) (Az N r3 5 _ hr6) <| rz rfl ?_
 cases hM
 exact aR eV1
def HP (N : Nat) (l' : List Int) (ask0_ : AN) : Nat → Int → Option (Int × Int)
  | 0, _ => none
  | n8 + 1, x1_ => if x1_ < (l'.length : Int) then ck (0 ≤ x1_ ∧ x1_ < (l'.length : Int)) ((Hi N x1_ (l'[x1_.toNat]!) ask0_).bind fun r16 => if (r16 : Int) ≠ 0 then some (x1_, r16) else ck (-9223372036854775808 ≤ (x1_ + 1) ∧ (x1_ + 1) ≤ 9223372036854775807) ((HP N l' ask0_ n8) (x1_ + 1))) else some (0, 0)
def KR (N : Nat) (l' : List Int) (most : Int) (ask0_ : AN) : Option (Int × Int) := if (l'.length : Int) > most then some (0, 2) else HP N l' ask0_ N 0
theorem WP (N l' most ask0_ r) (hM : KR N l' most ask0_ = some r) (ro l'v) (hl' : Rd Bf ro l'v l') (bask0_ : Nat) (ask0_v : AH) (hask0_ : Bun35R ro ask0_v ask0_) (hbask0_ : Blk ro bask0_ (DA ask0_ ask0_v)) : Does prog 249 #[l'v, vI most, vF 368 #[] #[vP bask0_ 0]] ro [] (pV (vT #[vI r.1, vI r.2])) := by
 unfold KR at hM
 refine Ac follows func249 rfl 31 rfl _ fz3 (fun base0_ => ?_)
 refine AZ rfl <| Aa fun K2 hK2 => Ai <| rn 1 rfl <| rL (Rd.shp hl') rfl <| rz rfl <| aD hM rfl (fun hc4 hM => ?_) (fun hc4 hM => ?_)
 ·refine AZ rfl ?_
  cases hM
  exact aR eV2
 refine Af <| hK2 _ _ ?_
 refine Aa fun K6 hK6 => Ai <| rn 1 rfl <| rL (Rd.shp hl') rfl <| rz rfl <| Aj <| AU (fun tt ll nn => ∃ (n8 : Nat) (x1_ : Int), (HP N l' ask0_ n8 x1_ = some r) ∧ Is [(2, vF 368 #[] #[vP bask0_ 0]), (15, l'v), (16, vI (l'.length : Int)), (17, vI x1_)] [] tt ll ∧ nn = n8 + 1) (N + 1) ?_ ?_
 ·exact ⟨N, 0, hM, Ak rfl rfl, rfl⟩
 clear hM; rintro t l _ ⟨n8, x1_, hM, ⟨⟨T, rfl⟩, rfl⟩, rfl⟩
 rcases n8 with _ | n8
 ·exact absurd hM (by simp [HP])
 rw [HP] at hM
 refine AZ rfl <| Aa fun K10 hK10 => aD hM rfl (fun hc11 hM => ?_) (fun hc11 hM => ?_)
 ·refine Af <| hK10 _ _ ?_
  refine Aa fun K12 hK12 => Aj <| Ai <| rn 1 rfl <| kC hM fun ck14 hM => rI (Rd.shp hl') ck14 rfl <| rE (AA hl') ck14 0 rfl <| rz rfl <| A_sc [(some 25, false)] (conG prog [(25, cV (Hi N x1_ (l'[x1_.toNat]!) ask0_) fun u0_ => vI u0_)]) <| rn 3 rfl <| kB hM fun r16 hr17 hM => rg _ (AO (caps := [vP bask0_ 0]) rfl dy rfl) (fun o w z_ => QQ N x1_ (l'[x1_.toNat]!) ask0_ _ hr17 z_.view bask0_ ask0_v (Bun35R.mono z_.ro_cell hask0_) (AM hbask0_ o w z_)) (Ao hr17) <| rz rfl <| AZ rfl <| aN hM rfl (fun hc19 hM => ?_) (fun hc19 hM => ?_)
  ·refine AZ rfl ?_
   cases hM
   exact aR eV2
  refine Af <| hK12 _ _ ?_
  refine Ar <| kC hM fun ck21 hM => rX ck21 rfl <| rz rfl <| fg _ (Sub.of suN) ?_
  exact ⟨n8 + 1, by omega, n8, (x1_ + 1), hM, Ak rfl rfl, rfl⟩
 refine AS <| hK6 _ _ ?_
 refine AZ rfl ?_
 cases hM
 exact aR eV2
def Dt (s : List Int) (v' : Int) : Nat → Int → Option Int
  | 0, _ => none
  | n4 + 1, x1_ => if x1_ < (s.length : Int) then ck (0 ≤ x1_ ∧ x1_ < (s.length : Int)) (if v' = s[x1_.toNat]! then some x1_ else ck (-9223372036854775808 ≤ (x1_ + 1) ∧ (x1_ + 1) ≤ 9223372036854775807) ((Dt s v' n4) (x1_ + 1))) else some (-1)
def Eo (N : Nat) (s : List Int) (v' : Int) : Option Int := Dt s v' N 0
theorem MC (N s v' r) (hM : Eo N s v' = some r) (ro sv) (hs : Rd Bf ro sv s) : Does prog 322 #[sv, vI v'] ro [] (pV (vI r)) := by
 unfold Eo at hM
 refine Ac follows func322 rfl 19 rfl _ fz2 (fun base0_ => ?_)
 refine AZ rfl <| Aa fun K2 hK2 => Ai <| rn 1 rfl <| rL (Rd.shp hs) rfl <| rz rfl <| Aj <| AU (fun tt ll nn => ∃ (n4 : Nat) (x1_ : Int), (Dt s v' n4 x1_ = some r) ∧ Is [(0, sv), (1, vI v'), (7, vI (s.length : Int)), (8, vI x1_)] [] tt ll ∧ nn = n4 + 1) (N + 1) ?_ ?_
 ·exact ⟨N, 0, hM, Ak rfl rfl, rfl⟩
 clear hM; rintro t l _ ⟨n4, x1_, hM, ⟨⟨T, rfl⟩, rfl⟩, rfl⟩
 rcases n4 with _ | n4
 ·exact absurd hM (by simp [Dt])
 rw [Dt] at hM
 refine AZ rfl <| Aa fun K6 hK6 => aD hM rfl (fun hc7 hM => ?_) (fun hc7 hM => ?_)
 ·refine Af <| hK6 _ _ ?_
  refine Aa fun K8 hK8 => Aj <| AZ rfl <| Ai <| rn 3 rfl <| kC hM fun ck11 hM => rI (Rd.shp hs) ck11 rfl <| rE (AA hs) ck11 0 rfl <| rz rfl <| aE hM rfl (fun hc12 hM => ?_) (fun hc12 hM => ?_)
  ·refine AZ rfl ?_
   cases hM
   exact aR eV1
  refine Af <| hK8 _ _ ?_
  refine Ar <| kC hM fun ck14 hM => rX ck14 rfl <| rz rfl <| fg _ (Sub.of suN) ?_
  exact ⟨n4 + 1, by omega, n4, (x1_ + 1), hM, Ak rfl rfl, rfl⟩
 refine AS <| hK2 _ _ ?_
 refine AZ rfl ?_
 cases hM
 exact aR eV1
def Bo (N : Nat) (s : List Int) (v' : Int) : Option Bool := (Eo N s v').bind fun r3 => some (decide (r3 ≥ 0))
theorem ED (N s v' r) (hM : Bo N s v' = some r) (ro sv) (hs : Rd Bf ro sv s) : Does prog 252 #[sv, vI v'] ro [] (pV (vB r)) := by
 unfold Bo at hM
 refine Ac follows func252 rfl 9 rfl _ fz2 (fun base0_ => ?_)
 refine AZ rfl <| A_sc [(some 7, false)] (conG prog [(7, cV (Eo N s v') fun u0_ => vI u0_)]) <| rn 2 rfl <| kB hM fun r3 hr4 hM => rg _ (cF eh) (fun o w z_ => MC N s v' _ hr4 z_.view sv (z_.r hs)) (Ao hr4) <| rz rfl ?_
 cases hM
 exact aR eV1
def Hh (N : Nat) (i : Int) (a : Int) (c2_ : List Int) : Option Int := ck (0 ≤ i ∧ i ≤ (c2_.length : Int)) ((Bo N (((c2_).take (i.toNat)).drop 0) a).bind fun r4 => (Al N (!(r4)) 6).bind fun r6 => some r6)
theorem QP (N i a c2_ r) (hM : Hh N i a c2_ = some r) (ro) (bc2_ : Nat) (c2_v) (hc2_ : Rd Bf ro c2_v c2_) (hbc2_ : Blk ro bc2_ [c2_v]) : Does prog 370 #[vI i, vI a, vP bc2_ 0] ro [] (pV (vI r)) := by
 unfold Hh at hM
 refine Ac follows func370 rfl 13 rfl _ fz3 (fun base0_ => ?_)
 refine AZ rfl <| A_sc [(some 10, false)] (conG prog [(10, cV (Bo N (((c2_).take (i.toNat)).drop 0) a) fun u0_ => vB u0_)]) <| Ec c2_v (vs := [c2_v]) (o := 0) rfl rfl (AM hbc2_) rfl <| rn 1 rfl <| kC hM fun ck3 hM => r_W (Fy c2_v 0 (i.toNat) 1) rfl (GE (Hz rfl rfl rfl rfl (Rd.shp hc2_) ck3)) <| rn 1 rfl <| kB hM fun r4 hr5 hM => rg _ (cF SN) (fun o w z_ => ED N (((c2_).take (i.toNat)).drop 0) a _ hr5 z_.view (Fy c2_v 0 (i.toNat) 1) ((Py (AA hc2_) (Nat.zero_le _) (Iu ck3.2)) o w z_)) (Ao hr5) <| rn 1 rfl <| kB hM fun r6 hr7 hM => rc _ (cF AL) (Az N (!(r4)) 6 _ hr7) <| rz rfl ?_
 cases hM
 exact aR eV1
def HO (N : Nat) (l' : List Int) (ask0_ : List Int) : Nat → Int → Option (Int × Int)
  | 0, _ => none
  | n8 + 1, x1_ => if x1_ < (l'.length : Int) then ck (0 ≤ x1_ ∧ x1_ < (l'.length : Int)) ((Hh N x1_ (l'[x1_.toNat]!) ask0_).bind fun r16 => if (r16 : Int) ≠ 0 then some (x1_, r16) else ck (-9223372036854775808 ≤ (x1_ + 1) ∧ (x1_ + 1) ≤ 9223372036854775807) ((HO N l' ask0_ n8) (x1_ + 1))) else some (0, 0)
def KQ (N : Nat) (l' : List Int) (most : Int) (ask0_ : List Int) : Option (Int × Int) := if (l'.length : Int) > most then some (0, 2) else HO N l' ask0_ N 0
theorem WO (N l' most ask0_ r) (hM : KQ N l' most ask0_ = some r) (ro l'v) (hl' : Rd Bf ro l'v l') (bask0_ : Nat) (ask0_v) (hask0_ : Rd Bf ro ask0_v ask0_) (hbask0_ : Blk ro bask0_ [ask0_v]) : Does prog 249 #[l'v, vI most, vF 370 #[] #[vP bask0_ 0]] ro [] (pV (vT #[vI r.1, vI r.2])) := by
 unfold KQ at hM
 refine Ac follows func249 rfl 31 rfl _ fz3 (fun base0_ => ?_)
 refine AZ rfl <| Aa fun K2 hK2 => Ai <| rn 1 rfl <| rL (Rd.shp hl') rfl <| rz rfl <| aD hM rfl (fun hc4 hM => ?_) (fun hc4 hM => ?_)
 ·refine AZ rfl ?_
  cases hM
  exact aR eV2
 refine Af <| hK2 _ _ ?_
 refine Aa fun K6 hK6 => Ai <| rn 1 rfl <| rL (Rd.shp hl') rfl <| rz rfl <| Aj <| AU (fun tt ll nn => ∃ (n8 : Nat) (x1_ : Int), (HO N l' ask0_ n8 x1_ = some r) ∧ Is [(2, vF 370 #[] #[vP bask0_ 0]), (15, l'v), (16, vI (l'.length : Int)), (17, vI x1_)] [] tt ll ∧ nn = n8 + 1) (N + 1) ?_ ?_
 ·exact ⟨N, 0, hM, Ak rfl rfl, rfl⟩
 clear hM; rintro t l _ ⟨n8, x1_, hM, ⟨⟨T, rfl⟩, rfl⟩, rfl⟩
 rcases n8 with _ | n8
 ·exact absurd hM (by simp [HO])
 rw [HO] at hM
 refine AZ rfl <| Aa fun K10 hK10 => aD hM rfl (fun hc11 hM => ?_) (fun hc11 hM => ?_)
 ·refine Af <| hK10 _ _ ?_
  refine Aa fun K12 hK12 => Aj <| Ai <| rn 1 rfl <| kC hM fun ck14 hM => rI (Rd.shp hl') ck14 rfl <| rE (AA hl') ck14 0 rfl <| rz rfl <| A_sc [(some 25, false)] (conG prog [(25, cV (Hh N x1_ (l'[x1_.toNat]!) ask0_) fun u0_ => vI u0_)]) <| rn 3 rfl <| kB hM fun r16 hr17 hM => rg _ (AO (caps := [vP bask0_ 0]) rfl dw rfl) (fun o w z_ => QP N x1_ (l'[x1_.toNat]!) ask0_ _ hr17 z_.view bask0_ ask0_v (z_.r hask0_) (AM hbask0_ o w z_)) (Ao hr17) <| rz rfl <| AZ rfl <| aN hM rfl (fun hc19 hM => ?_) (fun hc19 hM => ?_)
  ·refine AZ rfl ?_
   cases hM
   exact aR eV2
  refine Af <| hK12 _ _ ?_
  refine Ar <| kC hM fun ck21 hM => rX ck21 rfl <| rz rfl <| fg _ (Sub.of suN) ?_
  exact ⟨n8 + 1, by omega, n8, (x1_ + 1), hM, Ak rfl rfl, rfl⟩
 refine AS <| hK6 _ _ ?_
 refine AZ rfl ?_
 cases hM
 exact aR eV2
def GL (N : Nat) (c : AN) (l' : List Int) : Option Int := (KR N l' 8 c).bind fun r5 => (KQ N l' 8 l').bind fun r8 => (Al N (decide ((l'.length : Int) > 0)) 5).bind fun r11 => (AC N ([r11, r5.2, r8.2])).bind fun r16 => some r16
theorem TZ (N c l' r) (hM : GL N c l' = some r) (ro) (cv : AH) (hc : Bun35R ro cv c) (l'v) (hl' : Rd Bf ro l'v l') : Does prog 313 #[vA (Ag c cv), l'v] ro [] (pV (vI r)) := by
 unfold GL at hM
 refine Ac follows func313 rfl 29 rfl _ fz2 (fun base0_ => ?_)
 refine Ai <| rA rfl fun b2 => r_a (29, #[l'v]) rfl rfl (KB rfl (Rd.shp hl')) (fun b3 => ?_) (.inr rfl)
 refine rz rfl <| A_sc [(some 12, false)] (conG prog [(12, cV (KR N l' 8 c) fun u0_ => vT #[vI u0_.1, vI u0_.2])]) <| rm 1 [0] rfl <| r_W (vF 368 #[] #[vP b2 0]) rfl (EM rfl) <| kB hM fun r5 hr6 hM => rg _ (cF Pj) (fun o w z_ => WP N l' 8 c _ hr6 z_.view l'v ((AA hl') o w z_) b2 cv (Bun35R.mono z_.ro_cell hc) (BR 1 rfl rfl o w z_)) (Ao hr6) <| rz rfl <| A_sc [(some 18, false)] (conG prog [(18, cV (KQ N l' 8 l') fun u0_ => vT #[vI u0_.1, vI u0_.2])]) <| rm 1 [0] rfl <| r_W (vF 370 #[] #[vP b3 0]) rfl (EM rfl) <| kB hM fun r8 hr9 hM => rg _ (cF Pj) (fun o w z_ => WO N l' 8 l' _ hr9 z_.view l'v ((AA hl') o w z_) b3 l'v ((AA hl') o w z_) (BR 0 rfl rfl o w z_)) (Ao hr9) <| rz rfl <| A_sc [(some 27, false), (some 28, false)] (conG prog [(28, fun _ _ v_ L_ U_ => ∀ u0_, Al N (decide ((l'.length : Int) > 0)) 5 = some u0_ → ∀ u1_, AC N ([u0_, r5.2, r8.2]) = some u1_ → (pV (vI u1_)) v_ L_ U_)]) <| rm 1 [0] rfl ?_
 refine rL (Rd.shp hl') rfl <| rn 1 rfl <| kB hM fun r11 hr12 hM => rc _ (cF AL) (Az N (decide ((l'.length : Int) > 0)) 5 _ hr12) <| rn 2 rfl <| BF (Ls := [(Zw b3 l'v), [(b2, 238, (Ag c cv))]]) 39 Bf [r11, r5.2, r8.2] [vI r11, vI r5.2, vI r8.2] [vI 0, vI 0, vI 0] rfl rfl rfl rfl rfl rfl rfl (by kernel_rfl) (by kernel_rfl) rfl rfl rfl (fun s13 S14 H15 => ?_)
 refine kB hM fun r16 hr17 hM => rg _ (cF BV) (fun o w z_ => BD N ([r11, r5.2, r8.2]) _ hr17 z_.view s13 ((Ap H15 (Ad (Ls := [(Zw b3 l'v), [(b2, 238, (Ag c cv))], S14]) (k := 2) rfl rfl)) o w z_)) (fun _ _ v_ L_ U_ => ⟨fun h_ => h_ _ hr12 _ hr17, fun h_ => by intro _ e_; cases Option.some.inj (e_.symm.trans hr12); intro _ e_; cases Option.some.inj (e_.symm.trans hr17); exact h_⟩) ?_
 refine rz rfl <| DJ [(4, vI r16)] rfl (fun T => ?_)
 cases hM
 exact aR eV1
def Jd (N : Nat) (i : Int) (v_0 : Int) (v_1 : BitVec 128) (c2_ : List Int) : Option Int := ck (0 ≤ i ∧ i < (c2_.length : Int)) ((DX N v_0 v_1 (c2_[i.toNat]!)).bind fun r5 => (Al N r5 9).bind fun r7 => some r7)
theorem Uc (N i v_0 v_1 c2_ r) (hM : Jd N i v_0 v_1 c2_ = some r) (ro) (bc2_ : Nat) (c2_v) (hc2_ : Rd Bf ro c2_v c2_) (hbc2_ : Blk ro bc2_ [c2_v]) : Does prog 372 #[vI i, vA #[vI v_0, U (hi v_1), U (lo v_1)], vP bc2_ 0] ro [] (pV (vI r)) := by
 unfold Jd at hM
 refine Ac follows func372 rfl 13 rfl _ fz3 (fun base0_ => ?_)
 refine Ai <| rA rfl fun b2 => rz rfl <| Aa fun K3 hK3 => Lz [] (by decide +kernel) (fun hn => Ba) <| rm 1 [0] rfl <| Ec c2_v (vs := [c2_v]) (o := 0) rfl rfl (AM hbc2_) rfl <| rn 1 rfl <| kC hM fun ck4 hM => rI (Rd.shp hc2_) ck4 rfl <| rE (AA hc2_) ck4 0 rfl <| kB hM fun r5 hr6 hM => rc _ (cF SG) (Lr N v_0 v_1 (c2_[i.toNat]!) _ hr6) <| kB hM fun r7 hr8 hM => rc _ (cF AL) (Az N r5 9 _ hr8) <| rz rfl <| hK3 _ _ ?_
 cases hM
 exact aR eV1
def HZ (N : Nat) (l' : List (Int × BitVec 128)) (ask0_ : List Int) : Nat → Int → Option (Int × Int)
  | 0, _ => none
  | n8 + 1, x1_ => if x1_ < (l'.length : Int) then ck (0 ≤ x1_ ∧ x1_ < (l'.length : Int)) ((Jd N x1_ ((l'[x1_.toNat]!).1) ((l'[x1_.toNat]!).2) ask0_).bind fun r17 => if (r17 : Int) ≠ 0 then some (x1_, r17) else ck (-9223372036854775808 ≤ (x1_ + 1) ∧ (x1_ + 1) ≤ 9223372036854775807) ((HZ N l' ask0_ n8) (x1_ + 1))) else some (0, 0)
def KV (N : Nat) (l' : List (Int × BitVec 128)) (most : Int) (ask0_ : List Int) : Option (Int × Int) := if (l'.length : Int) > most then some (0, 2) else HZ N l' ask0_ N 0
theorem WT (N l' most ask0_ r) (hM : KV N l' most ask0_ = some r) (ro l'v) (hl' : Rd enc_54 ro l'v l') (bask0_ : Nat) (ask0_v) (hask0_ : Rd Bf ro ask0_v ask0_) (hbask0_ : Blk ro bask0_ [ask0_v]) : Does prog 371 #[l'v, vI most, vF 372 #[] #[vP bask0_ 0]] ro [] (pV (vT #[vI r.1, vI r.2])) := by
 unfold KV at hM
 refine Ac follows func371 rfl 31 rfl _ fz3 (fun base0_ => ?_)
 refine AZ rfl <| Aa fun K2 hK2 => Ai <| rn 1 rfl <| rL (Rd.shp hl') rfl <| rz rfl <| aD hM rfl (fun hc4 hM => ?_) (fun hc4 hM => ?_)
 ·refine AZ rfl ?_
  cases hM
  exact aR eV2
 refine Af <| hK2 _ _ ?_
 refine Aa fun K6 hK6 => Ai <| rn 1 rfl <| rL (Rd.shp hl') rfl <| rz rfl <| Aj <| AU (fun tt ll nn => ∃ (n8 : Nat) (x1_ : Int), (HZ N l' ask0_ n8 x1_ = some r) ∧ Is [(2, vF 372 #[] #[vP bask0_ 0]), (15, l'v), (16, vI (l'.length : Int)), (17, vI x1_)] [] tt ll ∧ nn = n8 + 1) (N + 1) ?_ ?_
 ·exact ⟨N, 0, hM, Ak rfl rfl, rfl⟩
 clear hM; rintro t l _ ⟨n8, x1_, hM, ⟨⟨T, rfl⟩, rfl⟩, rfl⟩
 rcases n8 with _ | n8
 ·exact absurd hM (by simp [HZ])
 rw [HZ] at hM
 refine AZ rfl <| Aa fun K10 hK10 => aD hM rfl (fun hc11 hM => ?_) (fun hc11 hM => ?_)
 ·refine Af <| hK10 _ _ ?_
  refine Aa fun K12 hK12 => Aj <| Ai <| rn 1 rfl <| kC hM fun ck14 hM => rI (Rd.shp hl') ck14 rfl <| rE (AA hl') ck14 0 rfl <| rA rfl fun b15 => ry [0] rfl <| A_sc [(some 25, false)] (conG prog [(25, cV (Jd N x1_ ((l'[x1_.toNat]!).1) ((l'[x1_.toNat]!).2) ask0_) fun u0_ => vI u0_)]) <| rn 2 rfl ?_
  refine rm 1 [0] rfl <| kB hM fun r17 hr18 hM => rg _ (AO (caps := [vP bask0_ 0]) rfl du rfl) (fun o w z_ => Uc N x1_ ((l'[x1_.toNat]!).1) ((l'[x1_.toNat]!).2) ask0_ _ hr18 z_.view bask0_ ask0_v (z_.r hask0_) (AM hbask0_ o w z_)) (Ao hr18) <| rz rfl <| AZ rfl <| aN hM rfl (fun hc20 hM => ?_) (fun hc20 hM => ?_)
  ·refine AZ rfl ?_
   cases hM
   exact aR eV2
  refine Af <| hK12 _ _ ?_
  refine Ar <| kC hM fun ck22 hM => rX ck22 rfl <| rz rfl <| fg _ (Sub.of (suC _ suN)) ?_
  exact ⟨n8 + 1, by omega, n8, (x1_ + 1), hM, Ak rfl rfl, rfl⟩
 refine AS <| hK6 _ _ ?_
 refine AZ rfl ?_
 cases hM
 exact aR eV2
def Gc (N : Nat) (c : AN) (action : Int) (l' : List (Int × BitVec 128)) : Option Int := (Di N c.2.2.2.2.2.1 action).bind fun r5 => if r5 = true then ck (0 ≤ action ∧ action < (c.2.2.2.2.2.1.length : Int)) (if (l'.length : Int) ≠ (((c.2.2.2.2.2.1)[action.toNat]!.2.1).length : Int) then some 2 else (KV N l' (l'.length : Int) ((c.2.2.2.2.2.1)[action.toNat]!.2.1)).bind fun r22 => some r22.2) else some 5
theorem Qm (N c action l' r) (hM : Gc N c action l' = some r) (ro) (cv : AH) (hc : Bun35R ro cv c) (l'v) (hl' : Rd enc_54 ro l'v l') : Does prog 314 #[vA (Ag c cv), vI action, l'v] ro [] (pV (vI r)) := by
 unfold Gc at hM
 refine Ac follows func314 rfl 37 rfl _ fz3 (fun base0_ => ?_)
 refine Ai <| rA rfl fun b2 => rz rfl <| Aa fun K3 hK3 => A_sc [(some 14, false)] (conG prog [(14, cV (Di N c.2.2.2.2.2.1 action) fun u0_ => vB u0_)]) <| rm 4 [0] rfl <| kB hM fun r5 hr6 hM => rg _ (cF SF) (fun o w z_ => Jz N c.2.2.2.2.2.1 action _ hr6 z_.view cv.2.2.2.2.1 (RdN.mono z_.ro_cell hc.2.2.2.2.1)) (Ao hr6) <| rz rfl <| AB _ rfl (fun hc7 => ?_) (fun hc7 => ?_)
 ·replace hM := ifn (Bool.eq_false_iff.1 (EF hc7)) hM
  refine AZ rfl ?_
  cases hM
  exact aR eV1
 replace hM := ifp (EG hc7) hM
 refine Af <| hK3 _ _ ?_
 refine Ai <| rm 4 [0] rfl <| kC hM fun ck10 hM => ?_
 obtain ⟨_, ⟨s11, s12, hs13, hs14, rfl⟩, hat15⟩ := RdN.at (E := Hk) hc.2.2.2.2.1 (CP ck10)
 refine rI (RdN.shp hc.2.2.2.2.1) ck10 rfl <| rF (RdN.shp hc.2.2.2.2.1) (Eh ck10) rfl <| Mv s11 (vs := [vS ((c.2.2.2.2.2.1)[action.toNat]!.1), s11, s12]) (action.toNat * 3) 1 rfl rfl (fun o w z_ => At.mono z_.ro_cell hat15) rfl <| rA rfl fun b16 => r_s [(b16, 29, #[s11]), (b2, 238, (Ag c cv))] 0 _ _ _ _ _ (#[s11]) rfl rfl rfl (AI rfl (Rd.shp hs13)) (.ofS rfl rfl (Ab (Shp.one (Rd.shp hs13)) Bh)) rfl rfl <| As <| Aa fun K17 hK17 => Ai <| rn 1 rfl <| rL (Rd.shp hl') rfl <| rm 1 [0] rfl <| rL (Rd.shp hs13) rfl <| rz rfl ?_
 refine aN hM rfl (fun hc19 hM => ?_) (fun hc19 hM => ?_)
 ·refine AZ rfl ?_
  cases hM
  exact aR eV1
 refine Af <| hK17 _ _ ?_
 refine A_sc [(some 33, false)] (conG prog [(33, cV (KV N l' (l'.length : Int) ((c.2.2.2.2.2.1)[action.toNat]!.2.1)) fun u0_ => vT #[vI u0_.1, vI u0_.2])]) <| rn 2 rfl <| rL (Rd.shp hl') rfl <| r_W (vF 372 #[] #[vP b16 0]) rfl (EM rfl) <| kB hM fun r22 hr23 hM => rg _ (cF dv) (fun o w z_ => WT N l' (l'.length : Int) ((c.2.2.2.2.2.1)[action.toNat]!.2.1) _ hr23 z_.view l'v ((AA hl') o w z_) b16 s11 (z_.r hs13) (BR 0 rfl rfl o w z_)) (Ao hr23) <| rz rfl <| DJ [(9, vI r22.2)] rfl (fun T => ?_)
 refine AZ rfl ?_
 cases hM
 exact aR eV1
def Ih (N : Nat) (c : AN) (_ : List UInt8) (x_1 : Int) (x_2 : List (Int × Int × Int)) (x_3 : List Int) (x_4 : Int) (x_5 : List (Int × BitVec 128)) (x_6 : Int) : Option Int := (DM N x_1 0 3).bind fun r5 => (Al N r5 10).bind fun r7 => (Al N (decide ((x_2.length : Int) > 0)) 5).bind fun r9 => (Ga N c x_2 2).bind fun r11 => (GL N c x_3).bind fun r13 => (Bo N x_3 x_4).bind fun r15 => (Al N r15 16).bind fun r17 => (Gc N c x_4 x_5).bind fun r19 => (AE N x_6 1 256).bind fun r21 => (Al N r21 7).bind fun r23 => (AC N ([r7, r9, r11, r13, r17, r19, r23])).bind fun r28 => some r28
theorem Vz (N c x_0 x_1 x_2 x_3 x_4 x_5 x_6 r) (hM : Ih N c x_0 x_1 x_2 x_3 x_4 x_5 x_6 = some r) (ro) (cv : AH) (hc : Bun35R ro cv c) (x_2v) (hx_2 : Rd DO ro x_2v x_2) (x_3v) (hx_3 : Rd Bf ro x_3v x_3) (x_5v) (hx_5 : Rd enc_54 ro x_5v x_5) : DoesI prog 247 #[vA (Ag c cv), vA #[vS x_0, vI x_1, x_2v, x_3v, vI x_4, x_5v, vI x_6]] Ej ro [] (pV (vI r)) := by
 unfold Ih at hM
 refine AQ follows func247 rfl 43 rfl _ fz2 AW (fun base0_ => ?_)
 refine Ai <| rA rfl fun b2 => rA rfl fun b3 => rz rfl <| Aa fun K4 hK4 => ?_
 refine BA [(some 17, false), (some 21, false), (some 27, false), (some 36, false), (some 41, false), (some 42, false)] (conG prog [(17, cV (Ga N c x_2 2) fun u0_ => vI u0_), (21, cV (GL N c x_3) fun u0_ => vI u0_), (27, cV (Bo N x_3 x_4) fun u0_ => vB u0_), (36, cV (Gc N c x_4 x_5) fun u0_ => vI u0_), (42, fun _ _ v_ L_ U_ => ∀ u0_, DM N x_1 0 3 = some u0_ → ∀ u1_, Al N u0_ 10 = some u1_ → ∀ u2_, Al N (decide ((x_2.length : Int) > 0)) 5 = some u2_ → ∀ u3_, Ga N c x_2 2 = some u3_ → ∀ u4_, GL N c x_3 = some u4_ → ∀ u5_, Bo N x_3 x_4 = some u5_ → ∀ u6_, Al N u5_ 16 = some u6_ → ∀ u7_, Gc N c x_4 x_5 = some u7_ → ∀ u8_, AE N x_6 1 256 = some u8_ → ∀ u9_, Al N u8_ 7 = some u9_ → ∀ u10_, AC N ([u1_, u2_, u3_, u4_, u6_, u7_, u9_]) = some u10_ → (pV (vI u10_)) v_ L_ U_)]) [] (by decide +kernel) (fun hn => Ba) ?_
 refine rm 2 [0] rfl <| kB hM fun r5 hr6 hM => rc _ (cF es) (LK N x_1 0 3 _ hr6) <| kB hM fun r7 hr8 hM => rc _ (cF AL) (Az N r5 10 _ hr8) <| rm 2 [0] rfl <| rL (Rd.shp hx_2) rfl <| rn 1 rfl <| kB hM fun r9 hr10 hM => rc _ (cF AL) (Az N (decide ((x_2.length : Int) > 0)) 5 _ hr10) <| rm 3 [1, 0] rfl <| kB hM fun r11 hr12 hM => rg _ (cF XO) (fun o w z_ => Sk N c x_2 2 _ hr12 z_.view cv (Bun35R.mono z_.ro_cell hc) x_2v (z_.r hx_2)) (Ao hr12) <| rm 3 [1, 0] rfl <| kB hM fun r13 hr14 hM => rg _ (cF er) (fun o w z_ => (Does.inv (TZ N c x_3 _ hr14 z_.view cv (Bun35R.mono z_.ro_cell hc) x_3v (z_.r hx_3)) _)) (Ao hr14) <| rm 5 [0, 0] rfl <| kB hM fun r15 hr16 hM => rg _ (cF SN) (fun o w z_ => (Does.inv (ED N x_3 x_4 _ hr16 z_.view x_3v (z_.r hx_3)) _)) (Ao hr16) <| kB hM fun r17 hr18 hM => rc _ (cF AL) (Az N r15 16 _ hr18) <| rm 7 [1, 0, 0] rfl <| kB hM fun r19 hr20 hM => rg _ (cF XM) (fun o w z_ => (Does.inv (Qm N c x_4 x_5 _ hr20 z_.view cv (Bun35R.mono z_.ro_cell hc) x_5v (z_.r hx_5)) _)) (Ao hr20) <| rm 2 [0] rfl <| kB hM fun r21 hr22 hM => rc _ (cF Cd) (AJ N x_6 1 256 _ hr22) <| kB hM fun r23 hr24 hM => rc _ (cF AL) (Az N r21 7 _ hr24) ?_
 refine BF (Ls := [(KO b3 x_0 x_1 x_2v x_3v x_4 x_5v x_6), [(b2, 238, (Ag c cv))]]) 39 Bf [r7, r9, r11, r13, r17, r19, r23] [vI r7, vI r9, vI r11, vI r13, vI r17, vI r19, vI r23] [vI 0, vI 0, vI 0, vI 0, vI 0, vI 0, vI 0] rfl rfl rfl rfl rfl rfl rfl (by kernel_rfl) (by kernel_rfl) rfl rfl rfl (fun s25 S26 H27 => ?_)
 refine kB hM fun r28 hr29 hM => rg _ (cF BV) (fun o w z_ => (Does.inv (BD N ([r7, r9, r11, r13, r17, r19, r23]) _ hr29 z_.view s25 ((Ap H27 (Ad (Ls := [(KO b3 x_0 x_1 x_2v x_3v x_4 x_5v x_6), [(b2, 238, (Ag c cv))], S26]) (k := 2) rfl rfl)) o w z_)) _)) (fun _ _ v_ L_ U_ => ⟨fun h_ => h_ _ hr6 _ hr8 _ hr10 _ hr12 _ hr14 _ hr16 _ hr18 _ hr20 _ hr22 _ hr24 _ hr29, fun h_ => by intro _ e_; cases Option.some.inj (e_.symm.trans hr6); intro _ e_; cases Option.some.inj (e_.symm.trans hr8); intro _ e_; cases Option.some.inj (e_.symm.trans hr10); intro _ e_; cases Option.some.inj (e_.symm.trans hr12); intro _ e_; cases Option.some.inj (e_.symm.trans hr14); intro _ e_; cases Option.some.inj (e_.symm.trans hr16); intro _ e_; cases Option.some.inj (e_.symm.trans hr18); intro _ e_; cases Option.some.inj (e_.symm.trans hr20); intro _ e_; cases Option.some.inj (e_.symm.trans hr22); intro _ e_; cases Option.some.inj (e_.symm.trans hr24); intro _ e_; cases Option.some.inj (e_.symm.trans hr29); exact h_⟩) ?_
 refine rz rfl <| hK4 _ _ ?_
 refine DJ [(4, vI r28)] rfl (fun T => ?_)
 cases hM
 exact aR eV1
def GY (N : Nat) (i : Int) (x_0 : List UInt8) (x_1 : Int) (x_2 : List (Int × Int × Int)) (x_3 : List Int) (x_4 : Int) (x_5 : List (Int × BitVec 128)) (x_6 : Int) (c2_ : List (List UInt8)) (c3_p0_0_ : AN) : Option Int := ck (0 ≤ i ∧ i < (c2_.length : Int)) ((Df N (c2_[i.toNat]!)).bind fun r5 => (Al N r5 4).bind fun r7 => (Bb N c2_ i).bind fun r9 => (Ih N c3_p0_0_ x_0 x_1 x_2 x_3 x_4 x_5 x_6).bind fun r11 => (AC N ([r7, r9, r11])).bind fun r16 => some r16)
theorem QC (N i x_0 x_1 x_2 x_3 x_4 x_5 x_6 c2_ c3_p0_0_ r) (hM : GY N i x_0 x_1 x_2 x_3 x_4 x_5 x_6 c2_ c3_p0_0_ = some r) (ro x_2v) (hx_2 : Rd DO ro x_2v x_2) (x_3v) (hx_3 : Rd Bf ro x_3v x_3) (x_5v) (hx_5 : Rd enc_54 ro x_5v x_5) (bc2_ : Nat) (c2_v) (hc2_ : Rd Bz ro c2_v c2_) (hbc2_ : Blk ro bc2_ [c2_v]) (bc3_ : Nat) (c3_p0_0_v : AH) (hc3_p0_0_ : Bun35R ro c3_p0_0_v c3_p0_0_) (hbc3_ : Blk ro bc3_ [vF 247 #[vA (Ag c3_p0_0_ c3_p0_0_v)] #[]]) : DoesI prog 311 #[vI i, vA #[vS x_0, vI x_1, x_2v, x_3v, vI x_4, x_5v, vI x_6], vP bc2_ 0, vP bc3_ 0] Ej ro [] (pV (vI r)) := by
 unfold GY at hM
 refine AQ follows func311 rfl 21 rfl _ fz4 AW (fun base0_ => ?_)
 refine Ai <| rA rfl fun b2 => rz rfl <| Aa fun K3 hK3 => ?_
 refine BA [(some 15, false), (some 18, false), (some 19, false), (some 20, false)] (conG prog [(15, cV (Bb N c2_ i) fun u0_ => vI u0_), (18, cV (Ih N c3_p0_0_ x_0 x_1 x_2 x_3 x_4 x_5 x_6) fun u0_ => vI u0_), (20, fun _ _ v_ L_ U_ => ∀ u0_, Df N (c2_[i.toNat]!) = some u0_ → ∀ u1_, Al N u0_ 4 = some u1_ → ∀ u2_, Bb N c2_ i = some u2_ → ∀ u3_, Ih N c3_p0_0_ x_0 x_1 x_2 x_3 x_4 x_5 x_6 = some u3_ → ∀ u4_, AC N ([u1_, u2_, u3_]) = some u4_ → (pV (vI u4_)) v_ L_ U_)]) [] (by decide +kernel) (fun hn => Ba) ?_
 refine Ec c2_v (vs := [c2_v]) (o := 0) rfl rfl (AM hbc2_) rfl <| rn 1 rfl <| kC hM fun ck4 hM => rI (Rd.shp hc2_) ck4 rfl <| rE (AA hc2_) ck4 0 rfl <| kB hM fun r5 hr6 hM => rc _ (cF Kz) (Iz N (c2_[i.toNat]!) _ hr6) <| kB hM fun r7 hr8 hM => rc _ (cF AL) (Az N r5 4 _ hr8) <| Ec c2_v (vs := [c2_v]) (o := 0) rfl rfl (AM hbc2_) rfl <| rn 1 rfl <| kB hM fun r9 hr10 hM => rg _ (cF Jt) (fun o w z_ => (Does.inv (Es N c2_ i _ hr10 z_.view c2_v (z_.r hc2_)) _)) (Ao hr10) <| Ec (vF 247 #[vA (Ag c3_p0_0_ c3_p0_0_v)] #[]) (vs := [vF 247 #[vA (Ag c3_p0_0_ c3_p0_0_v)] #[]]) (o := 0) rfl rfl (AM hbc3_) rfl <| rm 1 [0] rfl <| kB hM fun r11 hr12 hM => rg _ (Nd (bd := [vA (Ag c3_p0_0_ c3_p0_0_v)]) (caps := []) rfl fl rfl) (fun o w z_ => Vz N c3_p0_0_ x_0 x_1 x_2 x_3 x_4 x_5 x_6 _ hr12 z_.view c3_p0_0_v (Bun35R.mono z_.ro_cell hc3_p0_0_) x_2v (z_.r hx_2) x_3v (z_.r hx_3) x_5v (z_.r hx_5)) (Ao hr12) ?_
 refine BF (Ls := [(KO b2 x_0 x_1 x_2v x_3v x_4 x_5v x_6)]) 39 Bf [r7, r9, r11] [vI r7, vI r9, vI r11] [vI 0, vI 0, vI 0] rfl rfl rfl rfl rfl rfl rfl (by kernel_rfl) (by kernel_rfl) rfl rfl rfl (fun s13 S14 H15 => ?_)
 refine kB hM fun r16 hr17 hM => rg _ (cF BV) (fun o w z_ => (Does.inv (BD N ([r7, r9, r11]) _ hr17 z_.view s13 ((Ap H15 (Ad (Ls := [(KO b2 x_0 x_1 x_2v x_3v x_4 x_5v x_6), S14]) (k := 1) rfl rfl)) o w z_)) _)) (fun _ _ v_ L_ U_ => ⟨fun h_ => h_ _ hr6 _ hr8 _ hr10 _ hr12 _ hr17, fun h_ => by intro _ e_; cases Option.some.inj (e_.symm.trans hr6); intro _ e_; cases Option.some.inj (e_.symm.trans hr8); intro _ e_; cases Option.some.inj (e_.symm.trans hr10); intro _ e_; cases Option.some.inj (e_.symm.trans hr12); intro _ e_; cases Option.some.inj (e_.symm.trans hr17); exact h_⟩) ?_
 refine rz rfl <| hK3 _ _ ?_
 cases hM
 exact aR eV1
def FW (N : Nat) (l' : List ((List UInt8) × Int × (List (Int × Int × Int)) × (List Int) × Int × (List (Int × BitVec 128)) × Int)) (ask0_ : List (List UInt8)) (ask1_p0_0_ : AN) : Nat → Int → Option (Int × Int)
  | 0, _ => none
  | n8 + 1, x1_ => if x1_ < (l'.length : Int) then ck (0 ≤ x1_ ∧ x1_ < (l'.length : Int)) ((GY N x1_ (l'[x1_.toNat]!.1) (l'[x1_.toNat]!.2.1) (l'[x1_.toNat]!.2.2.1) (l'[x1_.toNat]!.2.2.2.1) (l'[x1_.toNat]!.2.2.2.2.1) (l'[x1_.toNat]!.2.2.2.2.2.1) (l'[x1_.toNat]!.2.2.2.2.2.2) ask0_ ask1_p0_0_).bind fun r24 => if (r24 : Int) ≠ 0 then some (x1_, r24) else ck (-9223372036854775808 ≤ (x1_ + 1) ∧ (x1_ + 1) ≤ 9223372036854775807) ((FW N l' ask0_ ask1_p0_0_ n8) (x1_ + 1))) else some (0, 0)
def IX (N : Nat) (l' : List ((List UInt8) × Int × (List (Int × Int × Int)) × (List Int) × Int × (List (Int × BitVec 128)) × Int)) (most : Int) (ask0_ : List (List UInt8)) (ask1_p0_0_ : AN) : Option (Int × Int) := if (l'.length : Int) > most then some (0, 2) else FW N l' ask0_ ask1_p0_0_ N 0
theorem TQ (N l' most ask0_ ask1_p0_0_ r) (hM : IX N l' most ask0_ ask1_p0_0_ = some r) (ro l'v) (hl' : RdN Il ro l'v l') (bask0_ : Nat) (ask0_v) (hask0_ : Rd Bz ro ask0_v ask0_) (hbask0_ : Blk ro bask0_ [ask0_v]) (bask1_ : Nat) (ask1_p0_0_v : AH) (hask1_p0_0_ : Bun35R ro ask1_p0_0_v ask1_p0_0_) (hbask1_ : Blk ro bask1_ [vF 247 #[vA (Ag ask1_p0_0_ ask1_p0_0_v)] #[]]) : DoesI prog 310 #[l'v, vI most, vF 311 #[] #[vP bask0_ 0, vP bask1_ 0]] Ej ro [] (pV (vT #[vI r.1, vI r.2])) := by
 unfold IX at hM
 refine AQ follows func310 rfl 31 rfl _ fz3 AW (fun base0_ => ?_)
 refine AZ rfl <| Aa fun K2 hK2 => Ai <| rn 1 rfl <| rL (RdN.shp hl') rfl <| rz rfl <| aD hM rfl (fun hc4 hM => ?_) (fun hc4 hM => ?_)
 ·refine AZ rfl ?_
  cases hM
  exact aR eV2
 refine Af <| hK2 _ _ ?_
 refine Aa fun K6 hK6 => Ai <| rn 1 rfl <| rL (RdN.shp hl') rfl <| rz rfl <| Aj <| AU (fun tt ll nn => ∃ (n8 : Nat) (x1_ : Int), (FW N l' ask0_ ask1_p0_0_ n8 x1_ = some r) ∧ Is [(2, vF 311 #[] #[vP bask0_ 0, vP bask1_ 0]), (15, l'v), (16, vI (l'.length : Int)), (17, vI x1_)] [] tt ll ∧ nn = n8 + 1) (N + 1) ?_ ?_
 ·exact ⟨N, 0, hM, Ak rfl rfl, rfl⟩
 clear hM; rintro t l _ ⟨n8, x1_, hM, ⟨⟨T, rfl⟩, rfl⟩, rfl⟩
 rcases n8 with _ | n8
 ·exact absurd hM (by simp [FW])
 rw [FW] at hM
 refine AZ rfl <| Aa fun K10 hK10 => aD hM rfl (fun hc11 hM => ?_) (fun hc11 hM => ?_)
 ·refine Af <| hK10 _ _ ?_
  refine Aa fun K12 hK12 => Aj <| Ai <| rn 1 rfl <| kC hM fun ck14 hM => ?_
  obtain ⟨_, ⟨s15, s16, s17, hs18, hs19, hs20, rfl⟩, hat21⟩ := RdN.at (E := Il) hl' (CP ck14)
  refine rI (RdN.shp hl') ck14 rfl <| Mv (vA #[vS (l'[x1_.toNat]!.1), vI (l'[x1_.toNat]!.2.1), s15, s16, vI (l'[x1_.toNat]!.2.2.2.2.1), s17, vI (l'[x1_.toNat]!.2.2.2.2.2.2)]) (vs := [vS (l'[x1_.toNat]!.1), vI (l'[x1_.toNat]!.2.1), s15, s16, vI (l'[x1_.toNat]!.2.2.2.2.1), s17, vI (l'[x1_.toNat]!.2.2.2.2.2.2)]) (x1_.toNat * 7) 0 rfl rfl (fun o w z_ => At.mono z_.ro_cell hat21) rfl <| rA rfl fun b22 => rn 1 rfl <| r_s (KO b22 (l'[x1_.toNat]!.1) (l'[x1_.toNat]!.2.1) s15 s16 (l'[x1_.toNat]!.2.2.2.2.1) s17 (l'[x1_.toNat]!.2.2.2.2.2.2)) 0 _ _ _ _ _ (#[vS (l'[x1_.toNat]!.1), vI (l'[x1_.toNat]!.2.1), s15, s16, vI (l'[x1_.toNat]!.2.2.2.2.1), s17, vI (l'[x1_.toNat]!.2.2.2.2.2.2)]) rfl rfl rfl rfl (.ofS rfl rfl (Ab rfl (Ab rfl (Ab (Shp.one (Rd.shp hs18)) (Ab (Shp.one (Rd.shp hs19)) (Ab rfl (Ab (Shp.one (Rd.shp hs20)) (Ab rfl Bh)))))))) rfl rfl <| As ?_
  refine A_sc [(some 25, false)] (conG prog [(25, cV (GY N x1_ (l'[x1_.toNat]!.1) (l'[x1_.toNat]!.2.1) (l'[x1_.toNat]!.2.2.1) (l'[x1_.toNat]!.2.2.2.1) (l'[x1_.toNat]!.2.2.2.2.1) (l'[x1_.toNat]!.2.2.2.2.2.1) (l'[x1_.toNat]!.2.2.2.2.2.2) ask0_ ask1_p0_0_) fun u0_ => vI u0_)]) <| rm 3 [0] rfl <| kB hM fun r24 hr25 hM => rg _ (AO (caps := [vP bask0_ 0, vP bask1_ 0]) rfl eu rfl) (fun o w z_ => QC N x1_ (l'[x1_.toNat]!.1) (l'[x1_.toNat]!.2.1) (l'[x1_.toNat]!.2.2.1) (l'[x1_.toNat]!.2.2.2.1) (l'[x1_.toNat]!.2.2.2.2.1) (l'[x1_.toNat]!.2.2.2.2.2.1) (l'[x1_.toNat]!.2.2.2.2.2.2) ask0_ ask1_p0_0_ _ hr25 z_.view s15 (z_.r hs18) s16 (z_.r hs19) s17 (z_.r hs20) bask0_ ask0_v (z_.r hask0_) (AM hbask0_ o w z_) bask1_ ask1_p0_0_v (Bun35R.mono z_.ro_cell hask1_p0_0_) (AM hbask1_ o w z_)) (Ao hr25) <| rn 1 rfl ?_
  refine As <| AZ rfl <| aN hM rfl (fun hc27 hM => ?_) (fun hc27 hM => ?_)
  ·refine AZ rfl ?_
   cases hM
   exact aR eV2
  refine Af <| hK12 _ _ ?_
  refine Ar <| kC hM fun ck29 hM => rX ck29 rfl <| rz rfl <| fg _ (Sub.of (suC _ suN)) ?_
  exact ⟨n8 + 1, by omega, n8, (x1_ + 1), hM, Ak rfl rfl, rfl⟩
 refine AS <| hK6 _ _ ?_
 refine AZ rfl ?_
 cases hM
 exact aR eV2
def IN (N : Nat) (l' : List ((List UInt8) × Int × (List (Int × Int × Int)) × (List Int) × Int × (List (Int × BitVec 128)) × Int)) (most : Int) (ask0_ : AN) : Option (Int × Int) := (IT N l').bind fun r4 => (IX N l' most r4 ask0_).bind fun r11 => some (r11.1, r11.2)
theorem TH (N l' most ask0_ r) (hM : IN N l' most ask0_ = some r) (ro l'v) (hl' : RdN Il ro l'v l') (ask0_v : AH) (hask0_ : Bun35R ro ask0_v ask0_) : DoesI prog 245 #[l'v, vI most, vF 246 #[] #[], vF 247 #[vA (Ag ask0_ ask0_v)] #[]] Ej ro [] (pV (vT #[vI r.1, vI r.2])) := by
 unfold IN at hM
 refine AQ follows func245 rfl 20 rfl _ fz4 AW (fun base0_ => ?_)
 refine Ai <| rA rfl fun b2 => rz rfl <| A_sc [(some 13, false)] (conG prog [(13, fun _ _ v_ L_ U_ => ∀ u0_, IT N l' = some u0_ → (p1 (fun s_ => s_) 9 Bz u0_) v_ L_ U_)]) <| rn 2 rfl <| kB hM fun r4 hr5 hM => AP (Ls := [(RN b2 (vF 247 #[vA (Ag ask0_ ask0_v)] #[]))]) (fun s6 => s6) 9 Bz r4 309 _ rfl rfl rfl (cF ez) (fun o w z_ => (Does.inv (TM N l' _ hr5 z_.view l'v (RdN.mono z_.ro_cell hl')) _)) (Ao hr5) (fun s6 S7 H8 => ?_)
 refine rA rfl fun b9 => r_s (List.flatten [(Zv b9 s6), (RN b2 (vF 247 #[vA (Ag ask0_ ask0_v)] #[])), S7]) 0 _ _ _ _ _ (#[s6]) rfl rfl rfl (AI rfl (Sl.shp H8)) (.ofS rfl rfl (Ab (Shp.one (Sl.shp H8)) Bh)) rfl rfl <| As <| A_sc [(some 17, false)] (conG prog [(17, cV (IX N l' most r4 ask0_) fun u0_ => vT #[vI u0_.1, vI u0_.2])]) <| rn 2 rfl <| r_W (vF 311 #[] #[vP b9 0, vP b2 0]) rfl (EM rfl) <| kB hM fun r11 hr12 hM => rg _ (cF ew) (fun o w z_ => TQ N l' most r4 ask0_ _ hr12 z_.view l'v (RdN.mono z_.ro_cell hl') b9 s6 ((Ap H8 (Ad (Ls := [(Zv b9 s6), (RN b2 (vF 247 #[vA (Ag ask0_ ask0_v)] #[])), S7]) (k := 2) rfl rfl)) o w z_) (BR 0 rfl rfl o w z_) b2 ask0_v (Bun35R.mono z_.ro_cell hask0_) (BR 1 rfl rfl o w z_)) (Ao hr12) <| rz rfl ?_
 cases hM
 exact aR eV2
def Lu (N : Nat) (c : AN) : Option (Int × Int) := (IN N c.2.2.2.2.2.2.1 8 c).bind fun r4 => some (r4.1, r4.2)
theorem TU (N c r) (hM : Lu N c = some r) (ro) (cv : AH) (hc : Bun35R ro cv c) : DoesI prog 199 #[vA (Ag c cv)] Ej ro [] (pV (vT #[vI r.1, vI r.2])) := by
 unfold Lu at hM
 refine AQ follows func199 rfl 12 rfl _ fz1 AW (fun base0_ => ?_)
 refine Ai <| rA rfl fun b2 => rz rfl <| A_sc [(some 9, false)] (conG prog [(9, cV (IN N c.2.2.2.2.2.2.1 8 c) fun u0_ => vT #[vI u0_.1, vI u0_.2])]) <| rm 4 [0, 0] rfl <| r_W (vF 247 #[vA (Ag c cv)] #[]) rfl (EU rfl rfl) <| kB hM fun r4 hr5 hM => rg _ (cF fo) (fun o w z_ => TH N c.2.2.2.2.2.2.1 8 c _ hr5 z_.view cv.2.2.2.2.2.1 (RdN.mono z_.ro_cell hc.2.2.2.2.2.1) cv (Bun35R.mono z_.ro_cell hc)) (Ao hr5) <| rz rfl ?_
 cases hM
 exact aR eV2
def HR (N : Nat) (l' : List ((List UInt8) × Int × (List (Int × Int × Int)) × (List Int) × Int × (List (Int × BitVec 128)) × Int)) (i : Int) : Option Bool := ck ((-9223372036854775808 ≤ ((l'.length : Int) - 1) ∧ ((l'.length : Int) - 1) ≤ 9223372036854775807)) ((AE N i 0 ((l'.length : Int) - 1)).bind fun r4 => some r4)
theorem RW (N l' i r) (hM : HR N l' i = some r) (ro l'v) (hl' : RdN Il ro l'v l') : Does prog 373 #[l'v, vI i] ro [] (pV (vB r)) := by
 unfold HR at hM
 refine Ac follows func373 rfl 10 rfl _ fz2 (fun base0_ => ?_)
 refine AZ rfl <| Ai <| rn 2 rfl <| rL (RdN.shp hl') rfl <| kC hM fun ck3 hM => rX ck3 rfl <| kB hM fun r4 hr5 hM => rc _ (cF Cd) (AJ N i 0 ((l'.length : Int) - 1) _ hr5) <| rz rfl ?_
 cases hM
 exact aR eV1
def EL (N : Nat) (c : AN) (x_0 : Int) (x_1 : Int) (_ : List (Int × Int × Int × Int × BitVec 128)) (_ : List (Int × BitVec 128)) (_ : Int) (_ : Int) : Option Int := if x_0 = 0 then (HR N c.2.2.2.2.2.2.1 x_1).bind fun r9 => (Al N r9 5).bind fun r11 => some r11 else if x_0 = 1 then (Al N (x_1 == 0) 5).bind fun r16 => some r16 else if x_0 = 2 then (Di N c.2.2.2.2.2.1 x_1).bind fun r21 => (Al N r21 5).bind fun r23 => some r23 else if x_0 = 3 then (DG N c x_1).bind fun r28 => (Al N r28 5).bind fun r30 => some r30 else some 10
theorem PK (N c x_0 x_1 x_2 x_3 x_4 x_5 r) (hM : EL N c x_0 x_1 x_2 x_3 x_4 x_5 = some r) (ro) (cv : AH) (hc : Bun35R ro cv c) (x_2v : Value) (_hx_2 : Rd enc_56 ro x_2v x_2) (x_3v : Value) (_hx_3 : Rd enc_54 ro x_3v x_3) : Does prog 317 #[vA (Ag c cv), vA #[vI x_0, vI x_1, x_2v, x_3v, vI x_4, vI x_5]] ro [] (pV (vI r)) := by
 unfold EL at hM
 refine Ac follows func317 rfl 39 rfl _ fz2 (fun base0_ => ?_)
 refine Ai <| rA rfl fun b2 => rA rfl fun b3 => rz rfl <| Aa fun K4 hK4 => AY [0] rfl <| Aj <| AZ rfl <| aE hM rfl (fun hc7 hM => ?_) (fun hc7 hM => ?_)
 ·refine A_sc [(some 14, false)] (conG prog [(14, cV (HR N c.2.2.2.2.2.2.1 x_1) fun u0_ => vB u0_)]) <| rm 5 [1, 0] rfl <| kB hM fun r9 hr10 hM => rg _ (cF dt) (fun o w z_ => RW N c.2.2.2.2.2.2.1 x_1 _ hr10 z_.view cv.2.2.2.2.2.1 (RdN.mono z_.ro_cell hc.2.2.2.2.2.1)) (Ao hr10) <| kB hM fun r11 hr12 hM => rc _ (cF AL) (Az N r9 5 _ hr12) <| rz rfl ?_
  cases hM
  exact aR eV1
 refine AZ rfl <| aE hM rfl (fun hc14 hM => ?_) (fun hc14 hM => ?_)
 ·refine Ai <| rm 3 [0] rfl <| kB hM fun r16 hr17 hM => rc _ (cF AL) (Az N (x_1 == 0) 5 _ hr17) <| rz rfl ?_
  cases hM
  exact aR eV1
 refine AZ rfl <| aE hM rfl (fun hc19 hM => ?_) (fun hc19 hM => ?_)
 ·refine A_sc [(some 29, false)] (conG prog [(29, cV (Di N c.2.2.2.2.2.1 x_1) fun u0_ => vB u0_)]) <| rm 5 [1, 0] rfl <| kB hM fun r21 hr22 hM => rg _ (cF SF) (fun o w z_ => Jz N c.2.2.2.2.2.1 x_1 _ hr22 z_.view cv.2.2.2.2.1 (RdN.mono z_.ro_cell hc.2.2.2.2.1)) (Ao hr22) <| kB hM fun r23 hr24 hM => rc _ (cF AL) (Az N r21 5 _ hr24) <| rz rfl ?_
  cases hM
  exact aR eV1
 refine AZ rfl <| aE hM rfl (fun hc26 hM => ?_) (fun hc26 hM => ?_)
 ·refine A_sc [(some 37, false)] (conG prog [(37, cV (DG N c x_1) fun u0_ => vB u0_)]) <| rm 4 [1, 0] rfl <| kB hM fun r28 hr29 hM => rg _ (cF SO) (fun o w z_ => Lq N c x_1 _ hr29 z_.view cv (Bun35R.mono z_.ro_cell hc)) (Ao hr29) <| kB hM fun r30 hr31 hM => rc _ (cF AL) (Az N r28 5 _ hr31) <| rz rfl ?_
  cases hM
  exact aR eV1
 refine Af <| hK4 _ _ ?_
 refine AZ rfl ?_
 cases hM
 exact aR eV1
def Fa (N : Nat) (c : AN) (x_0 : Int) (_ : Int) (x_2 : List (Int × Int × Int × Int × BitVec 128)) (_ : List (Int × BitVec 128)) (_ : Int) (_ : Int) : Option Int := if x_0 = 1 then (FR N c ([]) x_2).bind fun r8 => some r8 else (Al N ((x_2.length : Int) == 0) 4).bind fun r11 => some r11
theorem QM (N c x_0 x_1 x_2 x_3 x_4 x_5 r) (hM : Fa N c x_0 x_1 x_2 x_3 x_4 x_5 = some r) (ro) (cv : AH) (hc : Bun35R ro cv c) (x_2v) (hx_2 : Rd enc_56 ro x_2v x_2) (x_3v : Value) (_hx_3 : Rd enc_54 ro x_3v x_3) : DoesI prog 318 #[vA (Ag c cv), vA #[vI x_0, vI x_1, x_2v, x_3v, vI x_4, vI x_5]] Ej ro [] (pV (vI r)) := by
 unfold Fa at hM
 refine AQ follows func318 rfl 18 rfl _ fz2 AW (fun base0_ => ?_)
 refine Ai <| rA rfl fun b2 => rA rfl fun b3 => rz rfl <| Aa fun K4 hK4 => AY [0] rfl <| aE hM rfl (fun hc6 hM => ?_) (fun hc6 hM => ?_)
 ·refine A_sc [(some 12, false)] (conG prog [(12, cV (FR N c ([]) x_2) fun u0_ => vI u0_)]) <| rm 4 [1, 0] rfl <| kB hM fun r8 hr9 hM => rg _ (cF XN) (fun o w z_ => Qk N c ([]) x_2 _ hr9 z_.view cv (Bun35R.mono z_.ro_cell hc) nS ((fun _ _ _ => .inl ⟨rfl, rfl⟩) o w z_) x_2v (z_.r hx_2)) (Ao hr9) <| rz rfl ?_
  cases hM
  exact aR eV1
 refine Af <| hK4 _ _ ?_
 refine Ai <| rm 2 [0] rfl <| rL (Rd.shp hx_2) rfl <| rn 1 rfl <| kB hM fun r11 hr12 hM => rc _ (cF AL) (Az N ((x_2.length : Int) == 0) 4 _ hr12) <| rz rfl ?_
 cases hM
 exact aR eV1
def Fb (N : Nat) (c : AN) (x_0 : Int) (x_1 : Int) (_ : List (Int × Int × Int × Int × BitVec 128)) (x_3 : List (Int × BitVec 128)) (_ : Int) (_ : Int) : Option Int := if x_0 = 2 then (Gc N c x_1 x_3).bind fun r8 => some r8 else (Al N ((x_3.length : Int) == 0) 4).bind fun r11 => some r11
theorem QN (N c x_0 x_1 x_2 x_3 x_4 x_5 r) (hM : Fb N c x_0 x_1 x_2 x_3 x_4 x_5 = some r) (ro) (cv : AH) (hc : Bun35R ro cv c) (x_2v : Value) (_hx_2 : Rd enc_56 ro x_2v x_2) (x_3v) (hx_3 : Rd enc_54 ro x_3v x_3) : Does prog 319 #[vA (Ag c cv), vA #[vI x_0, vI x_1, x_2v, x_3v, vI x_4, vI x_5]] ro [] (pV (vI r)) := by
 unfold Fb at hM
 refine Ac follows func319 rfl 19 rfl _ fz2 (fun base0_ => ?_)
 refine Ai <| rA rfl fun b2 => rA rfl fun b3 => rz rfl <| Aa fun K4 hK4 => AY [0] rfl <| aE hM rfl (fun hc6 hM => ?_) (fun hc6 hM => ?_)
 ·refine A_sc [(some 13, false)] (conG prog [(13, cV (Gc N c x_1 x_3) fun u0_ => vI u0_)]) <| rm 5 [1, 0, 0] rfl <| kB hM fun r8 hr9 hM => rg _ (cF XM) (fun o w z_ => Qm N c x_1 x_3 _ hr9 z_.view cv (Bun35R.mono z_.ro_cell hc) x_3v (z_.r hx_3)) (Ao hr9) <| rz rfl ?_
  cases hM
  exact aR eV1
 refine Af <| hK4 _ _ ?_
 refine Ai <| rm 2 [0] rfl <| rL (Rd.shp hx_3) rfl <| rn 1 rfl <| kB hM fun r11 hr12 hM => rc _ (cF AL) (Az N ((x_3.length : Int) == 0) 4 _ hr12) <| rz rfl ?_
 cases hM
 exact aR eV1
def EH (N : Nat) (x_0 : Int) (_ : Int) (_ : List (Int × Int × Int × Int × BitVec 128)) (_ : List (Int × BitVec 128)) (x_4 : Int) (x_5 : Int) (at' : Int) (end' : Int) : Option Int := ck (-9223372036854775808 ≤ (at' + 1) ∧ (at' + 1) ≤ 9223372036854775807) ((AE N x_4 (at' + 1) end').bind fun r5 => (Al N r5 12).bind fun r7 => if x_0 = 2 then (Al N (x_5 == 0) 4).bind fun r13 => (AC N ([r13, r7])).bind fun r18 => some r18 else ck (-9223372036854775808 ≤ (at' + 1) ∧ (at' + 1) ≤ 9223372036854775807) ((AE N x_5 (at' + 1) end').bind fun r22 => (Al N r22 12).bind fun r24 => (AC N ([r7, r24])).bind fun r29 => some r29))
theorem PG (N x_0 x_1 x_2 x_3 x_4 x_5 at' end' r) (hM : EH N x_0 x_1 x_2 x_3 x_4 x_5 at' end' = some r) (ro : Ro) (x_2v : Value) (_hx_2 : Rd enc_56 ro x_2v x_2) (x_3v : Value) (_hx_3 : Rd enc_54 ro x_3v x_3) : Does prog 320 #[vA #[vI x_0, vI x_1, x_2v, x_3v, vI x_4, vI x_5], vI at', vI end'] ro [] (pV (vI r)) := by
 unfold EH at hM
 refine Ac follows func320 rfl 35 rfl _ fz3 (fun base0_ => ?_)
 refine Ai <| rA rfl fun b2 => rz rfl <| Ai <| rm 3 [0] rfl <| kC hM fun ck4 hM => rX ck4 rfl <| rn 1 rfl <| kB hM fun r5 hr6 hM => rc _ (cF Cd) (AJ N x_4 (at' + 1) end' _ hr6) <| kB hM fun r7 hr8 hM => rc _ (cF AL) (Az N r5 12 _ hr8) <| rz rfl <| Aa fun K9 hK9 => AY [0] rfl <| aE hM rfl (fun hc11 hM => ?_) (fun hc11 hM => ?_)
 ·refine A_sc [(some 23, false), (some 24, false)] (conG prog [(24, fun _ _ v_ L_ U_ => ∀ u0_, Al N (x_5 == 0) 4 = some u0_ → ∀ u1_, AC N ([u0_, r7]) = some u1_ → (pV (vI u1_)) v_ L_ U_)]) <| rm 3 [0] rfl <| kB hM fun r13 hr14 hM => rc _ (cF AL) (Az N (x_5 == 0) 4 _ hr14) <| rn 1 rfl <| BF (Ls := [(Km b2 x_0 x_1 x_2v x_3v x_4 x_5)]) 39 Bf [r13, r7] [vI r13, vI r7] [vI 0, vI 0] rfl rfl rfl rfl rfl rfl rfl (by kernel_rfl) (by kernel_rfl) rfl rfl rfl (fun s15 S16 H17 => ?_)
  refine kB hM fun r18 hr19 hM => rg _ (cF BV) (fun o w z_ => BD N ([r13, r7]) _ hr19 z_.view s15 ((Ap H17 (Ad (Ls := [(Km b2 x_0 x_1 x_2v x_3v x_4 x_5), S16]) (k := 1) rfl rfl)) o w z_)) (fun _ _ v_ L_ U_ => ⟨fun h_ => h_ _ hr14 _ hr19, fun h_ => by intro _ e_; cases Option.some.inj (e_.symm.trans hr14); intro _ e_; cases Option.some.inj (e_.symm.trans hr19); exact h_⟩) ?_
  refine rz rfl ?_
  cases hM
  exact aR eV1
 refine Af <| hK9 _ _ ?_
 refine A_sc [(some 33, false), (some 34, false)] (conG prog [(34, fun _ _ v_ L_ U_ => ∀ u0_, AE N x_5 (at' + 1) end' = some u0_ → ∀ u1_, Al N u0_ 12 = some u1_ → ∀ u2_, AC N ([r7, u1_]) = some u2_ → (pV (vI u2_)) v_ L_ U_)]) <| rm 4 [0] rfl <| kC hM fun ck21 hM => rX ck21 rfl <| rn 1 rfl <| kB hM fun r22 hr23 hM => rc _ (cF Cd) (AJ N x_5 (at' + 1) end' _ hr23) <| kB hM fun r24 hr25 hM => rc _ (cF AL) (Az N r22 12 _ hr25) <| BF (Ls := [(Km b2 x_0 x_1 x_2v x_3v x_4 x_5)]) 39 Bf [r7, r24] [vI r7, vI r24] [vI 0, vI 0] rfl rfl rfl rfl rfl rfl rfl (by kernel_rfl) (by kernel_rfl) rfl rfl rfl (fun s26 S27 H28 => ?_)
 refine kB hM fun r29 hr30 hM => rg _ (cF BV) (fun o w z_ => BD N ([r7, r24]) _ hr30 z_.view s26 ((Ap H28 (Ad (Ls := [(Km b2 x_0 x_1 x_2v x_3v x_4 x_5), S27]) (k := 1) rfl rfl)) o w z_)) (fun _ _ v_ L_ U_ => ⟨fun h_ => h_ _ hr23 _ hr25 _ hr30, fun h_ => by intro _ e_; cases Option.some.inj (e_.symm.trans hr23); intro _ e_; cases Option.some.inj (e_.symm.trans hr25); intro _ e_; cases Option.some.inj (e_.symm.trans hr30); exact h_⟩) ?_
 refine rz rfl ?_
 cases hM
 exact aR eV1
def Ij (N : Nat) (i : Int) (x_0 : Int) (x_1 : Int) (x_2 : List (Int × Int × Int × Int × BitVec 128)) (x_3 : List (Int × BitVec 128)) (x_4 : Int) (x_5 : Int) (c2_ : AN) (c3_ : List (Int × Int × (List (Int × Int × Int × Int × BitVec 128)) × (List (Int × BitVec 128)) × Int × Int)) : Option Int := (EL N c2_ x_0 x_1 x_2 x_3 x_4 x_5).bind fun r4 => (Fa N c2_ x_0 x_1 x_2 x_3 x_4 x_5).bind fun r6 => (Fb N c2_ x_0 x_1 x_2 x_3 x_4 x_5).bind fun r8 => (EH N x_0 x_1 x_2 x_3 x_4 x_5 i (c3_.length : Int)).bind fun r10 => (AC N ([r4, r6, r8, r10])).bind fun r15 => some r15
theorem Sj (N i x_0 x_1 x_2 x_3 x_4 x_5 c2_ c3_ r) (hM : Ij N i x_0 x_1 x_2 x_3 x_4 x_5 c2_ c3_ = some r) (ro x_2v) (hx_2 : Rd enc_56 ro x_2v x_2) (x_3v) (hx_3 : Rd enc_54 ro x_3v x_3) (bc2_ : Nat) (c2_v : AH) (hc2_ : Bun35R ro c2_v c2_) (hbc2_ : Blk ro bc2_ (DA c2_ c2_v)) (bc3_ : Nat) (c3_v) (hc3_ : RdN Fc ro c3_v c3_) (hbc3_ : Blk ro bc3_ [c3_v]) : DoesI prog 316 #[vI i, vA #[vI x_0, vI x_1, x_2v, x_3v, vI x_4, vI x_5], vP bc2_ 0, vP bc3_ 0] Ej ro [] (pV (vI r)) := by
 unfold Ij at hM
 refine AQ follows func316 rfl 23 rfl _ fz4 AW (fun base0_ => ?_)
 refine Ai <| rA rfl fun b2 => rz rfl <| Aa fun K3 hK3 => ?_
 refine BA [(some 9, false), (some 12, false), (some 15, false), (some 20, false), (some 21, false), (some 22, false)] (conG prog [(9, cV (EL N c2_ x_0 x_1 x_2 x_3 x_4 x_5) fun u0_ => vI u0_), (12, cV (Fa N c2_ x_0 x_1 x_2 x_3 x_4 x_5) fun u0_ => vI u0_), (15, cV (Fb N c2_ x_0 x_1 x_2 x_3 x_4 x_5) fun u0_ => vI u0_), (20, cV (EH N x_0 x_1 x_2 x_3 x_4 x_5 i (c3_.length : Int)) fun u0_ => vI u0_), (22, fun _ _ v_ L_ U_ => ∀ u0_, EL N c2_ x_0 x_1 x_2 x_3 x_4 x_5 = some u0_ → ∀ u1_, Fa N c2_ x_0 x_1 x_2 x_3 x_4 x_5 = some u1_ → ∀ u2_, Fb N c2_ x_0 x_1 x_2 x_3 x_4 x_5 = some u2_ → ∀ u3_, EH N x_0 x_1 x_2 x_3 x_4 x_5 i (c3_.length : Int) = some u3_ → ∀ u4_, AC N ([u0_, u1_, u2_, u3_]) = some u4_ → (pV (vI u4_)) v_ L_ U_)]) [] (by decide +kernel) (fun hn => Ba) ?_
 refine Ec (vA (Ag c2_ c2_v)) (vs := (DA c2_ c2_v)) (o := 0) rfl rfl (AM hbc2_) rfl <| rm 1 [0] rfl <| kB hM fun r4 hr5 hM => rg _ (cF eo) (fun o w z_ => (Does.inv (PK N c2_ x_0 x_1 x_2 x_3 x_4 x_5 _ hr5 z_.view c2_v (Bun35R.mono z_.ro_cell hc2_) x_2v (z_.r hx_2) x_3v (z_.r hx_3)) _)) (Ao hr5) <| Ec (vA (Ag c2_ c2_v)) (vs := (DA c2_ c2_v)) (o := 0) rfl rfl (AM hbc2_) rfl <| rm 1 [0] rfl <| kB hM fun r6 hr7 hM => rg _ (cF ek) (fun o w z_ => QM N c2_ x_0 x_1 x_2 x_3 x_4 x_5 _ hr7 z_.view c2_v (Bun35R.mono z_.ro_cell hc2_) x_2v (z_.r hx_2) x_3v (z_.r hx_3)) (Ao hr7) <| Ec (vA (Ag c2_ c2_v)) (vs := (DA c2_ c2_v)) (o := 0) rfl rfl (AM hbc2_) rfl <| rm 1 [0] rfl <| kB hM fun r8 hr9 hM => rg _ (cF ej) (fun o w z_ => (Does.inv (QN N c2_ x_0 x_1 x_2 x_3 x_4 x_5 _ hr9 z_.view c2_v (Bun35R.mono z_.ro_cell hc2_) x_2v (z_.r hx_2) x_3v (z_.r hx_3)) _)) (Ao hr9) <| rm 2 [0] rfl <| Ec c3_v (vs := [c3_v]) (o := 0) rfl rfl (AM hbc3_) rfl <| rL (RdN.shp hc3_) rfl <| kB hM fun r10 hr11 hM => rg _ (cF ei) (fun o w z_ => (Does.inv (PG N x_0 x_1 x_2 x_3 x_4 x_5 i (c3_.length : Int) _ hr11 z_.view x_2v (z_.r hx_2) x_3v (z_.r hx_3)) _)) (Ao hr11) ?_
 refine BF (Ls := [(Km b2 x_0 x_1 x_2v x_3v x_4 x_5)]) 39 Bf [r4, r6, r8, r10] [vI r4, vI r6, vI r8, vI r10] [vI 0, vI 0, vI 0, vI 0] rfl rfl rfl rfl rfl rfl rfl (by kernel_rfl) (by kernel_rfl) rfl rfl rfl (fun s12 S13 H14 => ?_)
 refine kB hM fun r15 hr16 hM => rg _ (cF BV) (fun o w z_ => (Does.inv (BD N ([r4, r6, r8, r10]) _ hr16 z_.view s12 ((Ap H14 (Ad (Ls := [(Km b2 x_0 x_1 x_2v x_3v x_4 x_5), S13]) (k := 1) rfl rfl)) o w z_)) _)) (fun _ _ v_ L_ U_ => ⟨fun h_ => h_ _ hr5 _ hr7 _ hr9 _ hr11 _ hr16, fun h_ => by intro _ e_; cases Option.some.inj (e_.symm.trans hr5); intro _ e_; cases Option.some.inj (e_.symm.trans hr7); intro _ e_; cases Option.some.inj (e_.symm.trans hr9); intro _ e_; cases Option.some.inj (e_.symm.trans hr11); intro _ e_; cases Option.some.inj (e_.symm.trans hr16); exact h_⟩) ?_
 refine rz rfl <| hK3 _ _ ?_
 cases hM
 exact aR eV1
def GH (N : Nat) (l' : List (Int × Int × (List (Int × Int × Int × Int × BitVec 128)) × (List (Int × BitVec 128)) × Int × Int)) (ask0_ : AN) (ask1_ : List (Int × Int × (List (Int × Int × Int × Int × BitVec 128)) × (List (Int × BitVec 128)) × Int × Int)) : Nat → Int → Option (Int × Int)
  | 0, _ => none
  | n8 + 1, x1_ => if x1_ < (l'.length : Int) then ck (0 ≤ x1_ ∧ x1_ < (l'.length : Int)) ((Ij N x1_ (l'[x1_.toNat]!.1) (l'[x1_.toNat]!.2.1) (l'[x1_.toNat]!.2.2.1) (l'[x1_.toNat]!.2.2.2.1) (l'[x1_.toNat]!.2.2.2.2.1) (l'[x1_.toNat]!.2.2.2.2.2) ask0_ ask1_).bind fun r22 => if (r22 : Int) ≠ 0 then some (x1_, r22) else ck (-9223372036854775808 ≤ (x1_ + 1) ∧ (x1_ + 1) ≤ 9223372036854775807) ((GH N l' ask0_ ask1_ n8) (x1_ + 1))) else some (0, 0)
def JL (N : Nat) (l' : List (Int × Int × (List (Int × Int × Int × Int × BitVec 128)) × (List (Int × BitVec 128)) × Int × Int)) (most : Int) (ask0_ : AN) (ask1_ : List (Int × Int × (List (Int × Int × Int × Int × BitVec 128)) × (List (Int × BitVec 128)) × Int × Int)) : Option (Int × Int) := if (l'.length : Int) > most then some (0, 2) else GH N l' ask0_ ask1_ N 0
theorem Vx (N l' most ask0_ ask1_ r) (hM : JL N l' most ask0_ ask1_ = some r) (ro l'v) (hl' : RdN Fc ro l'v l') (bask0_ : Nat) (ask0_v : AH) (hask0_ : Bun35R ro ask0_v ask0_) (hbask0_ : Blk ro bask0_ (DA ask0_ ask0_v)) (bask1_ : Nat) (ask1_v) (hask1_ : RdN Fc ro ask1_v ask1_) (hbask1_ : Blk ro bask1_ [ask1_v]) : DoesI prog 315 #[l'v, vI most, vF 316 #[] #[vP bask0_ 0, vP bask1_ 0]] Ej ro [] (pV (vT #[vI r.1, vI r.2])) := by
 unfold JL at hM
 refine AQ follows func315 rfl 31 rfl _ fz3 AW (fun base0_ => ?_)
 refine AZ rfl <| Aa fun K2 hK2 => Ai <| rn 1 rfl <| rL (RdN.shp hl') rfl <| rz rfl <| aD hM rfl (fun hc4 hM => ?_) (fun hc4 hM => ?_)
 ·refine AZ rfl ?_
  cases hM
  exact aR eV2
 refine Af <| hK2 _ _ ?_
 refine Aa fun K6 hK6 => Ai <| rn 1 rfl <| rL (RdN.shp hl') rfl <| rz rfl <| Aj <| AU (fun tt ll nn => ∃ (n8 : Nat) (x1_ : Int), (GH N l' ask0_ ask1_ n8 x1_ = some r) ∧ Is [(2, vF 316 #[] #[vP bask0_ 0, vP bask1_ 0]), (15, l'v), (16, vI (l'.length : Int)), (17, vI x1_)] [] tt ll ∧ nn = n8 + 1) (N + 1) ?_ ?_
 ·exact ⟨N, 0, hM, Ak rfl rfl, rfl⟩
 clear hM; rintro t l _ ⟨n8, x1_, hM, ⟨⟨T, rfl⟩, rfl⟩, rfl⟩
 rcases n8 with _ | n8
 ·exact absurd hM (by simp [GH])
 rw [GH] at hM
 refine AZ rfl <| Aa fun K10 hK10 => aD hM rfl (fun hc11 hM => ?_) (fun hc11 hM => ?_)
 ·refine Af <| hK10 _ _ ?_
  refine Aa fun K12 hK12 => Aj <| Ai <| rn 1 rfl <| kC hM fun ck14 hM => ?_
  obtain ⟨_, ⟨s15, s16, hs17, hs18, rfl⟩, hat19⟩ := RdN.at (E := Fc) hl' (CP ck14)
  refine rI (RdN.shp hl') ck14 rfl <| Mv (vA #[vI (l'[x1_.toNat]!.1), vI (l'[x1_.toNat]!.2.1), s15, s16, vI (l'[x1_.toNat]!.2.2.2.2.1), vI (l'[x1_.toNat]!.2.2.2.2.2)]) (vs := [vI (l'[x1_.toNat]!.1), vI (l'[x1_.toNat]!.2.1), s15, s16, vI (l'[x1_.toNat]!.2.2.2.2.1), vI (l'[x1_.toNat]!.2.2.2.2.2)]) (x1_.toNat * 6) 0 rfl rfl (fun o w z_ => At.mono z_.ro_cell hat19) rfl <| rA rfl fun b20 => rn 1 rfl <| r_s (Km b20 (l'[x1_.toNat]!.1) (l'[x1_.toNat]!.2.1) s15 s16 (l'[x1_.toNat]!.2.2.2.2.1) (l'[x1_.toNat]!.2.2.2.2.2)) 0 _ _ _ _ _ (#[vI (l'[x1_.toNat]!.1), vI (l'[x1_.toNat]!.2.1), s15, s16, vI (l'[x1_.toNat]!.2.2.2.2.1), vI (l'[x1_.toNat]!.2.2.2.2.2)]) rfl rfl rfl rfl (.ofS rfl rfl (Ab rfl (Ab rfl (Ab (Shp.one (Rd.shp hs17)) (Ab (Shp.one (Rd.shp hs18)) (Ab rfl (Ab rfl Bh))))))) rfl rfl <| As ?_
  refine A_sc [(some 25, false)] (conG prog [(25, cV (Ij N x1_ (l'[x1_.toNat]!.1) (l'[x1_.toNat]!.2.1) (l'[x1_.toNat]!.2.2.1) (l'[x1_.toNat]!.2.2.2.1) (l'[x1_.toNat]!.2.2.2.2.1) (l'[x1_.toNat]!.2.2.2.2.2) ask0_ ask1_) fun u0_ => vI u0_)]) <| rm 3 [0] rfl <| kB hM fun r22 hr23 hM => rg _ (AO (caps := [vP bask0_ 0, vP bask1_ 0]) rfl ep rfl) (fun o w z_ => Sj N x1_ (l'[x1_.toNat]!.1) (l'[x1_.toNat]!.2.1) (l'[x1_.toNat]!.2.2.1) (l'[x1_.toNat]!.2.2.2.1) (l'[x1_.toNat]!.2.2.2.2.1) (l'[x1_.toNat]!.2.2.2.2.2) ask0_ ask1_ _ hr23 z_.view s15 (z_.r hs17) s16 (z_.r hs18) bask0_ ask0_v (Bun35R.mono z_.ro_cell hask0_) (AM hbask0_ o w z_) bask1_ ask1_v (RdN.mono z_.ro_cell hask1_) (AM hbask1_ o w z_)) (Ao hr23) <| rz rfl <| AZ rfl ?_
  refine aN hM rfl (fun hc25 hM => ?_) (fun hc25 hM => ?_)
  ·refine AZ rfl ?_
   cases hM
   exact aR eV2
  refine Af <| hK12 _ _ ?_
  refine Ar <| kC hM fun ck27 hM => rX ck27 rfl <| rz rfl <| fg _ (Sub.of (suC _ suN)) ?_
  exact ⟨n8 + 1, by omega, n8, (x1_ + 1), hM, Ak rfl rfl, rfl⟩
 refine AS <| hK6 _ _ ?_
 refine AZ rfl ?_
 cases hM
 exact aR eV2
def Gu (N : Nat) (c : AN) (l' : List (Int × Int × (List (Int × Int × Int × Int × BitVec 128)) × (List (Int × BitVec 128)) × Int × Int)) : Option (Int × Int) := (JL N l' 32 c l').bind fun r5 => some (r5.1, r5.2)
theorem OY (N c l' r) (hM : Gu N c l' = some r) (ro) (cv : AH) (hc : Bun35R ro cv c) (l'v) (hl' : RdN Fc ro l'v l') : DoesI prog 248 #[vA (Ag c cv), l'v] Ej ro [] (pV (vT #[vI r.1, vI r.2])) := by
 unfold Gu at hM
 refine AQ follows func248 rfl 11 rfl _ fz2 AW (fun base0_ => ?_)
 refine Ai <| rA rfl fun b2 => r_a (28, #[l'v]) rfl rfl (KB rfl (RdN.shp hl')) (fun b3 => ?_) (.inr rfl)
 refine rz rfl <| A_sc [(some 8, false)] (conG prog [(8, cV (JL N l' 32 c l') fun u0_ => vT #[vI u0_.1, vI u0_.2])]) <| rm 1 [0] rfl <| r_W (vF 316 #[] #[vP b2 0, vP b3 0]) rfl (EM rfl) <| kB hM fun r5 hr6 hM => rg _ (cF eq) (fun o w z_ => Vx N l' 32 c l' _ hr6 z_.view l'v (RdN.mono z_.ro_cell hl') b2 cv (Bun35R.mono z_.ro_cell hc) (BR 1 rfl rfl o w z_) b3 l'v (RdN.mono z_.ro_cell hl') (BR 0 rfl rfl o w z_)) (Ao hr6) <| rz rfl ?_
 cases hM
 exact aR eV2
def Ko (N : Nat) (c : AN) : Option (Int × Int) := (Gu N c c.2.2.2.2.2.2.2.1).bind fun r4 => some (r4.1, r4.2)
theorem Sn (N c r) (hM : Ko N c = some r) (ro) (cv : AH) (hc : Bun35R ro cv c) : DoesI prog 200 #[vA (Ag c cv)] Ej ro [] (pV (vT #[vI r.1, vI r.2])) := by
 unfold Ko at hM
 refine AQ follows func200 rfl 11 rfl _ fz1 AW (fun base0_ => ?_)
 refine Ai <| rA rfl fun b2 => rz rfl <| A_sc [(some 8, false)] (conG prog [(8, cV (Gu N c c.2.2.2.2.2.2.2.1) fun u0_ => vT #[vI u0_.1, vI u0_.2])]) <| rm 4 [0, 0] rfl <| kB hM fun r4 hr5 hM => rg _ (cF XX) (fun o w z_ => OY N c c.2.2.2.2.2.2.2.1 _ hr5 z_.view cv (Bun35R.mono z_.ro_cell hc) cv.2.2.2.2.2.2.1 (RdN.mono z_.ro_cell hc.2.2.2.2.2.2.1)) (Ao hr5) <| rz rfl ?_
 cases hM
 exact aR eV2
def Lx (N : Nat) (c : AN) : Option (Int × Int) := (Gu N c c.2.2.2.2.2.2.2.2.1).bind fun r4 => some (r4.1, r4.2)
theorem TY (N c r) (hM : Lx N c = some r) (ro) (cv : AH) (hc : Bun35R ro cv c) : DoesI prog 201 #[vA (Ag c cv)] Ej ro [] (pV (vT #[vI r.1, vI r.2])) := by
 unfold Lx at hM
 refine AQ follows func201 rfl 11 rfl _ fz1 AW (fun base0_ => ?_)
 refine Ai <| rA rfl fun b2 => rz rfl <| A_sc [(some 8, false)] (conG prog [(8, cV (Gu N c c.2.2.2.2.2.2.2.2.1) fun u0_ => vT #[vI u0_.1, vI u0_.2])]) <| rm 4 [0, 0] rfl <| kB hM fun r4 hr5 hM => rg _ (cF XX) (fun o w z_ => OY N c c.2.2.2.2.2.2.2.2.1 _ hr5 z_.view cv (Bun35R.mono z_.ro_cell hc) cv.2.2.2.2.2.2.2.1 (RdN.mono z_.ro_cell hc.2.2.2.2.2.2.2.1)) (Ao hr5) <| rz rfl ?_
 cases hM
 exact aR eV2
def Gx (N : Nat) (i : Int) (slot : Int) (c2_ : AN) : Option Int := (DG N c2_ slot).bind fun r3 => (Al N r3 5).bind fun r5 => ck (0 ≤ i ∧ i ≤ (c2_.2.2.2.2.2.2.2.2.2.1.length : Int)) ((Bo N (((c2_.2.2.2.2.2.2.2.2.2.1).take (i.toNat)).drop 0) slot).bind fun r8 => (Al N (!(r8)) 6).bind fun r10 => (AC N ([r5, r10])).bind fun r15 => some r15)
theorem PN (N i slot c2_ r) (hM : Gx N i slot c2_ = some r) (ro) (bc2_ : Nat) (c2_v : AH) (hc2_ : Bun35R ro c2_v c2_) (hbc2_ : Blk ro bc2_ (DA c2_ c2_v)) : Does prog 250 #[vI i, vI slot, vP bc2_ 0] ro [] (pV (vI r)) := by
 unfold Gx at hM
 refine Ac follows func250 rfl 22 rfl _ fz3 (fun base0_ => ?_)
 refine AZ rfl <| Aa fun K2 hK2 => ?_
 refine BA [(some 9, false), (some 17, false), (some 20, false), (some 21, false)] (conG prog [(9, cV (DG N c2_ slot) fun u0_ => vB u0_), (17, cV (Bo N (((c2_.2.2.2.2.2.2.2.2.2.1).take (i.toNat)).drop 0) slot) fun u0_ => vB u0_), (21, fun _ _ v_ L_ U_ => ∀ u0_, DG N c2_ slot = some u0_ → ∀ u1_, Al N u0_ 5 = some u1_ → ∀ u2_, Bo N (((c2_.2.2.2.2.2.2.2.2.2.1).take (i.toNat)).drop 0) slot = some u2_ → ∀ u3_, Al N (!(u2_)) 6 = some u3_ → ∀ u4_, AC N ([u1_, u3_]) = some u4_ → (pV (vI u4_)) v_ L_ U_)]) [] (by decide +kernel) (fun hn => Ba) ?_
 refine rn 1 rfl <| Ec (vA (Ag c2_ c2_v)) (vs := (DA c2_ c2_v)) (o := 0) rfl rfl (AM hbc2_) rfl <| rn 1 rfl <| kB hM fun r3 hr4 hM => rg _ (cF SO) (fun o w z_ => Lq N c2_ slot _ hr4 z_.view c2_v (Bun35R.mono z_.ro_cell hc2_)) (Ao hr4) <| kB hM fun r5 hr6 hM => rc _ (cF AL) (Az N r3 5 _ hr6) <| rn 2 rfl <| Ec c2_v.2.2.2.2.2.2.2.2.1 (vs := (DA c2_ c2_v)) (o := 9) rfl rfl (AM hbc2_) rfl <| rn 1 rfl <| kC hM fun ck7 hM => r_W (Fy c2_v.2.2.2.2.2.2.2.2.1 0 (i.toNat) 1) rfl (GE (Hz rfl rfl rfl rfl (Rd.shp hc2_.2.2.2.2.2.2.2.2.1) ck7)) <| rn 1 rfl <| kB hM fun r8 hr9 hM => rg _ (cF SN) (fun o w z_ => ED N (((c2_.2.2.2.2.2.2.2.2.2.1).take (i.toNat)).drop 0) slot _ hr9 z_.view (Fy c2_v.2.2.2.2.2.2.2.2.1 0 (i.toNat) 1) ((Py (AA hc2_.2.2.2.2.2.2.2.2.1) (Nat.zero_le _) (Iu ck7.2)) o w z_)) (Ao hr9) <| rn 1 rfl <| kB hM fun r10 hr11 hM => rc _ (cF AL) (Az N (!(r8)) 6 _ hr11) ?_
 refine BF (Ls := []) 39 Bf [r5, r10] [vI r5, vI r10] [vI 0, vI 0] rfl rfl rfl rfl rfl rfl rfl (by kernel_rfl) (by kernel_rfl) rfl rfl rfl (fun s12 S13 H14 => ?_)
 refine kB hM fun r15 hr16 hM => rg _ (cF BV) (fun o w z_ => BD N ([r5, r10]) _ hr16 z_.view s12 ((Ap H14 (Ad (Ls := [S13]) (k := 0) rfl rfl)) o w z_)) (fun _ _ v_ L_ U_ => ⟨fun h_ => h_ _ hr4 _ hr6 _ hr9 _ hr11 _ hr16, fun h_ => by intro _ e_; cases Option.some.inj (e_.symm.trans hr4); intro _ e_; cases Option.some.inj (e_.symm.trans hr6); intro _ e_; cases Option.some.inj (e_.symm.trans hr9); intro _ e_; cases Option.some.inj (e_.symm.trans hr11); intro _ e_; cases Option.some.inj (e_.symm.trans hr16); exact h_⟩) ?_
 refine rz rfl <| hK2 _ _ ?_
 cases hM
 exact aR eV1
def HN (N : Nat) (l' : List Int) (ask0_ : AN) : Nat → Int → Option (Int × Int)
  | 0, _ => none
  | n8 + 1, x1_ => if x1_ < (l'.length : Int) then ck (0 ≤ x1_ ∧ x1_ < (l'.length : Int)) ((Gx N x1_ (l'[x1_.toNat]!) ask0_).bind fun r16 => if (r16 : Int) ≠ 0 then some (x1_, r16) else ck (-9223372036854775808 ≤ (x1_ + 1) ∧ (x1_ + 1) ≤ 9223372036854775807) ((HN N l' ask0_ n8) (x1_ + 1))) else some (0, 0)
def KP (N : Nat) (l' : List Int) (most : Int) (ask0_ : AN) : Option (Int × Int) := if (l'.length : Int) > most then some (0, 2) else HN N l' ask0_ N 0
theorem WN (N l' most ask0_ r) (hM : KP N l' most ask0_ = some r) (ro l'v) (hl' : Rd Bf ro l'v l') (bask0_ : Nat) (ask0_v : AH) (hask0_ : Bun35R ro ask0_v ask0_) (hbask0_ : Blk ro bask0_ (DA ask0_ ask0_v)) : Does prog 249 #[l'v, vI most, vF 250 #[] #[vP bask0_ 0]] ro [] (pV (vT #[vI r.1, vI r.2])) := by
 unfold KP at hM
 refine Ac follows func249 rfl 31 rfl _ fz3 (fun base0_ => ?_)
 refine AZ rfl <| Aa fun K2 hK2 => Ai <| rn 1 rfl <| rL (Rd.shp hl') rfl <| rz rfl <| aD hM rfl (fun hc4 hM => ?_) (fun hc4 hM => ?_)
 ·refine AZ rfl ?_
  cases hM
  exact aR eV2
 refine Af <| hK2 _ _ ?_
 refine Aa fun K6 hK6 => Ai <| rn 1 rfl <| rL (Rd.shp hl') rfl <| rz rfl <| Aj <| AU (fun tt ll nn => ∃ (n8 : Nat) (x1_ : Int), (HN N l' ask0_ n8 x1_ = some r) ∧ Is [(2, vF 250 #[] #[vP bask0_ 0]), (15, l'v), (16, vI (l'.length : Int)), (17, vI x1_)] [] tt ll ∧ nn = n8 + 1) (N + 1) ?_ ?_
 ·exact ⟨N, 0, hM, Ak rfl rfl, rfl⟩
 clear hM; rintro t l _ ⟨n8, x1_, hM, ⟨⟨T, rfl⟩, rfl⟩, rfl⟩
 rcases n8 with _ | n8
 ·exact absurd hM (by simp [HN])
 rw [HN] at hM
 refine AZ rfl <| Aa fun K10 hK10 => aD hM rfl (fun hc11 hM => ?_) (fun hc11 hM => ?_)
 ·refine Af <| hK10 _ _ ?_
  refine Aa fun K12 hK12 => Aj <| Ai <| rn 1 rfl <| kC hM fun ck14 hM => rI (Rd.shp hl') ck14 rfl <| rE (AA hl') ck14 0 rfl <| rz rfl <| A_sc [(some 25, false)] (conG prog [(25, cV (Gx N x1_ (l'[x1_.toNat]!) ask0_) fun u0_ => vI u0_)]) <| rn 3 rfl <| kB hM fun r16 hr17 hM => rg _ (AO (caps := [vP bask0_ 0]) rfl fk rfl) (fun o w z_ => PN N x1_ (l'[x1_.toNat]!) ask0_ _ hr17 z_.view bask0_ ask0_v (Bun35R.mono z_.ro_cell hask0_) (AM hbask0_ o w z_)) (Ao hr17) <| rz rfl <| AZ rfl <| aN hM rfl (fun hc19 hM => ?_) (fun hc19 hM => ?_)
  ·refine AZ rfl ?_
   cases hM
   exact aR eV2
  refine Af <| hK12 _ _ ?_
  refine Ar <| kC hM fun ck21 hM => rX ck21 rfl <| rz rfl <| fg _ (Sub.of suN) ?_
  exact ⟨n8 + 1, by omega, n8, (x1_ + 1), hM, Ak rfl rfl, rfl⟩
 refine AS <| hK6 _ _ ?_
 refine AZ rfl ?_
 cases hM
 exact aR eV2
def Kq (N : Nat) (c : AN) : Option (Int × Int) := (KP N c.2.2.2.2.2.2.2.2.2.1 32 c).bind fun r4 => some (r4.1, r4.2)
theorem Sq (N c r) (hM : Kq N c = some r) (ro) (cv : AH) (hc : Bun35R ro cv c) : Does prog 202 #[vA (Ag c cv)] ro [] (pV (vT #[vI r.1, vI r.2])) := by
 unfold Kq at hM
 refine Ac follows func202 rfl 11 rfl _ fz1 (fun base0_ => ?_)
 refine Ai <| rA rfl fun b2 => rz rfl <| A_sc [(some 8, false)] (conG prog [(8, cV (KP N c.2.2.2.2.2.2.2.2.2.1 32 c) fun u0_ => vT #[vI u0_.1, vI u0_.2])]) <| rm 3 [0] rfl <| r_W (vF 250 #[] #[vP b2 0]) rfl (EM rfl) <| kB hM fun r4 hr5 hM => rg _ (cF Pj) (fun o w z_ => WN N c.2.2.2.2.2.2.2.2.2.1 32 c _ hr5 z_.view cv.2.2.2.2.2.2.2.2.1 ((AA hc.2.2.2.2.2.2.2.2.1) o w z_) b2 cv (Bun35R.mono z_.ro_cell hc) (BR 0 rfl rfl o w z_)) (Ao hr5) <| rz rfl ?_
 cases hM
 exact aR eV2
def IJ (N : Nat) (_ : List UInt8) (h_1 : List (List UInt8 × Int)) (_ : Int) (_ : Int) (_ : Int) (_ : Int) (f : Int) : Option (Int × Bool) := ck ((-9223372036854775808 ≤ ((h_1.length : Int) - 1) ∧ ((h_1.length : Int) - 1) ≤ 9223372036854775807)) ((DQ N f 0 ((h_1.length : Int) - 1)).bind fun r6 => if r6 = true then ck (0 ≤ f ∧ f ≤ (h_1.length : Int)) ((JT N (((h_1).take (f.toNat)).drop 0)).bind fun r12 => some (r12, true)) else some (0, false))
theorem Tc (N h_0 h_1 h_2 h_3 h_4 h_5 f r) (hM : IJ N h_0 h_1 h_2 h_3 h_4 h_5 f = some r) (ro h_1v) (hh_1 : Rd BQ ro h_1v h_1) : Does prog 326 #[vA #[vS h_0, h_1v, vI h_2, vI h_3, vI h_4, vI h_5], vI f] ro [] (pV (vT #[vI r.1, vB r.2])) := by
 unfold IJ at hM
 refine Ac follows func326 rfl 18 rfl _ fz2 (fun base0_ => ?_)
 refine Ai <| rA rfl fun b2 => rz rfl <| Aa fun K3 hK3 => Ai <| rm 3 [0] rfl <| rL (Rd.shp hh_1) rfl <| kC hM fun ck5 hM => rX ck5 rfl <| kB hM fun r6 hr7 hM => rc _ (cF GP) (Eu N f 0 ((h_1.length : Int) - 1) _ hr7) <| rz rfl <| AB _ rfl (fun hc8 => ?_) (fun hc8 => ?_)
 ·replace hM := ifn (Bool.eq_false_iff.1 (EF hc8)) hM
  refine AZ rfl ?_
  cases hM
  exact aR eV2
 replace hM := ifp (EG hc8) hM
 refine Af <| hK3 _ _ ?_
 refine A_sc [(some 17, false)] (conG prog [(17, cV (JT N (((h_1).take (f.toNat)).drop 0)) fun u0_ => vI u0_)]) <| rm 3 [0] rfl <| kC hM fun ck11 hM => r_W (Fy h_1v 0 (f.toNat) 2) rfl (GE (Hz rfl rfl rfl rfl (Rd.shp hh_1) ck11)) <| kB hM fun r12 hr13 hM => rg _ (cF XT) (fun o w z_ => Uk N (((h_1).take (f.toNat)).drop 0) _ hr13 z_.view (Fy h_1v 0 (f.toNat) 2) ((Py (AA hh_1) (Nat.zero_le _) (Iu ck11.2)) o w z_)) (Ao hr13) <| rz rfl ?_
 cases hM
 exact aR eV2
def Jb (N : Nat) (_ : Int) (x_0 : Int) (x_1 : Int) (c2_ : AN) : Option Int := (Hw N c2_ x_0).bind fun r4 => (IJ N r4.1 r4.2.1 r4.2.2.1 r4.2.2.2.1 r4.2.2.2.2.1 r4.2.2.2.2.2.1 x_1).bind fun r11 => (Et N c2_ x_0 x_1).bind fun r14 => (Al N r14.2 5).bind fun r17 => if r14.1 = 16 then ck (0 ≤ r11.1 ∧ r11.1 ≤ 9223372036854775807) ((Al N ((r11.1 % 16 : Int) == 0) 9).bind fun r28 => (AC N ([r17, r28])).bind fun r33 => some r33) else (Al N false 9).bind fun r20 => (AC N ([r17, r20])).bind fun r25 => some r25
theorem TV (N x x_0 x_1 c2_ r) (hM : Jb N x x_0 x_1 c2_ = some r) (ro) (bc2_ : Nat) (c2_v : AH) (hc2_ : Bun35R ro c2_v c2_) (hbc2_ : Blk ro bc2_ (DA c2_ c2_v)) : Does prog 324 #[vI x, vA #[vI x_0, vI x_1], vP bc2_ 0] ro [] (pV (vI r)) := by
 unfold Jb at hM
 refine Ac follows func324 rfl 49 rfl _ fz3 (fun base0_ => ?_)
 refine Ai <| rA rfl fun b2 => rz rfl <| A_sc [(some 17, false)] (conG prog [(17, fun _ _ v_ L_ U_ => ∀ u0_, Hw N c2_ x_0 = some u0_ → (p1 (fun s_ => vT #[vA #[vS u0_.1, s_, vI u0_.2.2.1, vI u0_.2.2.2.1, vI u0_.2.2.2.2.1, vI u0_.2.2.2.2.2.1], vB u0_.2.2.2.2.2.2]) 66 BQ u0_.2.1) v_ L_ U_)]) <| rn 1 rfl <| Ec (vA (Ag c2_ c2_v)) (vs := (DA c2_ c2_v)) (o := 0) rfl rfl (AM hbc2_) rfl <| rm 2 [0] rfl <| kB hM fun r4 hr5 hM => AP (Ls := [(Kl b2 x_0 x_1)]) (fun s6 => vT #[vA #[vS r4.1, s6, vI r4.2.2.1, vI r4.2.2.2.1, vI r4.2.2.2.2.1, vI r4.2.2.2.2.2.1], vB r4.2.2.2.2.2.2]) 66 BQ r4.2.1 325 _ rfl rfl rfl (cF XL) (fun o w z_ => Qi N c2_ x_0 _ hr5 z_.view c2_v (Bun35R.mono z_.ro_cell hc2_)) (Ao hr5) (fun s6 S7 H8 => ?_)
 refine rn 3 rfl <| rA rfl fun b9 => r_s (List.flatten [(Nw b9 r4.1 s6 r4.2.2.1 r4.2.2.2.1 r4.2.2.2.2.1 r4.2.2.2.2.2.1), (Kl b2 x_0 x_1), S7]) 0 _ _ _ _ _ (#[vS r4.1, s6, vI r4.2.2.1, vI r4.2.2.2.1, vI r4.2.2.2.2.1, vI r4.2.2.2.2.2.1]) rfl rfl rfl rfl (.ofS rfl rfl (Ab rfl (Ab (Shp.one (Sl.shp H8)) (Ab rfl (Ab rfl (Ab rfl (Ab rfl Bh))))))) rfl rfl <| rz rfl <| A_sc [(some 24, false)] (conG prog [(24, cV (IJ N r4.1 r4.2.1 r4.2.2.1 r4.2.2.2.1 r4.2.2.2.2.1 r4.2.2.2.2.2.1 x_1) fun u0_ => vT #[vI u0_.1, vB u0_.2])]) ?_
 refine rm 3 [0, 1] rfl <| kB hM fun r11 hr12 hM => rg _ (cF ed) (fun o w z_ => Tc N r4.1 r4.2.1 r4.2.2.1 r4.2.2.2.1 r4.2.2.2.2.1 r4.2.2.2.2.2.1 x_1 _ hr12 z_.view s6 ((Ap H8 (Ad (Ls := [(Nw b9 r4.1 s6 r4.2.2.1 r4.2.2.2.1 r4.2.2.2.2.1 r4.2.2.2.2.2.1), (Kl b2 x_0 x_1), S7]) (k := 2) rfl rfl)) o w z_)) (Ao hr12) <| rz rfl <| A_sc [(some 34, false)] (conG prog [(34, cV (Et N c2_ x_0 x_1) fun u0_ => vT #[vI u0_.1, vB u0_.2])]) <| rn 1 rfl ?_
 refine Ec (vA (Ag c2_ c2_v)) (vs := (DA c2_ c2_v)) (o := 0) rfl rfl (AM hbc2_) rfl <| rm 4 [1, 1] rfl <| kB hM fun r14 hr15 hM => rg _ (cF SI) (fun o w z_ => Me N c2_ x_0 x_1 _ hr15 z_.view c2_v (Bun35R.mono z_.ro_cell hc2_)) (Ao hr15) <| rz rfl <| DJ [(8, vI r11.1), (10, vI r14.1), (11, vB r14.2)] rfl (fun T => ?_)
 refine Aa fun K16 hK16 => A_regC [(some 47, false), (some 48, false)] (conG prog [(48, fun _ _ v_ L_ U_ => (∀ u0_, Al N r14.2 5 = some u0_ → (if r14.1 = 16 then (1 : Nat) else 0) = 0 → ∀ u2_, Al N false 9 = some u2_ → ∀ u3_, AC N ([u0_, u2_]) = some u3_ → (pV (vI u3_)) v_ L_ U_) ∧ (∀ u0_, Al N r14.2 5 = some u0_ → (if r14.1 = 16 then (1 : Nat) else 0) = 1 → ∀ u2_, Al N ((r11.1 % 16 : Int) == 0) 9 = some u2_ → ∀ u3_, AC N ([u0_, u2_]) = some u3_ → (pV (vI u3_)) v_ L_ U_))]) <| rn 1 rfl <| kB hM fun r17 hr18 hM => rc _ (cF AL) (Az N r14.2 5 _ hr18) <| rn 3 rfl ?_
 rcases hg19 : (r14.1 == 16) with _ | _
 ·replace hM := iG hg19 hM
  have hq19 : (if r14.1 = 16 then (1 : Nat) else 0) = 0 := (if_neg (ne_of_beq_false hg19))
  refine rn 4 rfl <| kB hM fun r20 hr21 hM => rc _ (cF AL) (Az N false 9 _ hr21) ?_
  refine BF (Ls := [(Nw b9 r4.1 s6 r4.2.2.1 r4.2.2.2.1 r4.2.2.2.2.1 r4.2.2.2.2.2.1), (Kl b2 x_0 x_1), S7]) 39 Bf [r17, r20] [vI r17, vI r20] [vI 0, vI 0] rfl rfl rfl rfl rfl rfl rfl (by kernel_rfl) (by kernel_rfl) rfl rfl rfl (fun s22 S23 H24 => ?_)
  refine kB hM fun r25 hr26 hM => rg _ (cF BV) (fun o w z_ => BD N ([r17, r20]) _ hr26 z_.view s22 ((Ap H24 (Ad (Ls := [(Nw b9 r4.1 s6 r4.2.2.1 r4.2.2.2.1 r4.2.2.2.2.1 r4.2.2.2.2.2.1), (Kl b2 x_0 x_1), S7, S23]) (k := 3) rfl rfl)) o w z_)) (fun _ _ v_ L_ U_ => ⟨fun h_ => h_.1 _ hr18 hq19 _ hr21 _ hr26, fun h_ => ⟨by intro _ e_; cases Option.some.inj (e_.symm.trans hr18); intro e_; first | (cases (e_.symm.trans hq19); done) | (cases (e_.symm.trans hq19); intro _ e_; cases Option.some.inj (e_.symm.trans hr21); intro _ e_; cases Option.some.inj (e_.symm.trans hr26); exact h_), by intro _ e_; cases Option.some.inj (e_.symm.trans hr18); intro e_; first | (cases (e_.symm.trans hq19); done) | (cases (e_.symm.trans hq19); intro _ e_; cases Option.some.inj (e_.symm.trans hr29); intro _ e_; cases Option.some.inj (e_.symm.trans hr34); exact h_)⟩⟩) ?_
  refine rz rfl <| hK16 _ _ ?_
  cases hM
  exact aR eV1
 replace hM := iE hg19 hM
 have hq19 : (if r14.1 = 16 then (1 : Nat) else 0) = 1 := (if_pos (eq_of_beq hg19))
 refine rn 1 rfl <| r_y rfl <| kC hM fun ck27 hM => r_X (vI (r11.1 % 16)) rfl (UV ck27.1) rfl <| rn 2 rfl <| kB hM fun r28 hr29 hM => rc _ (cF AL) (Az N ((r11.1 % 16 : Int) == 0) 9 _ hr29) ?_
 refine BF (Ls := [(Nw b9 r4.1 s6 r4.2.2.1 r4.2.2.2.1 r4.2.2.2.2.1 r4.2.2.2.2.2.1), (Kl b2 x_0 x_1), S7]) 39 Bf [r17, r28] [vI r17, vI r28] [vI 0, vI 0] rfl rfl rfl rfl rfl rfl rfl (by kernel_rfl) (by kernel_rfl) rfl rfl rfl (fun s30 S31 H32 => ?_)
 refine kB hM fun r33 hr34 hM => rg _ (cF BV) (fun o w z_ => BD N ([r17, r28]) _ hr34 z_.view s30 ((Ap H32 (Ad (Ls := [(Nw b9 r4.1 s6 r4.2.2.1 r4.2.2.2.1 r4.2.2.2.2.1 r4.2.2.2.2.2.1), (Kl b2 x_0 x_1), S7, S31]) (k := 3) rfl rfl)) o w z_)) (fun _ _ v_ L_ U_ => ⟨fun h_ => h_.2 _ hr18 hq19 _ hr29 _ hr34, fun h_ => ⟨by intro _ e_; cases Option.some.inj (e_.symm.trans hr18); intro e_; first | (cases (e_.symm.trans hq19); done) | (cases (e_.symm.trans hq19); intro _ e_; cases Option.some.inj (e_.symm.trans hr21); intro _ e_; cases Option.some.inj (e_.symm.trans hr26); exact h_), by intro _ e_; cases Option.some.inj (e_.symm.trans hr18); intro e_; first | (cases (e_.symm.trans hq19); done) | (cases (e_.symm.trans hq19); intro _ e_; cases Option.some.inj (e_.symm.trans hr29); intro _ e_; cases Option.some.inj (e_.symm.trans hr34); exact h_)⟩⟩) ?_
 refine rz rfl <| hK16 _ _ ?_
 cases hM
 exact aR eV1
end Go.Proofs.YthafnifhhblkbaaGreatDoor
