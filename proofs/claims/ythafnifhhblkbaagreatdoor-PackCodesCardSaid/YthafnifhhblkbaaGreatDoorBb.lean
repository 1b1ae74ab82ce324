import Derived.Test.YthafnifhhblkbaaGreatDoorBa
namespace Go.Proofs.YthafnifhhblkbaaGreatDoor
open Go Go.RowKit Go.Eng _root_.Go.Proofs.Tryz
set_option maxRecDepth 100000
set_option maxHeartbeats 8000000
abbrev QV (b : Nat) (x0 : List UInt8) (x1 : Int) : List Bl := [(b, 66, #[vS x0, vI x1])]
abbrev De (b : Nat) (x0 : List UInt8) (x1 : Value) (x2 : Int) (x3 : Int) (x4 : Int) (x5 : Int) : List Bl := [(b, 68, #[vS x0, x1, vI x2, vI x3, vI x4, vI x5])]
abbrev QW (b : Nat) (x0 : Value) : List Bl := [(b, 62, #[x0])]
abbrev ZC (b : Nat) (x0 : Value) : List Bl := [(b, 23, #[x0])]
abbrev ZB (b : Nat) (x0 : List UInt8) (x1 : Int) (x2 : Int) : List Bl := [(b, 70, #[vS x0, vI x1, vI x2])]
abbrev RQ (b : Nat) (x0 : Value) : List Bl := [(b, 326, #[x0])]
abbrev Vt (b : Nat) (x0 : List UInt8) (x1 : Value) (x2 : Value) (x3 : Value) (x4 : Int) : List Bl := [(b, 85, #[vS x0, x1, x2, x3, vI x4])]
abbrev GX (b : Nat) (x0 : Value) (x1 : Value) (x2 : Int) (x3 : Int) (x4 : Int) (x5 : Int) : List Bl := [(b, 68, #[x0, x1, vI x2, vI x3, vI x4, vI x5])]
def JX (l' : List (List UInt8 × Int)) : Nat → Int → Int → Option Int
  | 0, _, _ => none
  | n5 + 1, n1_, x2_ => if x2_ < (l'.length : Int) then ck (0 ≤ x2_ ∧ x2_ < (l'.length : Int)) (ck ((-9223372036854775808 ≤ (n1_ + (l'[x2_.toNat]!).2) ∧ (n1_ + (l'[x2_.toNat]!).2) ≤ 9223372036854775807)) (ck (-9223372036854775808 ≤ (x2_ + 1) ∧ (x2_ + 1) ≤ 9223372036854775807) ((JX l' n5) (n1_ + (l'[x2_.toNat]!).2) (x2_ + 1)))) else some n1_
def JT (N : Nat) (l' : List (List UInt8 × Int)) : Option Int := JX l' N 0 0
theorem Uk (N l' r) (hM : JT N l' = some r) (ro l'v) (hl' : Rd BQ ro l'v l') : Does prog 283 #[l'v] ro [] (pV (vI r)) := by
 unfold JT at hM
 refine Ac follows func283 rfl 18 rfl _ fz1 (fun base0_ => ?_)
 refine AZ rfl <| AZ rfl <| Aa fun K3 hK3 => Ai <| rn 1 rfl <| rL (Rd.shp hl') rfl <| rz rfl <| Aj <| AU (fun tt ll nn => ∃ (n5 : Nat) (n1_ : Int) (x2_ : Int), (JX l' n5 n1_ x2_ = some r) ∧ Is [(3, vI n1_), (6, l'v), (7, vI (l'.length : Int)), (8, vI x2_)] [] tt ll ∧ nn = n5 + 1) (N + 1) ?_ ?_
 ·exact ⟨N, 0, 0, hM, Ak rfl rfl, rfl⟩
 clear hM; rintro t l _ ⟨n5, n1_, x2_, hM, ⟨⟨T, rfl⟩, rfl⟩, rfl⟩
 rcases n5 with _ | n5
 ·exact absurd hM (by simp [JX])
 rw [JX] at hM
 refine AZ rfl <| Aa fun K7 hK7 => aD hM rfl (fun hc8 hM => ?_) (fun hc8 hM => ?_)
 ·refine Af <| hK7 _ _ ?_
  refine Aa fun K9 hK9 => Aj <| Ai <| kC hM fun ck11 hM => rI (Rd.shp hl') ck11 rfl <| rE (AA hl') ck11 0 rfl <| rA rfl fun b12 => ry [0] rfl <| Ar <| rm 3 [0] rfl <| kC hM fun ck13 hM => rX ck13 rfl <| rz rfl <| hK9 _ _ ?_
  refine Ar <| kC hM fun ck14 hM => rX ck14 rfl <| rz rfl <| fg _ (Sub.of (suC _ suN)) ?_
  exact ⟨n5 + 1, by omega, n5, (n1_ + (l'[x2_.toNat]!).2), (x2_ + 1), hM, Ak rfl rfl, rfl⟩
 refine AS <| hK3 _ _ ?_
 refine AZ rfl ?_
 cases hM
 exact aR eV1
def HB (N : Nat) (_ : List UInt8) (h_1 : List (List UInt8 × Int)) (h_2 : Int) (h_3 : Int) (h_4 : Int) (h_5 : Int) : Option Bool := if h_2 = 0 then if h_3 = 0 then if h_4 = 0 then some (h_5 == 0) else some false else some false else (DQ N h_2 1 64).bind fun r10 => if r10 = true then ck ((-9223372036854775808 ≤ ((h_1.length : Int) - 1) ∧ ((h_1.length : Int) - 1) ≤ 9223372036854775807)) ((DQ N h_3 0 ((h_1.length : Int) - 1)).bind fun r14 => if r14 = true then ck (0 ≤ h_3 ∧ h_3 < (h_1.length : Int)) (if ((h_1[h_3.toNat]!).2 : Int) ≤ 16 then (DQ N h_4 1 64).bind fun r19 => if r19 = true then (DQ N h_5 0 4096).bind fun r22 => some r22 else some false else some false) else some false) else some false
theorem Rk (N h_0 h_1 h_2 h_3 h_4 h_5 r) (hM : HB N h_0 h_1 h_2 h_3 h_4 h_5 = some r) (ro h_1v) (hh_1 : Rd BQ ro h_1v h_1) : Does prog 284 #[vA #[vS h_0, h_1v, vI h_2, vI h_3, vI h_4, vI h_5]] ro [] (pV (vB r)) := by
 unfold HB at hM
 refine Ac follows func284 rfl 51 rfl _ fz1 (fun base0_ => ?_)
 refine Ai <| rA rfl fun b2 => rz rfl <| Aa fun K3 hK3 => AY [0] rfl <| aE hM rfl (fun hc5 hM => ?_) (fun hc5 hM => ?_)
 ·refine Aa fun K6 hK6 => Ar <| rm 4 [0] rfl ?_
  rcases hg7 : (h_3 == 0) with _ | _
  ·replace hM := iG hg7 hM
   refine rz rfl <| hK6 _ _ ?_
   cases hM
   exact aR eV1
  replace hM := iE hg7 hM
  refine rn 1 rfl <| r_y rfl <| rm 4 [0] rfl ?_
  rcases hg8 : (h_4 == 0) with _ | _
  ·replace hM := iG hg8 hM
   refine rz rfl <| hK6 _ _ ?_
   cases hM
   exact aR eV1
  replace hM := iE hg8 hM
  refine rn 1 rfl <| r_y rfl <| ry [0] rfl <| hK6 _ _ ?_
  cases hM
  exact aR eV1
 refine Af <| hK3 _ _ ?_
 refine Aa fun K9 hK9 => Ar <| rm 2 [0] rfl <| kB hM fun r10 hr11 hM => rc _ (cF GP) (Eu N h_2 1 64 _ hr11) <| rn 1 rfl ?_
 rcases hg12 : r10 with _ | _
 ·replace hM := iB hg12 hM
  refine rz rfl <| hK9 _ _ ?_
  refine DJ [(2, vB false)] rfl (fun T => ?_)
  cases hM
  exact aR eV1
 replace hM := ifp hg12 hM
 refine rn 1 rfl <| r_y rfl <| rm 2 [0] rfl <| r_y rfl <| rm 1 [0] rfl <| r_y rfl <| rL (Rd.shp hh_1) rfl <| r_y rfl <| kC hM fun ck13 hM => rX ck13 rfl <| r_y rfl <| kB hM fun r14 hr15 hM => rc _ (cF GP) (Eu N h_3 0 ((h_1.length : Int) - 1) _ hr15) <| rn 2 rfl ?_
 rcases hg16 : r14 with _ | _
 ·replace hM := iB hg16 hM
  refine rz rfl <| hK9 _ _ ?_
  refine DJ [(2, vB false)] rfl (fun T => ?_)
  cases hM
  exact aR eV1
 replace hM := ifp hg16 hM
 refine rn 1 rfl <| r_y rfl <| rm 2 [0] rfl <| r_y rfl <| rm 1 [0] rfl <| r_y rfl <| kC hM fun ck17 hM => rI (Rd.shp hh_1) ck17 rfl <| r_y rfl <| rF (Rd.shp hh_1) (Eh ck17) rfl <| r_y rfl <| rE (AA hh_1) ck17 1 rfl <| rn 3 rfl ?_
 rcases hg18 : (decide (((h_1[h_3.toNat]!).2 : Int) ≤ 16)) with _ | _
 ·replace hM := iF hg18 hM
  refine rz rfl <| hK9 _ _ ?_
  refine DJ [(2, vB false)] rfl (fun T => ?_)
  cases hM
  exact aR eV1
 replace hM := iD hg18 hM
 refine rn 1 rfl <| r_y rfl <| rm 1 [0] rfl <| r_y rfl <| kB hM fun r19 hr20 hM => rc _ (cF GP) (Eu N h_4 1 64 _ hr20) <| rn 2 rfl ?_
 rcases hg21 : r19 with _ | _
 ·replace hM := iB hg21 hM
  refine rz rfl <| hK9 _ _ ?_
  refine DJ [(2, vB false)] rfl (fun T => ?_)
  cases hM
  exact aR eV1
 replace hM := ifp hg21 hM
 refine rn 1 rfl <| r_y rfl <| rm 1 [0] rfl <| r_y rfl <| kB hM fun r22 hr23 hM => rc _ (cF GP) (Eu N h_5 0 4096 _ hr23) <| rz rfl <| hK9 _ _ ?_
 refine DJ [(2, vB r22)] rfl (fun T => ?_)
 cases hM
 exact aR eV1
def Ka (N : Nat) (h_0 : List UInt8) (h_1 : List (List UInt8 × Int)) (h_2 : Int) (h_3 : Int) (h_4 : Int) (h_5 : Int) : Option Int := (No N h_0).bind fun r5 => if r5 = true then if (h_1.length : Int) > 16 then some 2 else if (h_1.length : Int) = 0 then some 5 else (IF N h_1).bind fun r17 => if (r17 : Int) ≠ 0 then some r17 else (JT N h_1).bind fun r24 => ck (0 ≤ r24 ∧ r24 ≤ 9223372036854775807) (if (r24 % 8 : Int) ≠ 0 then some 9 else (HB N h_0 h_1 h_2 h_3 h_4 h_5).bind fun r30 => if r30 = true then some 0 else some 7) else some 4
theorem Yw (N h_0 h_1 h_2 h_3 h_4 h_5 r) (hM : Ka N h_0 h_1 h_2 h_3 h_4 h_5 = some r) (ro h_1v) (hh_1 : Rd BQ ro h_1v h_1) : Does prog 232 #[vA #[vS h_0, h_1v, vI h_2, vI h_3, vI h_4, vI h_5]] ro [] (pV (vI r)) := by
 unfold Ka at hM
 refine Ac follows func232 rfl 35 rfl _ fz1 (fun base0_ => ?_)
 refine Ai <| rA rfl fun b2 => rz rfl <| Aa fun K3 hK3 => Aj <| Ai <| rm 2 [0] rfl <| kB hM fun r5 hr6 hM => rc _ (cF XU) (Ul N h_0 _ hr6) <| rz rfl <| AB _ rfl (fun hc7 => ?_) (fun hc7 => ?_)
 ·replace hM := ifn (Bool.eq_false_iff.1 (EF hc7)) hM
  refine AZ rfl ?_
  cases hM
  exact aR eV1
 replace hM := ifp (EG hc7) hM
 refine Ai <| rm 2 [0] rfl <| rL (Rd.shp hh_1) rfl <| rz rfl <| aD hM rfl (fun hc10 hM => ?_) (fun hc10 hM => ?_)
 ·refine AZ rfl ?_
  cases hM
  exact aR eV1
 refine Ai <| rm 2 [0] rfl <| rL (Rd.shp hh_1) rfl <| rz rfl <| aE hM rfl (fun hc13 hM => ?_) (fun hc13 hM => ?_)
 ·refine AZ rfl ?_
  cases hM
  exact aR eV1
 refine Af <| hK3 _ _ ?_
 refine Aa fun K15 hK15 => A_sc [(some 21, false)] (conG prog [(21, cV (IF N h_1) fun u0_ => vI u0_)]) <| rm 2 [0] rfl <| kB hM fun r17 hr18 hM => rg _ (cF eQ) (fun o w z_ => SX N h_1 _ hr18 z_.view h_1v (z_.r hh_1)) (Ao hr18) <| rz rfl <| AZ rfl <| aN hM rfl (fun hc20 hM => ?_) (fun hc20 hM => ?_)
 ·refine AZ rfl ?_
  cases hM
  exact aR eV1
 refine Af <| hK15 _ _ ?_
 refine Aa fun K22 hK22 => Aj <| A_sc [(some 28, false)] (conG prog [(28, cV (JT N h_1) fun u0_ => vI u0_)]) <| rm 2 [0] rfl <| kB hM fun r24 hr25 hM => rg _ (cF XT) (fun o w z_ => Uk N h_1 _ hr25 z_.view h_1v (z_.r hh_1)) (Ao hr25) <| kC hM fun ck26 hM => r_X (vI (r24 % 8)) rfl (UV ck26.1) rfl <| rz rfl <| DJ [(1, vP b2 0), (25, vB ((r24 % 8 : Int) != 0))] rfl (fun T => ?_)
 refine aN hM rfl (fun hc27 hM => ?_) (fun hc27 hM => ?_)
 ·refine AZ rfl ?_
  cases hM
  exact aR eV1
 refine A_sc [(some 33, false)] (conG prog [(33, cV (HB N h_0 h_1 h_2 h_3 h_4 h_5) fun u0_ => vB u0_)]) <| rm 1 [0] rfl <| kB hM fun r30 hr31 hM => rg _ (cF eP) (fun o w z_ => Rk N h_0 h_1 h_2 h_3 h_4 h_5 _ hr31 z_.view h_1v (z_.r hh_1)) (Ao hr31) <| rz rfl <| AB _ rfl (fun hc32 => ?_) (fun hc32 => ?_)
 ·replace hM := ifn (Bool.eq_false_iff.1 (EF hc32)) hM
  refine AZ rfl ?_
  cases hM
  exact aR eV1
 replace hM := ifp (EG hc32) hM
 refine Af <| hK22 _ _ ?_
 refine AZ rfl ?_
 cases hM
 exact aR eV1
def Bb (N : Nat) (names : List (List UInt8)) (i : Int) : Option Int := ck (0 ≤ i ∧ i ≤ (names.length : Int)) (ck (0 ≤ i ∧ i < (names.length : Int)) ((Gn N (((names).take (i.toNat)).drop 0) (names[i.toNat]!)).bind fun r5 => (Al N (decide (r5 < 0)) 6).bind fun r7 => some r7))
theorem Es (N names i r) (hM : Bb N names i = some r) (ro namesv) (hnames : Rd Bz ro namesv names) : Does prog 233 #[namesv, vI i] ro [] (pV (vI r)) := by
 unfold Bb at hM
 refine Ac follows func233 rfl 15 rfl _ fz2 (fun base0_ => ?_)
 refine AZ rfl <| Aa fun K2 hK2 => BA [(some 12, false)] (conG prog [(12, cV (Gn N (((names).take (i.toNat)).drop 0) (names[i.toNat]!)) fun u0_ => vI u0_)]) [] (by decide +kernel) (fun hn => Ba) <| rn 2 rfl <| kC hM fun ck3 hM => r_W (Fy namesv 0 (i.toNat) 1) rfl (GE (Hz rfl rfl rfl rfl (Rd.shp hnames) ck3)) <| rn 2 rfl <| kC hM fun ck4 hM => rI (Rd.shp hnames) ck4 rfl <| rE (AA hnames) ck4 0 rfl <| kB hM fun r5 hr6 hM => rg _ (cF XS) (fun o w z_ => OL N (((names).take (i.toNat)).drop 0) (names[i.toNat]!) _ hr6 z_.view (Fy namesv 0 (i.toNat) 1) ((Py (AA hnames) (Nat.zero_le _) (Iu ck3.2)) o w z_)) (Ao hr6) <| rn 1 rfl <| kB hM fun r7 hr8 hM => rc _ (cF AL) (Az N (decide (r5 < 0)) 6 _ hr8) <| rz rfl <| hK2 _ _ ?_
 cases hM
 exact aR eV1
def Gv (N : Nat) (i : Int) (h_0 : List UInt8) (h_1 : List (List UInt8 × Int)) (h_2 : Int) (h_3 : Int) (h_4 : Int) (h_5 : Int) (c2_ : List (List UInt8)) : Option Int := (Ka N h_0 h_1 h_2 h_3 h_4 h_5).bind fun r4 => (Bb N c2_ i).bind fun r6 => (AC N ([r4, r6])).bind fun r11 => some r11
theorem PL (N i h_0 h_1 h_2 h_3 h_4 h_5 c2_ r) (hM : Gv N i h_0 h_1 h_2 h_3 h_4 h_5 c2_ = some r) (ro h_1v) (hh_1 : Rd BQ ro h_1v h_1) (bc2_ : Nat) (c2_v) (hc2_ : Rd Bz ro c2_v c2_) (hbc2_ : Blk ro bc2_ [c2_v]) : Does prog 231 #[vI i, vA #[vS h_0, h_1v, vI h_2, vI h_3, vI h_4, vI h_5], vP bc2_ 0] ro [] (pV (vI r)) := by
 unfold Gv at hM
 refine Ac follows func231 rfl 13 rfl _ fz3 (fun base0_ => ?_)
 refine Ai <| rA rfl fun b2 => rz rfl <| Aa fun K3 hK3 => BA [(some 7, false), (some 10, false), (some 11, false), (some 12, false)] (conG prog [(7, cV (Ka N h_0 h_1 h_2 h_3 h_4 h_5) fun u0_ => vI u0_), (10, cV (Bb N c2_ i) fun u0_ => vI u0_), (12, fun _ _ v_ L_ U_ => ∀ u0_, Ka N h_0 h_1 h_2 h_3 h_4 h_5 = some u0_ → ∀ u1_, Bb N c2_ i = some u1_ → ∀ u2_, AC N ([u0_, u1_]) = some u2_ → (pV (vI u2_)) v_ L_ U_)]) [] (by decide +kernel) (fun hn => Ba) ?_
 refine rm 1 [0] rfl <| kB hM fun r4 hr5 hM => rg _ (cF fD) (fun o w z_ => Yw N h_0 h_1 h_2 h_3 h_4 h_5 _ hr5 z_.view h_1v (z_.r hh_1)) (Ao hr5) <| Ec c2_v (vs := [c2_v]) (o := 0) rfl rfl (AM hbc2_) rfl <| rn 1 rfl <| kB hM fun r6 hr7 hM => rg _ (cF Jt) (fun o w z_ => Es N c2_ i _ hr7 z_.view c2_v (z_.r hc2_)) (Ao hr7) ?_
 refine BF (Ls := [(De b2 h_0 h_1v h_2 h_3 h_4 h_5)]) 39 Bf [r4, r6] [vI r4, vI r6] [vI 0, vI 0] rfl rfl rfl rfl rfl rfl rfl (by kernel_rfl) (by kernel_rfl) rfl rfl rfl (fun s8 S9 H10 => ?_)
 refine kB hM fun r11 hr12 hM => rg _ (cF BV) (fun o w z_ => BD N ([r4, r6]) _ hr12 z_.view s8 ((Ap H10 (Ad (Ls := [(De b2 h_0 h_1v h_2 h_3 h_4 h_5), S9]) (k := 1) rfl rfl)) o w z_)) (fun _ _ v_ L_ U_ => ⟨fun h_ => h_ _ hr5 _ hr7 _ hr12, fun h_ => by intro _ e_; cases Option.some.inj (e_.symm.trans hr5); intro _ e_; cases Option.some.inj (e_.symm.trans hr7); intro _ e_; cases Option.some.inj (e_.symm.trans hr12); exact h_⟩) ?_
 refine rz rfl <| hK3 _ _ ?_
 cases hM
 exact aR eV1
def EY (N : Nat) (l' : List ((List UInt8) × (List (List UInt8 × Int)) × Int × Int × Int × Int)) (ask0_ : List (List UInt8)) : Nat → Int → Option (Int × Int)
  | 0, _ => none
  | n8 + 1, x1_ => if x1_ < (l'.length : Int) then ck (0 ≤ x1_ ∧ x1_ < (l'.length : Int)) ((Gv N x1_ (l'[x1_.toNat]!.1) (l'[x1_.toNat]!.2.1) (l'[x1_.toNat]!.2.2.1) (l'[x1_.toNat]!.2.2.2.1) (l'[x1_.toNat]!.2.2.2.2.1) (l'[x1_.toNat]!.2.2.2.2.2) ask0_).bind fun r20 => if (r20 : Int) ≠ 0 then some (x1_, r20) else ck (-9223372036854775808 ≤ (x1_ + 1) ∧ (x1_ + 1) ≤ 9223372036854775807) ((EY N l' ask0_ n8) (x1_ + 1))) else some (0, 0)
def Ie (N : Nat) (l' : List ((List UInt8) × (List (List UInt8 × Int)) × Int × Int × Int × Int)) (most : Int) (ask0_ : List (List UInt8)) : Option (Int × Int) := if (l'.length : Int) > most then some (0, 2) else EY N l' ask0_ N 0
theorem Sf (N l' most ask0_ r) (hM : Ie N l' most ask0_ = some r) (ro l'v) (hl' : RdN Hl ro l'v l') (bask0_ : Nat) (ask0_v) (hask0_ : Rd Bz ro ask0_v ask0_) (hbask0_ : Blk ro bask0_ [ask0_v]) : Does prog 230 #[l'v, vI most, vF 231 #[] #[vP bask0_ 0]] ro [] (pV (vT #[vI r.1, vI r.2])) := by
 unfold Ie at hM
 refine Ac follows func230 rfl 31 rfl _ fz3 (fun base0_ => ?_)
 refine AZ rfl <| Aa fun K2 hK2 => Ai <| rn 1 rfl <| rL (RdN.shp hl') rfl <| rz rfl <| aD hM rfl (fun hc4 hM => ?_) (fun hc4 hM => ?_)
 ·refine AZ rfl ?_
  cases hM
  exact aR eV2
 refine Af <| hK2 _ _ ?_
 refine Aa fun K6 hK6 => Ai <| rn 1 rfl <| rL (RdN.shp hl') rfl <| rz rfl <| Aj <| AU (fun tt ll nn => ∃ (n8 : Nat) (x1_ : Int), (EY N l' ask0_ n8 x1_ = some r) ∧ Is [(2, vF 231 #[] #[vP bask0_ 0]), (15, l'v), (16, vI (l'.length : Int)), (17, vI x1_)] [] tt ll ∧ nn = n8 + 1) (N + 1) ?_ ?_
 ·exact ⟨N, 0, hM, Ak rfl rfl, rfl⟩
 clear hM; rintro t l _ ⟨n8, x1_, hM, ⟨⟨T, rfl⟩, rfl⟩, rfl⟩
 rcases n8 with _ | n8
 ·exact absurd hM (by simp [EY])
 rw [EY] at hM
 refine AZ rfl <| Aa fun K10 hK10 => aD hM rfl (fun hc11 hM => ?_) (fun hc11 hM => ?_)
 ·refine Af <| hK10 _ _ ?_
  refine Aa fun K12 hK12 => Aj <| Ai <| rn 1 rfl <| kC hM fun ck14 hM => ?_
  obtain ⟨_, ⟨s15, hs16, rfl⟩, hat17⟩ := RdN.at (E := Hl) hl' (CP ck14)
  refine rI (RdN.shp hl') ck14 rfl <| Mv (vA #[vS (l'[x1_.toNat]!.1), s15, vI (l'[x1_.toNat]!.2.2.1), vI (l'[x1_.toNat]!.2.2.2.1), vI (l'[x1_.toNat]!.2.2.2.2.1), vI (l'[x1_.toNat]!.2.2.2.2.2)]) (vs := [vS (l'[x1_.toNat]!.1), s15, vI (l'[x1_.toNat]!.2.2.1), vI (l'[x1_.toNat]!.2.2.2.1), vI (l'[x1_.toNat]!.2.2.2.2.1), vI (l'[x1_.toNat]!.2.2.2.2.2)]) (x1_.toNat * 6) 0 rfl rfl (fun o w z_ => At.mono z_.ro_cell hat17) rfl <| rA rfl fun b18 => rn 1 rfl <| r_s (De b18 (l'[x1_.toNat]!.1) s15 (l'[x1_.toNat]!.2.2.1) (l'[x1_.toNat]!.2.2.2.1) (l'[x1_.toNat]!.2.2.2.2.1) (l'[x1_.toNat]!.2.2.2.2.2)) 0 _ _ _ _ _ (#[vS (l'[x1_.toNat]!.1), s15, vI (l'[x1_.toNat]!.2.2.1), vI (l'[x1_.toNat]!.2.2.2.1), vI (l'[x1_.toNat]!.2.2.2.2.1), vI (l'[x1_.toNat]!.2.2.2.2.2)]) rfl rfl rfl rfl (.ofS rfl rfl (Ab rfl (Ab (Shp.one (Rd.shp hs16)) (Ab rfl (Ab rfl (Ab rfl (Ab rfl Bh))))))) rfl rfl <| As ?_
  refine A_sc [(some 25, false)] (conG prog [(25, cV (Gv N x1_ (l'[x1_.toNat]!.1) (l'[x1_.toNat]!.2.1) (l'[x1_.toNat]!.2.2.1) (l'[x1_.toNat]!.2.2.2.1) (l'[x1_.toNat]!.2.2.2.2.1) (l'[x1_.toNat]!.2.2.2.2.2) ask0_) fun u0_ => vI u0_)]) <| rm 3 [0] rfl <| kB hM fun r20 hr21 hM => rg _ (AO (caps := [vP bask0_ 0]) rfl fE rfl) (fun o w z_ => PL N x1_ (l'[x1_.toNat]!.1) (l'[x1_.toNat]!.2.1) (l'[x1_.toNat]!.2.2.1) (l'[x1_.toNat]!.2.2.2.1) (l'[x1_.toNat]!.2.2.2.2.1) (l'[x1_.toNat]!.2.2.2.2.2) ask0_ _ hr21 z_.view s15 (z_.r hs16) bask0_ ask0_v (z_.r hask0_) (AM hbask0_ o w z_)) (Ao hr21) <| rz rfl <| AZ rfl <| aN hM rfl (fun hc23 hM => ?_) (fun hc23 hM => ?_)
  ·refine AZ rfl ?_
   cases hM
   exact aR eV2
  refine Af <| hK12 _ _ ?_
  refine Ar <| kC hM fun ck25 hM => rX ck25 rfl <| rz rfl <| fg _ (Sub.of (suC _ suN)) ?_
  exact ⟨n8 + 1, by omega, n8, (x1_ + 1), hM, Ak rfl rfl, rfl⟩
 refine AS <| hK6 _ _ ?_
 refine AZ rfl ?_
 cases hM
 exact aR eV2
def Kp (N : Nat) (c : AN) : Option (Int × Int) := (HX N c.2.1).bind fun r4 => (Ie N c.2.1 16 r4).bind fun r11 => some (r11.1, r11.2)
theorem So (N c r) (hM : Kp N c = some r) (ro) (cv : AH) (hc : Bun35R ro cv c) : Does prog 194 #[vA (Ag c cv)] ro [] (pV (vT #[vI r.1, vI r.2])) := by
 unfold Kp at hM
 refine Ac follows func194 rfl 16 rfl _ fz1 (fun base0_ => ?_)
 refine Ai <| rA rfl fun b2 => rz rfl <| A_sc [(some 8, false)] (conG prog [(8, fun _ _ v_ L_ U_ => ∀ u0_, HX N c.2.1 = some u0_ → (p1 (fun s_ => s_) 9 Bz u0_) v_ L_ U_)]) <| rm 3 [0] rfl <| kB hM fun r4 hr5 hM => AP (Ls := [[(b2, 238, (Ag c cv))]]) (fun s6 => s6) 9 Bz r4 228 _ rfl rfl rfl (cF fH) (fun o w z_ => Sc N c.2.1 _ hr5 z_.view cv.1 (RdN.mono z_.ro_cell hc.1)) (Ao hr5) (fun s6 S7 H8 => ?_)
 refine rA rfl fun b9 => r_s (List.flatten [(QW b9 s6), [(b2, 238, (Ag c cv))], S7]) 0 _ _ _ _ _ (#[s6]) rfl rfl rfl (AI rfl (Sl.shp H8)) (.ofS rfl rfl (Ab (Shp.one (Sl.shp H8)) Bh)) rfl rfl <| As <| A_sc [(some 13, false)] (conG prog [(13, cV (Ie N c.2.1 16 r4) fun u0_ => vT #[vI u0_.1, vI u0_.2])]) <| rm 3 [1] rfl <| r_W (vF 231 #[] #[vP b9 0]) rfl (EM rfl) <| kB hM fun r11 hr12 hM => rg _ (cF fF) (fun o w z_ => Sf N c.2.1 16 r4 _ hr12 z_.view cv.1 (RdN.mono z_.ro_cell hc.1) b9 s6 ((Ap H8 (Ad (Ls := [(QW b9 s6), [(b2, 238, (Ag c cv))], S7]) (k := 2) rfl rfl)) o w z_) (BR 0 rfl rfl o w z_)) (Ao hr12) <| rz rfl ?_
 cases hM
 exact aR eV2
def ET (_ : Nat) (i : Int) (c1_ : List (List UInt8 × Int × Int)) : Option (List UInt8) := ck (0 ≤ i ∧ i < (c1_.length : Int)) (some ((c1_[i.toNat]!).1))
theorem NX (N i c1_ r) (hM : ET N i c1_ = some r) (ro) (bc1_ : Nat) (c1_v) (hc1_ : Rd IB ro c1_v c1_) (hbc1_ : Blk ro bc1_ [c1_v]) : Does prog 351 #[vI i, vP bc1_ 0] ro [] (pV (vS r)) := by
 unfold ET at hM
 refine Ac follows func351 rfl 9 rfl _ fz2 (fun base0_ => ?_)
 refine AZ rfl <| Ai <| Ec c1_v (vs := [c1_v]) (o := 0) rfl rfl (AM hbc1_) rfl <| rn 1 rfl <| kC hM fun ck3 hM => rI (Rd.shp hc1_) ck3 rfl <| rF (Rd.shp hc1_) (Eh ck3) rfl <| rE (AA hc1_) ck3 0 rfl <| rz rfl ?_
 cases hM
 exact aR eV1
def FC (N : Nat) (count : Int) (at0_ : List (List UInt8 × Int × Int)) : Nat → List (List UInt8) → Int → Option (List (List UInt8))
  | 0, _, _ => none
  | n9 + 1, s1_, x2_ => if x2_ < count then (ET N x2_ at0_).bind fun r15 => ck (0 ≤ x2_ ∧ x2_ < (s1_.length : Int)) (ck (-9223372036854775808 ≤ (x2_ + 1) ∧ (x2_ + 1) ≤ 9223372036854775807) ((FC N count at0_ n9) ((s1_).set (x2_.toNat) r15) (x2_ + 1))) else some s1_
def IH (N : Nat) (count : Int) (at0_ : List (List UInt8 × Int × Int)) : Option (List (List UInt8)) := ck (0 ≤ count ∧ count ≤ 8796093022208) (FC N count at0_ N (List.replicate count.toNat ([])) 0)
theorem Ta (N count at0_ r) (hM : IH N count at0_ = some r) (ro) (bat0_ : Nat) (at0_v) (hat0_ : Rd IB ro at0_v at0_) (hbat0_ : Blk ro bat0_ [at0_v]) : Does prog 350 #[vI count, vF 351 #[] #[vP bat0_ 0]] ro [] (p1 (fun s_ => s_) 9 Bz r) := by
 unfold IH at hM
 refine Ac follows func350 rfl 21 rfl _ fz2 (fun base0_ => ?_)
 refine AZ rfl <| A_sc [(some 8, false)] (conG prog [(8, fun _ _ v_ L_ U_ => (p1 (fun v => v) 9 Bz (List.replicate count.toNat ([]))) v_ L_ U_)]) <| rn 1 rfl <| kC hM fun ck3 hM => Rs (Ls := []) 9 Bz ([]) count rfl rfl rfl rfl rfl rfl rfl rfl rfl rfl 8796093022208 rfl ck3 (fun _ _ _ _ _ => Iff.rfl) (fun s4 S5 H6 => ?_)
 refine rz rfl <| Aa fun K7 hK7 => AZ rfl <| Aj <| Be _ (Sub.pick [S5] [0] rfl) <| AU (fun tt ll nn => ∃ (n9 : Nat) (s1_ : List (List UInt8)) (x2_ : Int), (FC N count at0_ n9 s1_ x2_ = some r) ∧ ∃ (Ss1_ : List Bl), Sl 9 Bz s4 s1_ Ss1_ ∧ Is [(1, vF 351 #[] #[vP bat0_ 0]), (5, s4), (9, vI count), (10, vI x2_)] (List.flatten [Ss1_]) tt ll ∧ nn = n9 + 1) (N + 1) ?_ ?_
 ·exact ⟨N, (List.replicate count.toNat ([])), 0, hM, S5, H6, Ak rfl rfl, rfl⟩
 clear hM; rintro t l _ ⟨n9, s1_, x2_, hM, Ss1_, hs1_, ⟨⟨T, rfl⟩, rfl⟩, rfl⟩
 rcases n9 with _ | n9
 ·exact absurd hM (by simp [FC])
 rw [FC] at hM
 refine AZ rfl <| Aa fun K11 hK11 => aD hM rfl (fun hc12 hM => ?_) (fun hc12 hM => ?_)
 ·refine Af <| hK11 _ _ ?_
  refine Aa fun K13 hK13 => Aj <| AZ rfl <| A_regC [(some 17, false)] (conG prog [(17, cV (ET N x2_ at0_) fun u0_ => vS u0_)]) <| rn 4 rfl <| kB hM fun r15 hr16 hM => rg _ (AO (caps := [vP bat0_ 0]) rfl dL rfl) (fun o w z_ => NX N x2_ at0_ _ hr16 z_.view bat0_ at0_v (z_.r hat0_) (AM hbat0_ o w z_)) (Ao hr16) <| kC hM fun ck17 hM => rI (Sl.shp hs1_) ck17 rfl <| Rr (Ls := [Ss1_]) 0 (En := Bz) (s1_[x2_.toNat]!) r15 (x2_.toNat) 0 rfl rfl rfl hs1_ (CP ck17) rfl rfl rfl (HI rfl) rfl (fun S18 H19 => ?_)
  refine As <| hK13 _ _ ?_
  refine Ar <| kC hM fun ck20 hM => rX ck20 rfl <| rz rfl <| fg _ (Sub.pick [S18] [0] rfl) ?_
  exact ⟨n9 + 1, by omega, n9, (s1_).set (x2_.toNat) r15, (x2_ + 1), hM, S18, H19, Ak rfl rfl, rfl⟩
 refine AS <| hK7 _ _ ?_
 refine AZ rfl ?_
 cases hM
 refine Au (fun hn => AG (v0 := s4) hs1_ (Aw (Sub.pick [Ss1_] [0] rfl)) rfl (AV rfl))
def IG (N : Nat) (l' : List (List UInt8 × Int × Int)) : Option (List (List UInt8)) := (IH N (l'.length : Int) l').bind fun r4 => some r4
theorem SY (N l' r) (hM : IG N l' = some r) (ro l'v) (hl' : Rd IB ro l'v l') : Does prog 286 #[l'v] ro [] (p1 (fun s_ => s_) 9 Bz r) := by
 unfold IG at hM
 refine Ac follows func286 rfl 7 rfl _ fz1 (fun base0_ => ?_)
 refine Ai <| r_a (23, #[l'v]) rfl rfl (KB rfl (Rd.shp hl')) (fun b2 => ?_) (.inr rfl)
 refine rz rfl <| A_sc [(some 6, false)] (conG prog [(6, fun _ _ v_ L_ U_ => ∀ u0_, IH N (l'.length : Int) l' = some u0_ → (p1 (fun s_ => s_) 9 Bz u0_) v_ L_ U_)]) <| rm 1 [0] rfl <| rL (Rd.shp hl') rfl <| r_W (vF 351 #[] #[vP b2 0]) rfl (EM rfl) <| kB hM fun r4 hr5 hM => AP (Ls := [(ZC b2 l'v)]) (fun s6 => s6) 9 Bz r4 350 _ rfl rfl rfl (cF XH) (fun o w z_ => Ta N (l'.length : Int) l' _ hr5 z_.view b2 l'v ((AA hl') o w z_) (BR 0 rfl rfl o w z_)) (Ao hr5) (fun s6 S7 H8 => ?_)
 refine rz rfl ?_
 cases hM
 refine Au (fun hn => AG (v0 := s6) H8 (Aw (Sub.pick [(ZC b2 l'v), S7] [1] rfl)) rfl (AV rfl))
def JC (N : Nat) (_ : List UInt8) (_ : Int) (x_2 : Int) : Option Bool := (DQ N x_2 0 4).bind fun r4 => some r4
theorem Ov (N x_0 x_1 x_2 r) (hM : JC N x_0 x_1 x_2 = some r) : Gives prog 289 #[vA #[vS x_0, vI x_1, vI x_2]] (vB r) := by
 unfold JC at hM
 refine Aq follows func289 rfl 6 rfl _ fz1 (fun base0_ => ?_)
 refine Ai <| rA rfl fun b2 => rz rfl <| Ai <| rm 2 [0] rfl <| kB hM fun r4 hr5 hM => rc _ (cF GP) (Eu N x_2 0 4 _ hr5) <| rz rfl ?_
 cases hM
 exact aR eE1
def Jg (N : Nat) (x_0 : List UInt8) (x_1 : Int) (x_2 : Int) : Option Int := (JC N x_0 x_1 x_2).bind fun r5 => if r5 = true then some (max x_2 1) else some 0
theorem MF (N x_0 x_1 x_2 r) (hM : Jg N x_0 x_1 x_2 = some r) : Gives prog 352 #[vA #[vS x_0, vI x_1, vI x_2]] (vI r) := by
 unfold Jg at hM
 refine Aq follows func352 rfl 9 rfl _ fz1 (fun base0_ => ?_)
 refine Ai <| rA rfl fun b2 => rz rfl <| Aa fun K3 hK3 => Ai <| rm 1 [0] rfl <| kB hM fun r5 hr6 hM => rc _ (cF XQ) (Ov N x_0 x_1 x_2 _ hr6) <| rz rfl <| AB _ rfl (fun hc7 => ?_) (fun hc7 => ?_)
 ·replace hM := ifn (Bool.eq_false_iff.1 (EF hc7)) hM
  refine AZ rfl ?_
  cases hM
  exact aR eE1
 replace hM := ifp (EG hc7) hM
 refine Af <| hK3 _ _ ?_
 refine Ai <| rm 2 [0] rfl <| r_W (vI (max x_2 1)) rfl (lf rfl rfl) <| rz rfl ?_
 cases hM
 exact aR eE1
def JZ (N : Nat) (l' : List (List UInt8 × Int × Int)) : Nat → Int → Int → Option Int
  | 0, _, _ => none
  | n5 + 1, n1_, x2_ => if x2_ < (l'.length : Int) then ck (0 ≤ x2_ ∧ x2_ < (l'.length : Int)) ((Jg N ((l'[x2_.toNat]!).1) ((l'[x2_.toNat]!).2.1) ((l'[x2_.toNat]!).2.2)).bind fun r13 => ck (-9223372036854775808 ≤ (n1_ + r13) ∧ (n1_ + r13) ≤ 9223372036854775807) (ck (-9223372036854775808 ≤ (x2_ + 1) ∧ (x2_ + 1) ≤ 9223372036854775807) ((JZ N l' n5) (n1_ + r13) (x2_ + 1)))) else some n1_
def JU (N : Nat) (l' : List (List UInt8 × Int × Int)) : Option Int := JZ N l' N 0 0
theorem Um (N l' r) (hM : JU N l' = some r) (ro l'v) (hl' : Rd IB ro l'v l') : Does prog 290 #[l'v] ro [] (pV (vI r)) := by
 unfold JU at hM
 refine Ac follows func290 rfl 18 rfl _ fz1 (fun base0_ => ?_)
 refine AZ rfl <| AZ rfl <| Aa fun K3 hK3 => Ai <| rn 1 rfl <| rL (Rd.shp hl') rfl <| rz rfl <| Aj <| AU (fun tt ll nn => ∃ (n5 : Nat) (n1_ : Int) (x2_ : Int), (JZ N l' n5 n1_ x2_ = some r) ∧ Is [(3, vI n1_), (6, l'v), (7, vI (l'.length : Int)), (8, vI x2_)] [] tt ll ∧ nn = n5 + 1) (N + 1) ?_ ?_
 ·exact ⟨N, 0, 0, hM, Ak rfl rfl, rfl⟩
 clear hM; rintro t l _ ⟨n5, n1_, x2_, hM, ⟨⟨T, rfl⟩, rfl⟩, rfl⟩
 rcases n5 with _ | n5
 ·exact absurd hM (by simp [JZ])
 rw [JZ] at hM
 refine AZ rfl <| Aa fun K7 hK7 => aD hM rfl (fun hc8 hM => ?_) (fun hc8 hM => ?_)
 ·refine Af <| hK7 _ _ ?_
  refine Aa fun K9 hK9 => Aj <| Ai <| kC hM fun ck11 hM => rI (Rd.shp hl') ck11 rfl <| rE (AA hl') ck11 0 rfl <| rA rfl fun b12 => ry [0] rfl <| Ar <| rm 2 [0] rfl <| kB hM fun r13 hr14 hM => rc _ (cF SH) (MF N ((l'[x2_.toNat]!).1) ((l'[x2_.toNat]!).2.1) ((l'[x2_.toNat]!).2.2) _ hr14) <| kC hM fun ck15 hM => rX ck15 rfl <| rz rfl <| hK9 _ _ ?_
  refine Ar <| kC hM fun ck16 hM => rX ck16 rfl <| rz rfl <| fg _ (Sub.of (suC _ suN)) ?_
  exact ⟨n5 + 1, by omega, n5, (n1_ + r13), (x2_ + 1), hM, Ak rfl rfl, rfl⟩
 refine AS <| hK3 _ _ ?_
 refine AZ rfl ?_
 cases hM
 exact aR eV1
def Kb (N : Nat) (headers : List ((List UInt8) × (List (List UInt8 × Int)) × Int × Int × Int × Int)) (l' : List (List UInt8 × Int × Int)) (r7 : List (List UInt8)) : Nat → Int → Option Int
  | 0, _ => none
  | n14 + 1, x1_ => if x1_ < (l'.length : Int) then ck (0 ≤ x1_ ∧ x1_ < (l'.length : Int)) ((Hq N r7 x1_).bind fun r24 => if (r24 : Int) ≠ 0 then some r24 else ck ((-9223372036854775808 ≤ ((headers.length : Int) - 1) ∧ ((headers.length : Int) - 1) ≤ 9223372036854775807)) ((DQ N ((l'[x1_.toNat]!).2.1) 0 ((headers.length : Int) - 1)).bind fun r31 => if r31 = true then (JC N ((l'[x1_.toNat]!).1) ((l'[x1_.toNat]!).2.1) ((l'[x1_.toNat]!).2.2)).bind fun r36 => if r36 = true then ck (-9223372036854775808 ≤ (x1_ + 1) ∧ (x1_ + 1) ≤ 9223372036854775807) ((Kb N headers l' r7 n14) (x1_ + 1)) else some 7 else some 5)) else (JU N l').bind fun r43 => if r43 > 32 then some 8 else some 0
def Np (N : Nat) (headers : List ((List UInt8) × (List (List UInt8 × Int)) × Int × Int × Int × Int)) (l' : List (List UInt8 × Int × Int)) : Option Int := if (l'.length : Int) > 16 then some 2 else (IG N l').bind fun r7 => Kb N headers l' r7 N 0
theorem ag (N headers l' r) (hM : Np N headers l' = some r) (ro headersv) (hheaders : RdN Hl ro headersv headers) (l'v) (hl' : Rd IB ro l'v l') : Does prog 234 #[headersv, l'v] ro [] (pV (vI r)) := by
 unfold Np at hM
 refine Ac follows func234 rfl 43 rfl _ fz2 (fun base0_ => ?_)
 refine AZ rfl <| Aa fun K2 hK2 => Ai <| rn 1 rfl <| rL (Rd.shp hl') rfl <| rz rfl <| aD hM rfl (fun hc4 hM => ?_) (fun hc4 hM => ?_)
 ·refine AZ rfl ?_
  cases hM
  exact aR eV1
 refine Af <| hK2 _ _ ?_
 refine A_sc [(some 13, false)] (conG prog [(13, fun _ _ v_ L_ U_ => ∀ u0_, IG N l' = some u0_ → (p1 (fun s_ => s_) 9 Bz u0_) v_ L_ U_)]) <| rn 1 rfl <| kB hM fun r7 hr8 hM => AP (Ls := []) (fun s9 => s9) 9 Bz r7 286 _ rfl rfl rfl (cF eO) (fun o w z_ => SY N l' _ hr8 z_.view l'v ((AA hl') o w z_)) (Ao hr8) (fun s9 S10 H11 => ?_)
 refine rz rfl <| Aa fun K12 hK12 => Ai <| rn 1 rfl <| rL (Rd.shp hl') rfl <| rz rfl <| Aj <| Be _ (Sub.pick [S10] [0] rfl) <| AU (fun tt ll nn => ∃ (n14 : Nat) (x1_ : Int), (Kb N headers l' r7 n14 x1_ = some r) ∧ Is [(0, headersv), (1, l'v), (5, s9), (14, l'v), (15, vI (l'.length : Int)), (16, vI x1_)] (List.flatten [S10]) tt ll ∧ nn = n14 + 1) (N + 1) ?_ ?_
 ·exact ⟨N, 0, hM, Ak rfl rfl, rfl⟩
 clear hM; rintro t l _ ⟨n14, x1_, hM, ⟨⟨T, rfl⟩, rfl⟩, rfl⟩
 rcases n14 with _ | n14
 ·exact absurd hM (by simp [Kb])
 rw [Kb] at hM
 refine AZ rfl <| Aa fun K16 hK16 => aD hM rfl (fun hc17 hM => ?_) (fun hc17 hM => ?_)
 ·refine Af <| hK16 _ _ ?_
  refine Aa fun K18 hK18 => Aj <| Ai <| rn 1 rfl <| kC hM fun ck20 hM => rI (Rd.shp hl') ck20 rfl <| rE (AA hl') ck20 0 rfl <| rA rfl fun b21 => ry [0] rfl <| Aa fun K22 hK22 => A_sc [(some 23, false)] (conG prog [(23, cV (Hq N r7 x1_) fun u0_ => vI u0_)]) <| rn 2 rfl <| kB hM fun r24 hr25 hM => rg _ (cF XR) (fun o w z_ => Qb N r7 x1_ _ hr25 z_.view s9 ((Ap H11 (Ad (Ls := [(ZB b21 ((l'[x1_.toNat]!).1) ((l'[x1_.toNat]!).2.1) ((l'[x1_.toNat]!).2.2)), S10]) (k := 1) rfl rfl)) o w z_)) (Ao hr25) <| rz rfl <| AZ rfl <| aN hM rfl (fun hc27 hM => ?_) (fun hc27 hM => ?_)
  ·refine AZ rfl ?_
   cases hM
   exact aR eV1
  refine Af <| hK22 _ _ ?_
  refine Aj <| Ai <| rm 3 [0] rfl <| rL (RdN.shp hheaders) rfl <| kC hM fun ck30 hM => rX ck30 rfl <| kB hM fun r31 hr32 hM => rc _ (cF GP) (Eu N ((l'[x1_.toNat]!).2.1) 0 ((headers.length : Int) - 1) _ hr32) <| rz rfl <| AB _ rfl (fun hc33 => ?_) (fun hc33 => ?_)
  ·replace hM := ifn (Bool.eq_false_iff.1 (EF hc33)) hM
   refine AZ rfl <| DJ [(4, vI 5)] rfl (fun T => ?_)
   cases hM
   exact aR eV1
  replace hM := ifp (EG hc33) hM
  refine Ai <| rm 1 [0] rfl <| kB hM fun r36 hr37 hM => rc _ (cF XQ) (Ov N ((l'[x1_.toNat]!).1) ((l'[x1_.toNat]!).2.1) ((l'[x1_.toNat]!).2.2) _ hr37) <| rz rfl <| AB _ rfl (fun hc38 => ?_) (fun hc38 => ?_)
  ·replace hM := ifn (Bool.eq_false_iff.1 (EF hc38)) hM
   refine AZ rfl <| DJ [(4, vI 7)] rfl (fun T => ?_)
   cases hM
   exact aR eV1
  replace hM := ifp (EG hc38) hM
  refine Af <| hK18 _ _ ?_
  refine Ar <| kC hM fun ck40 hM => rX ck40 rfl <| rz rfl <| fg _ (Sub.pick [(ZB b21 ((l'[x1_.toNat]!).1) ((l'[x1_.toNat]!).2.1) ((l'[x1_.toNat]!).2.2)), S10] [1] rfl) ?_
  exact ⟨n14 + 1, by omega, n14, (x1_ + 1), hM, Ak rfl rfl, rfl⟩
 refine AS <| hK12 _ _ ?_
 refine Aa fun K41 hK41 => A_sc [(some 41, false)] (conG prog [(41, cV (JU N l') fun u0_ => vI u0_)]) <| rn 1 rfl <| kB hM fun r43 hr44 hM => rg _ (cF XP) (fun o w z_ => Um N l' _ hr44 z_.view l'v ((AA hl') o w z_)) (Ao hr44) <| rz rfl <| aD hM rfl (fun hc45 hM => ?_) (fun hc45 hM => ?_)
 ·refine AZ rfl ?_
  cases hM
  exact aR eV1
 refine Af <| hK41 _ _ ?_
 refine AZ rfl ?_
 cases hM
 exact aR eV1
def Mj (N : Nat) (c : AN) : Option (Int × Int) := (Np N c.2.1 c.2.2.1).bind fun r4 => some (0, r4)
theorem VG (N c r) (hM : Mj N c = some r) (ro) (cv : AH) (hc : Bun35R ro cv c) : Does prog 195 #[vA (Ag c cv)] ro [] (pV (vT #[vI r.1, vI r.2])) := by
 unfold Mj at hM
 refine Ac follows func195 rfl 11 rfl _ fz1 (fun base0_ => ?_)
 refine Ai <| rA rfl fun b2 => rz rfl <| A_sc [(some 10, false)] (conG prog [(10, cV (Np N c.2.1 c.2.2.1) fun u0_ => vI u0_)]) <| rm 6 [0, 0] rfl <| kB hM fun r4 hr5 hM => rg _ (cF fC) (fun o w z_ => ag N c.2.1 c.2.2.1 _ hr5 z_.view cv.1 (RdN.mono z_.ro_cell hc.1) cv.2.1 ((AA hc.2.1) o w z_)) (Ao hr5) <| rz rfl ?_
 cases hM
 exact aR eV2
def Na (_ : Nat) (f_0 : List UInt8) (_ : Int) : Option (List UInt8) := some f_0
theorem Xa (N f_0 f_1 r) (hM : Na N f_0 f_1 = some r) : Gives prog 236 #[vA #[vS f_0, vI f_1]] (vS r) := by
 unfold Na at hM
 refine Aq follows func236 rfl 5 rfl _ fz1 (fun base0_ => ?_)
 refine Ai <| rA rfl fun b2 => rz rfl <| AY [0] rfl ?_
 cases hM
 exact aR eE1
def FV (N : Nat) (l' : List (List UInt8 × Int)) : Nat → List (List UInt8) → Int → Option (List (List UInt8))
  | 0, _, _ => none
  | n9 + 1, s1_, x2_ => if x2_ < (l'.length : Int) then ck (0 ≤ x2_ ∧ x2_ < (l'.length : Int)) ((Na N ((l'[x2_.toNat]!).1) ((l'[x2_.toNat]!).2)).bind fun r17 => ck (0 ≤ x2_ ∧ x2_ < (s1_.length : Int)) (ck (-9223372036854775808 ≤ (x2_ + 1) ∧ (x2_ + 1) ≤ 9223372036854775807) ((FV N l' n9) ((s1_).set (x2_.toNat) r17) (x2_ + 1)))) else some s1_
def IW (N : Nat) (l' : List (List UInt8 × Int)) : Option (List (List UInt8)) := ck (0 ≤ (l'.length : Int) ∧ (l'.length : Int) ≤ 8796093022208) (FV N l' N ((List.replicate ((l'.length : Int)).toNat ([]))) 0)
theorem TP (N l' r) (hM : IW N l' = some r) (ro l'v) (hl' : Rd BQ ro l'v l') : Does prog 291 #[l'v, vF 236 #[] #[]] ro [] (p1 (fun s_ => s_) 9 Bz r) := by
 unfold IW at hM
 refine Ac follows func291 rfl 26 rfl _ fz2 (fun base0_ => ?_)
 refine AZ rfl <| A_sc [(some 10, false)] (conG prog [(10, fun _ _ v_ L_ U_ => (p1 (fun v => v) 9 Bz (List.replicate ((l'.length : Int)).toNat ([]))) v_ L_ U_)]) <| rn 1 rfl <| rL (Rd.shp hl') rfl <| kC hM fun ck3 hM => Rs (Ls := []) 9 Bz ([]) (l'.length : Int) rfl rfl rfl rfl rfl rfl rfl rfl rfl rfl 8796093022208 rfl ck3 (fun _ _ _ _ _ => Iff.rfl) (fun s4 S5 H6 => ?_)
 refine rz rfl <| Aa fun K7 hK7 => Ai <| rn 1 rfl <| rL (Rd.shp hl') rfl <| rz rfl <| Aj <| Be _ (Sub.pick [S5] [0] rfl) <| AU (fun tt ll nn => ∃ (n9 : Nat) (s1_ : List (List UInt8)) (x2_ : Int), (FV N l' n9 s1_ x2_ = some r) ∧ ∃ (Ss1_ : List Bl), Sl 9 Bz s4 s1_ Ss1_ ∧ Is [(1, vF 236 #[] #[]), (5, s4), (11, l'v), (12, vI (l'.length : Int)), (13, vI x2_)] (List.flatten [Ss1_]) tt ll ∧ nn = n9 + 1) (N + 1) ?_ ?_
 ·exact ⟨N, (List.replicate ((l'.length : Int)).toNat ([])), 0, hM, S5, H6, Ak rfl rfl, rfl⟩
 clear hM; rintro t l _ ⟨n9, s1_, x2_, hM, Ss1_, hs1_, ⟨⟨T, rfl⟩, rfl⟩, rfl⟩
 rcases n9 with _ | n9
 ·exact absurd hM (by simp [FV])
 rw [FV] at hM
 refine AZ rfl <| Aa fun K11 hK11 => aD hM rfl (fun hc12 hM => ?_) (fun hc12 hM => ?_)
 ·refine Af <| hK11 _ _ ?_
  refine Aa fun K13 hK13 => Aj <| Ai <| rn 1 rfl <| kC hM fun ck15 hM => rI (Rd.shp hl') ck15 rfl <| rE (AA hl') ck15 0 rfl <| rA rfl fun b16 => ry [0] rfl <| Ar <| rm 4 [0] rfl <| kB hM fun r17 hr18 hM => rc _ (AO (caps := []) rfl fA rfl) (Xa N ((l'[x2_.toNat]!).1) ((l'[x2_.toNat]!).2) _ hr18) <| kC hM fun ck19 hM => rI (Sl.shp hs1_) ck19 rfl <| Rr (Ls := [(QV b16 ((l'[x2_.toNat]!).1) ((l'[x2_.toNat]!).2)), Ss1_]) 1 (En := Bz) (s1_[x2_.toNat]!) r17 (x2_.toNat) 0 rfl rfl rfl hs1_ (CP ck19) rfl rfl rfl (HI rfl) rfl (fun S20 H21 => ?_)
  refine As <| hK13 _ _ ?_
  refine Ar <| kC hM fun ck22 hM => rX ck22 rfl <| rz rfl <| fg _ (Sub.pick [(QV b16 ((l'[x2_.toNat]!).1) ((l'[x2_.toNat]!).2)), S20] [1] rfl) ?_
  exact ⟨n9 + 1, by omega, n9, (s1_).set (x2_.toNat) r17, (x2_ + 1), hM, S20, H21, Ak rfl rfl, rfl⟩
 refine AS <| hK7 _ _ ?_
 refine AZ rfl ?_
 cases hM
 refine Au (fun hn => AG (v0 := s4) hs1_ (Aw (Sub.pick [Ss1_] [0] rfl)) rfl (AV rfl))
def Df (N : Nat) (s : List UInt8) : Option Bool := (Iy N s).bind fun r3 => if r3 = true then (JE N s ([46] : List UInt8)).bind fun r6 => some (!(r6)) else some false
theorem Iz (N s r) (hM : Df N s = some r) : Gives prog 294 #[vS s] (vB r) := by
 unfold Df at hM
 refine Aq follows func294 rfl 10 rfl _ fz1 (fun base0_ => ?_)
 refine AZ rfl <| Aa fun K2 hK2 => Ar <| rn 1 rfl <| kB hM fun r3 hr4 hM => rc _ (cF SQ) (Oe N s _ hr4) <| rn 1 rfl ?_
 rcases hg5 : r3 with _ | _
 ·replace hM := iB hg5 hM
  refine rz rfl <| hK2 _ _ ?_
  cases hM
  exact aR eE1
 replace hM := ifp hg5 hM
 refine rn 1 rfl <| r_y rfl <| kB hM fun r6 hr7 hM => rc _ (cF XJ) (Ox N s ([46] : List UInt8) _ hr7) <| rz rfl <| hK2 _ _ ?_
 cases hM
 exact aR eE1
def Gr (N : Nat) (w : Int) : Option Int := (AE N w 1 128).bind fun r3 => (Al N r3 9).bind fun r5 => some r5
theorem Md (N w r) (hM : Gr N w = some r) : Gives prog 238 #[vI w] (vI r) := by
 unfold Gr at hM
 refine Aq follows func238 rfl 6 rfl _ fz1 (fun base0_ => ?_)
 refine AZ rfl <| Ai <| rn 1 rfl <| kB hM fun r3 hr4 hM => rc _ (cF Cd) (AJ N w 1 128 _ hr4) <| kB hM fun r5 hr6 hM => rc _ (cF AL) (Az N r3 9 _ hr6) <| rz rfl ?_
 cases hM
 exact aR eE1
def La (N : Nat) (_ : List UInt8) (f_1 : Int) : Option Int := (Gr N f_1).bind fun r4 => some r4
theorem WZ (N f_0 f_1 r) (hM : La N f_0 f_1 = some r) : Gives prog 237 #[vA #[vS f_0, vI f_1]] (vI r) := by
 unfold La at hM
 refine Aq follows func237 rfl 6 rfl _ fz1 (fun base0_ => ?_)
 refine Ai <| rA rfl fun b2 => rz rfl <| Ai <| rm 2 [0] rfl <| kB hM fun r4 hr5 hM => rc _ (cF SP) (Md N f_1 _ hr5) <| rz rfl ?_
 cases hM
 exact aR eE1
def Hb (N : Nat) (i : Int) (x_0 : List UInt8) (x_1 : Int) (c2_ : List (List UInt8)) : Option Int := ck (0 ≤ i ∧ i < (c2_.length : Int)) ((Df N (c2_[i.toNat]!)).bind fun r5 => (Al N r5 4).bind fun r7 => (Bb N c2_ i).bind fun r9 => (La N x_0 x_1).bind fun r11 => (AC N ([r7, r9, r11])).bind fun r16 => some r16)
theorem QF (N i x_0 x_1 c2_ r) (hM : Hb N i x_0 x_1 c2_ = some r) (ro) (bc2_ : Nat) (c2_v) (hc2_ : Rd Bz ro c2_v c2_) (hbc2_ : Blk ro bc2_ [c2_v]) (bc3_ : Nat) (hbc3_ : Blk ro bc3_ [vF 237 #[] #[]]) : Does prog 293 #[vI i, vA #[vS x_0, vI x_1], vP bc2_ 0, vP bc3_ 0] ro [] (pV (vI r)) := by
 unfold Hb at hM
 refine Ac follows func293 rfl 21 rfl _ fz4 (fun base0_ => ?_)
 refine Ai <| rA rfl fun b2 => rz rfl <| Aa fun K3 hK3 => BA [(some 15, false), (some 19, false), (some 20, false)] (conG prog [(15, cV (Bb N c2_ i) fun u0_ => vI u0_), (20, fun _ _ v_ L_ U_ => ∀ u0_, Df N (c2_[i.toNat]!) = some u0_ → ∀ u1_, Al N u0_ 4 = some u1_ → ∀ u2_, Bb N c2_ i = some u2_ → ∀ u3_, La N x_0 x_1 = some u3_ → ∀ u4_, AC N ([u1_, u2_, u3_]) = some u4_ → (pV (vI u4_)) v_ L_ U_)]) [] (by decide +kernel) (fun hn => Ba) <| Ec c2_v (vs := [c2_v]) (o := 0) rfl rfl (AM hbc2_) rfl <| rn 1 rfl <| kC hM fun ck4 hM => rI (Rd.shp hc2_) ck4 rfl <| rE (AA hc2_) ck4 0 rfl <| kB hM fun r5 hr6 hM => rc _ (cF Kz) (Iz N (c2_[i.toNat]!) _ hr6) <| kB hM fun r7 hr8 hM => rc _ (cF AL) (Az N r5 4 _ hr8) <| Ec c2_v (vs := [c2_v]) (o := 0) rfl rfl (AM hbc2_) rfl <| rn 1 rfl <| kB hM fun r9 hr10 hM => rg _ (cF Jt) (fun o w z_ => Es N c2_ i _ hr10 z_.view c2_v (z_.r hc2_)) (Ao hr10) <| Ec (vF 237 #[] #[]) (vs := [vF 237 #[] #[]]) (o := 0) rfl rfl (AM hbc3_) rfl <| rm 1 [0] rfl <| kB hM fun r11 hr12 hM => rc _ (AO (caps := []) rfl fy rfl) (WZ N x_0 x_1 _ hr12) ?_
 refine BF (Ls := [(QV b2 x_0 x_1)]) 39 Bf [r7, r9, r11] [vI r7, vI r9, vI r11] [vI 0, vI 0, vI 0] rfl rfl rfl rfl rfl rfl rfl (by kernel_rfl) (by kernel_rfl) rfl rfl rfl (fun s13 S14 H15 => ?_)
 refine kB hM fun r16 hr17 hM => rg _ (cF BV) (fun o w z_ => BD N ([r7, r9, r11]) _ hr17 z_.view s13 ((Ap H15 (Ad (Ls := [(QV b2 x_0 x_1), S14]) (k := 1) rfl rfl)) o w z_)) (fun _ _ v_ L_ U_ => ⟨fun h_ => h_ _ hr6 _ hr8 _ hr10 _ hr12 _ hr17, fun h_ => by intro _ e_; cases Option.some.inj (e_.symm.trans hr6); intro _ e_; cases Option.some.inj (e_.symm.trans hr8); intro _ e_; cases Option.some.inj (e_.symm.trans hr10); intro _ e_; cases Option.some.inj (e_.symm.trans hr12); intro _ e_; cases Option.some.inj (e_.symm.trans hr17); exact h_⟩) ?_
 refine rz rfl <| hK3 _ _ ?_
 cases hM
 exact aR eV1
def FZ (N : Nat) (l' : List (List UInt8 × Int)) (ask0_ : List (List UInt8)) : Nat → Int → Option (Int × Int)
  | 0, _ => none
  | n8 + 1, x1_ => if x1_ < (l'.length : Int) then ck (0 ≤ x1_ ∧ x1_ < (l'.length : Int)) ((Hb N x1_ ((l'[x1_.toNat]!).1) ((l'[x1_.toNat]!).2) ask0_).bind fun r17 => if (r17 : Int) ≠ 0 then some (x1_, r17) else ck (-9223372036854775808 ≤ (x1_ + 1) ∧ (x1_ + 1) ≤ 9223372036854775807) ((FZ N l' ask0_ n8) (x1_ + 1))) else some (0, 0)
def Ja (N : Nat) (l' : List (List UInt8 × Int)) (most : Int) (ask0_ : List (List UInt8)) : Option (Int × Int) := if (l'.length : Int) > most then some (0, 2) else FZ N l' ask0_ N 0
theorem TT (N l' most ask0_ r) (hM : Ja N l' most ask0_ = some r) (ro l'v) (hl' : Rd BQ ro l'v l') (bask0_ : Nat) (ask0_v) (hask0_ : Rd Bz ro ask0_v ask0_) (hbask0_ : Blk ro bask0_ [ask0_v]) (bask1_ : Nat) (hbask1_ : Blk ro bask1_ [vF 237 #[] #[]]) : Does prog 292 #[l'v, vI most, vF 293 #[] #[vP bask0_ 0, vP bask1_ 0]] ro [] (pV (vT #[vI r.1, vI r.2])) := by
 unfold Ja at hM
 refine Ac follows func292 rfl 31 rfl _ fz3 (fun base0_ => ?_)
 refine AZ rfl <| Aa fun K2 hK2 => Ai <| rn 1 rfl <| rL (Rd.shp hl') rfl <| rz rfl <| aD hM rfl (fun hc4 hM => ?_) (fun hc4 hM => ?_)
 ·refine AZ rfl ?_
  cases hM
  exact aR eV2
 refine Af <| hK2 _ _ ?_
 refine Aa fun K6 hK6 => Ai <| rn 1 rfl <| rL (Rd.shp hl') rfl <| rz rfl <| Aj <| AU (fun tt ll nn => ∃ (n8 : Nat) (x1_ : Int), (FZ N l' ask0_ n8 x1_ = some r) ∧ Is [(2, vF 293 #[] #[vP bask0_ 0, vP bask1_ 0]), (15, l'v), (16, vI (l'.length : Int)), (17, vI x1_)] [] tt ll ∧ nn = n8 + 1) (N + 1) ?_ ?_
 ·exact ⟨N, 0, hM, Ak rfl rfl, rfl⟩
 clear hM; rintro t l _ ⟨n8, x1_, hM, ⟨⟨T, rfl⟩, rfl⟩, rfl⟩
 rcases n8 with _ | n8
 ·exact absurd hM (by simp [FZ])
 rw [FZ] at hM
 refine AZ rfl <| Aa fun K10 hK10 => aD hM rfl (fun hc11 hM => ?_) (fun hc11 hM => ?_)
 ·refine Af <| hK10 _ _ ?_
  refine Aa fun K12 hK12 => Aj <| Ai <| rn 1 rfl <| kC hM fun ck14 hM => rI (Rd.shp hl') ck14 rfl <| rE (AA hl') ck14 0 rfl <| rA rfl fun b15 => ry [0] rfl <| A_sc [(some 25, false)] (conG prog [(25, cV (Hb N x1_ ((l'[x1_.toNat]!).1) ((l'[x1_.toNat]!).2) ask0_) fun u0_ => vI u0_)]) <| rm 3 [0] rfl <| kB hM fun r17 hr18 hM => rg _ (AO (caps := [vP bask0_ 0, vP bask1_ 0]) rfl eL rfl) (fun o w z_ => QF N x1_ ((l'[x1_.toNat]!).1) ((l'[x1_.toNat]!).2) ask0_ _ hr18 z_.view bask0_ ask0_v (z_.r hask0_) (AM hbask0_ o w z_) bask1_ (AM hbask1_ o w z_)) (Ao hr18) <| rz rfl <| AZ rfl <| aN hM rfl (fun hc20 hM => ?_) (fun hc20 hM => ?_)
  ·refine AZ rfl ?_
   cases hM
   exact aR eV2
  refine Af <| hK12 _ _ ?_
  refine Ar <| kC hM fun ck22 hM => rX ck22 rfl <| rz rfl <| fg _ (Sub.of (suC _ suN)) ?_
  exact ⟨n8 + 1, by omega, n8, (x1_ + 1), hM, Ak rfl rfl, rfl⟩
 refine AS <| hK6 _ _ ?_
 refine AZ rfl ?_
 cases hM
 exact aR eV2
def IS (N : Nat) (l' : List (List UInt8 × Int)) (most : Int) : Option (Int × Int) := (IW N l').bind fun r4 => (Ja N l' most r4).bind fun r11 => some (r11.1, r11.2)
theorem TL (N l' most r) (hM : IS N l' most = some r) (ro l'v) (hl' : Rd BQ ro l'v l') : Does prog 235 #[l'v, vI most, vF 236 #[] #[], vF 237 #[] #[]] ro [] (pV (vT #[vI r.1, vI r.2])) := by
 unfold IS at hM
 refine Ac follows func235 rfl 20 rfl _ fz4 (fun base0_ => ?_)
 refine Ai <| rA rfl fun b2 => rz rfl <| A_sc [(some 13, false)] (conG prog [(13, fun _ _ v_ L_ U_ => ∀ u0_, IW N l' = some u0_ → (p1 (fun s_ => s_) 9 Bz u0_) v_ L_ U_)]) <| rn 2 rfl <| kB hM fun r4 hr5 hM => AP (Ls := [(RQ b2 (vF 237 #[] #[]))]) (fun s6 => s6) 9 Bz r4 291 _ rfl rfl rfl (cF eN) (fun o w z_ => TP N l' _ hr5 z_.view l'v ((AA hl') o w z_)) (Ao hr5) (fun s6 S7 H8 => ?_)
 refine rA rfl fun b9 => r_s (List.flatten [(QW b9 s6), (RQ b2 (vF 237 #[] #[])), S7]) 0 _ _ _ _ _ (#[s6]) rfl rfl rfl (AI rfl (Sl.shp H8)) (.ofS rfl rfl (Ab (Shp.one (Sl.shp H8)) Bh)) rfl rfl <| As <| A_sc [(some 17, false)] (conG prog [(17, cV (Ja N l' most r4) fun u0_ => vT #[vI u0_.1, vI u0_.2])]) <| rn 2 rfl <| r_W (vF 293 #[] #[vP b9 0, vP b2 0]) rfl (EM rfl) <| kB hM fun r11 hr12 hM => rg _ (cF eM) (fun o w z_ => TT N l' most r4 _ hr12 z_.view l'v ((AA hl') o w z_) b9 s6 ((Ap H8 (Ad (Ls := [(QW b9 s6), (RQ b2 (vF 237 #[] #[])), S7]) (k := 2) rfl rfl)) o w z_) (BR 0 rfl rfl o w z_) b2 (BR 1 rfl rfl o w z_)) (Ao hr12) <| rz rfl ?_
 cases hM
 exact aR eV2
def Mi (N : Nat) (c : AN) : Option (Int × Int) := (IS N c.2.2.2.1 16).bind fun r4 => some (r4.1, r4.2)
theorem VE (N c r) (hM : Mi N c = some r) (ro) (cv : AH) (hc : Bun35R ro cv c) : Does prog 196 #[vA (Ag c cv)] ro [] (pV (vT #[vI r.1, vI r.2])) := by
 unfold Mi at hM
 refine Ac follows func196 rfl 10 rfl _ fz1 (fun base0_ => ?_)
 refine Ai <| rA rfl fun b2 => rz rfl <| A_sc [(some 7, false)] (conG prog [(7, cV (IS N c.2.2.2.1 16) fun u0_ => vT #[vI u0_.1, vI u0_.2])]) <| rm 3 [0] rfl <| kB hM fun r4 hr5 hM => rg _ (cF fB) (fun o w z_ => TL N c.2.2.2.1 16 _ hr5 z_.view cv.2.2.1 ((AA hc.2.2.1) o w z_)) (Ao hr5) <| rz rfl ?_
 cases hM
 exact aR eV2
def Hg (_ : Nat) (s_0 : List UInt8) (_ : List (Int × Int)) (_ : List (Int × Int × Int)) (_ : List (Int × BitVec 128 × Int × BitVec 128 × Int)) (_ : Int) : Option (List UInt8) := some s_0
theorem QK (N s_0 s_1 s_2 s_3 s_4 r) (hM : Hg N s_0 s_1 s_2 s_3 s_4 = some r) (ro : Ro) (s_1v : Value) (_hs_1 : Rd JQ ro s_1v s_1) (s_2v : Value) (_hs_2 : Rd DO ro s_2v s_2) (s_3v : Value) (_hs_3 : Rd JP ro s_3v s_3) : Does prog 240 #[vA #[vS s_0, s_1v, s_2v, s_3v, vI s_4]] ro [] (pV (vS r)) := by
 unfold Hg at hM
 refine Ac follows func240 rfl 5 rfl _ fz1 (fun base0_ => ?_)
 refine Ai <| rA rfl fun b2 => rz rfl <| AY [0] rfl ?_
 cases hM
 exact aR eV1
def FT (N : Nat) (l' : List ((List UInt8) × (List (Int × Int)) × (List (Int × Int × Int)) × (List (Int × BitVec 128 × Int × BitVec 128 × Int)) × Int)) : Nat → List (List UInt8) → Int → Option (List (List UInt8))
  | 0, _, _ => none
  | n9 + 1, s1_, x2_ => if x2_ < (l'.length : Int) then ck (0 ≤ x2_ ∧ x2_ < (l'.length : Int)) ((Hg N (l'[x2_.toNat]!.1) (l'[x2_.toNat]!.2.1) (l'[x2_.toNat]!.2.2.1) (l'[x2_.toNat]!.2.2.2.1) (l'[x2_.toNat]!.2.2.2.2)).bind fun r24 => ck (0 ≤ x2_ ∧ x2_ < (s1_.length : Int)) (ck (-9223372036854775808 ≤ (x2_ + 1) ∧ (x2_ + 1) ≤ 9223372036854775807) ((FT N l' n9) ((s1_).set (x2_.toNat) r24) (x2_ + 1)))) else some s1_
def IU (N : Nat) (l' : List ((List UInt8) × (List (Int × Int)) × (List (Int × Int × Int)) × (List (Int × BitVec 128 × Int × BitVec 128 × Int)) × Int)) : Option (List (List UInt8)) := ck (0 ≤ (l'.length : Int) ∧ (l'.length : Int) ≤ 8796093022208) (FT N l' N ((List.replicate ((l'.length : Int)).toNat ([]))) 0)
theorem TN (N l' r) (hM : IU N l' = some r) (ro l'v) (hl' : RdN Im ro l'v l') : Does prog 295 #[l'v, vF 240 #[] #[]] ro [] (p1 (fun s_ => s_) 9 Bz r) := by
 unfold IU at hM
 refine Ac follows func295 rfl 26 rfl _ fz2 (fun base0_ => ?_)
 refine AZ rfl <| A_sc [(some 10, false)] (conG prog [(10, fun _ _ v_ L_ U_ => (p1 (fun v => v) 9 Bz (List.replicate ((l'.length : Int)).toNat ([]))) v_ L_ U_)]) <| rn 1 rfl <| rL (RdN.shp hl') rfl <| kC hM fun ck3 hM => Rs (Ls := []) 9 Bz ([]) (l'.length : Int) rfl rfl rfl rfl rfl rfl rfl rfl rfl rfl 8796093022208 rfl ck3 (fun _ _ _ _ _ => Iff.rfl) (fun s4 S5 H6 => ?_)
 refine rz rfl <| Aa fun K7 hK7 => Ai <| rn 1 rfl <| rL (RdN.shp hl') rfl <| rz rfl <| Aj <| Be _ (Sub.pick [S5] [0] rfl) <| AU (fun tt ll nn => ∃ (n9 : Nat) (s1_ : List (List UInt8)) (x2_ : Int), (FT N l' n9 s1_ x2_ = some r) ∧ ∃ (Ss1_ : List Bl), Sl 9 Bz s4 s1_ Ss1_ ∧ Is [(1, vF 240 #[] #[]), (5, s4), (11, l'v), (12, vI (l'.length : Int)), (13, vI x2_)] (List.flatten [Ss1_]) tt ll ∧ nn = n9 + 1) (N + 1) ?_ ?_
 ·exact ⟨N, (List.replicate ((l'.length : Int)).toNat ([])), 0, hM, S5, H6, Ak rfl rfl, rfl⟩
 clear hM; rintro t l _ ⟨n9, s1_, x2_, hM, Ss1_, hs1_, ⟨⟨T, rfl⟩, rfl⟩, rfl⟩
 rcases n9 with _ | n9
 ·exact absurd hM (by simp [FT])
 rw [FT] at hM
 refine AZ rfl <| Aa fun K11 hK11 => aD hM rfl (fun hc12 hM => ?_) (fun hc12 hM => ?_)
 ·refine Af <| hK11 _ _ ?_
  refine Aa fun K13 hK13 => Aj <| Ai <| rn 1 rfl <| kC hM fun ck15 hM => ?_
  obtain ⟨_, ⟨s16, s17, s18, hs19, hs20, hs21, rfl⟩, hat22⟩ := RdN.at (E := Im) hl' (CP ck15)
  refine rI (RdN.shp hl') ck15 rfl <| Mv (vA #[vS (l'[x2_.toNat]!.1), s16, s17, s18, vI (l'[x2_.toNat]!.2.2.2.2)]) (vs := [vS (l'[x2_.toNat]!.1), s16, s17, s18, vI (l'[x2_.toNat]!.2.2.2.2)]) (x2_.toNat * 5) 0 rfl rfl (fun o w z_ => At.mono z_.ro_cell hat22) rfl <| rA rfl fun b23 => rn 1 rfl <| r_s (List.flatten [(Vt b23 (l'[x2_.toNat]!.1) s16 s17 s18 (l'[x2_.toNat]!.2.2.2.2)), Ss1_]) 0 _ _ _ _ _ (#[vS (l'[x2_.toNat]!.1), s16, s17, s18, vI (l'[x2_.toNat]!.2.2.2.2)]) rfl rfl rfl rfl (.ofS rfl rfl (Ab rfl (Ab (Shp.one (Rd.shp hs19)) (Ab (Shp.one (Rd.shp hs20)) (Ab (Shp.one (Rd.shp hs21)) (Ab rfl Bh)))))) rfl rfl <| As ?_
  refine A_regC [(some 22, false)] (conG prog [(22, cV (Hg N (l'[x2_.toNat]!.1) (l'[x2_.toNat]!.2.1) (l'[x2_.toNat]!.2.2.1) (l'[x2_.toNat]!.2.2.2.1) (l'[x2_.toNat]!.2.2.2.2)) fun u0_ => vS u0_)]) <| rm 4 [0] rfl <| kB hM fun r24 hr25 hM => rg _ (AO (caps := []) rfl fw rfl) (fun o w z_ => QK N (l'[x2_.toNat]!.1) (l'[x2_.toNat]!.2.1) (l'[x2_.toNat]!.2.2.1) (l'[x2_.toNat]!.2.2.2.1) (l'[x2_.toNat]!.2.2.2.2) _ hr25 z_.view s16 (z_.r hs19) s17 (z_.r hs20) s18 (z_.r hs21)) (Ao hr25) <| kC hM fun ck26 hM => rI (Sl.shp hs1_) ck26 rfl <| Rr (Ls := [(Vt b23 (l'[x2_.toNat]!.1) s16 s17 s18 (l'[x2_.toNat]!.2.2.2.2)), Ss1_]) 1 (En := Bz) (s1_[x2_.toNat]!) r24 (x2_.toNat) 0 rfl rfl rfl hs1_ (CP ck26) rfl rfl rfl (HI rfl) rfl (fun S27 H28 => ?_)
  refine As <| hK13 _ _ ?_
  refine Ar <| kC hM fun ck29 hM => rX ck29 rfl <| rz rfl <| fg _ (Sub.pick [(Vt b23 (l'[x2_.toNat]!.1) s16 s17 s18 (l'[x2_.toNat]!.2.2.2.2)), S27] [1] rfl) ?_
  exact ⟨n9 + 1, by omega, n9, (s1_).set (x2_.toNat) r24, (x2_ + 1), hM, S27, H28, Ak rfl rfl, rfl⟩
 refine AS <| hK7 _ _ ?_
 refine AZ rfl ?_
 cases hM
 refine Au (fun hn => AG (v0 := s4) hs1_ (Aw (Sub.pick [Ss1_] [0] rfl)) rfl (AV rfl))
def Ow (N : Nat) (l' : List (List UInt8 × Int × Int)) : Nat → Int → Int → Option (Int × Int × Bool)
  | 0, _, _ => none
  | n8 + 1, slot1_, x2_ => if x2_ < (l'.length : Int) then ck (0 ≤ x2_ ∧ x2_ < (l'.length : Int)) ((Jg N ((l'[x2_.toNat]!).1) ((l'[x2_.toNat]!).2.1) ((l'[x2_.toNat]!).2.2)).bind fun r17 => if slot1_ < r17 then some (x2_, slot1_, true) else ck (-9223372036854775808 ≤ (slot1_ - r17) ∧ (slot1_ - r17) ≤ 9223372036854775807) (ck (-9223372036854775808 ≤ (x2_ + 1) ∧ (x2_ + 1) ≤ 9223372036854775807) ((Ow N l' n8) (slot1_ - r17) (x2_ + 1)))) else some (0, 0, false)
def MG (N : Nat) (l' : List (List UInt8 × Int × Int)) (slot : Int) : Option (Int × Int × Bool) := if slot < 0 then some (0, 0, false) else Ow N l' N slot 0
theorem Yv (N l' slot r) (hM : MG N l' slot = some r) (ro l'v) (hl' : Rd IB ro l'v l') : Does prog 321 #[l'v, vI slot] ro [] (pV (vT #[vI r.1, vI r.2.1, vB r.2.2])) := by
 unfold MG at hM
 refine Ac follows func321 rfl 30 rfl _ fz2 (fun base0_ => ?_)
 refine AZ rfl <| Aa fun K2 hK2 => AZ rfl <| aD hM rfl (fun hc4 hM => ?_) (fun hc4 hM => ?_)
 ·refine AZ rfl ?_
  cases hM
  exact aR eV3
 refine Af <| hK2 _ _ ?_
 refine Aa fun K6 hK6 => Ai <| rn 1 rfl <| rL (Rd.shp hl') rfl <| rz rfl <| Aj <| AU (fun tt ll nn => ∃ (n8 : Nat) (slot1_ : Int) (x2_ : Int), (Ow N l' n8 slot1_ x2_ = some r) ∧ Is [(1, vI slot1_), (12, l'v), (13, vI (l'.length : Int)), (14, vI x2_)] [] tt ll ∧ nn = n8 + 1) (N + 1) ?_ ?_
 ·exact ⟨N, slot, 0, hM, Ak rfl rfl, rfl⟩
 clear hM; rintro t l _ ⟨n8, slot1_, x2_, hM, ⟨⟨T, rfl⟩, rfl⟩, rfl⟩
 rcases n8 with _ | n8
 ·exact absurd hM (by simp [Ow])
 rw [Ow] at hM
 refine AZ rfl <| Aa fun K10 hK10 => aD hM rfl (fun hc11 hM => ?_) (fun hc11 hM => ?_)
 ·refine Af <| hK10 _ _ ?_
  refine Aa fun K12 hK12 => Aj <| Ai <| rn 1 rfl <| kC hM fun ck14 hM => rI (Rd.shp hl') ck14 rfl <| rE (AA hl') ck14 0 rfl <| rA rfl fun b15 => ry [0] rfl <| Ai <| rm 1 [0] rfl <| kB hM fun r17 hr18 hM => rc _ (cF SH) (MF N ((l'[x2_.toNat]!).1) ((l'[x2_.toNat]!).2.1) ((l'[x2_.toNat]!).2.2) _ hr18) <| rz rfl <| Aa fun K19 hK19 => AZ rfl <| aD hM rfl (fun hc21 hM => ?_) (fun hc21 hM => ?_)
  ·refine AZ rfl ?_
   cases hM
   exact aR eV3
  refine Af <| hK19 _ _ ?_
  refine Ar <| rn 2 rfl <| kC hM fun ck23 hM => rX ck23 rfl <| rz rfl <| hK12 _ _ ?_
  refine Ar <| kC hM fun ck24 hM => rX ck24 rfl <| rz rfl <| fg _ (Sub.of (suC _ suN)) ?_
  exact ⟨n8 + 1, by omega, n8, (slot1_ - r17), (x2_ + 1), hM, Ak rfl rfl, rfl⟩
 refine AS <| hK6 _ _ ?_
 refine AZ rfl ?_
 cases hM
 exact aR eV3
def NY (N : Nat) (l' : List (List UInt8 × Int × Int)) (i : Int) : Option (Int × Bool) := ck (0 ≤ i ∧ i ≤ (l'.length : Int)) ((JU N (((l').take (i.toNat)).drop 0)).bind fun r4 => some (r4, true))
def Nq (N : Nat) (l' : List (List UInt8 × Int × Int)) (i : Int) : Option (Int × Bool) := ck ((-9223372036854775808 ≤ ((l'.length : Int) - 1) ∧ ((l'.length : Int) - 1) ≤ 9223372036854775807)) ((DQ N i 0 ((l'.length : Int) - 1)).bind fun r8 => if r8 = true then ck (0 ≤ i ∧ i < (l'.length : Int)) ((Jg N ((l'[i.toNat]!).1) ((l'[i.toNat]!).2.1) ((l'[i.toNat]!).2.2)).bind fun r12 => if r12 = 0 then some (0, false) else NY N l' i ) else some (0, false))
theorem ah (N l' i r) (hM : Nq N l' i = some r) (ro l'v) (hl' : Rd IB ro l'v l') : Does prog 384 #[l'v, vI i] ro [] (pV (vT #[vI r.1, vB r.2])) := by
 unfold Nq at hM
 refine Ac follows func384 rfl 24 rfl _ fz2 (fun base0_ => ?_)
 refine AZ rfl <| Cr (fun tt ll => (NY N l' i  = some r) ∧ Is [(0, l'v), (1, vI i)] [] tt ll) ?_ ?_
 ·refine Aa fun K6 hK6 => Ar <| rn 2 rfl <| rL (Rd.shp hl') rfl <| kC hM fun ck7 hM => rX ck7 rfl <| kB hM fun r8 hr9 hM => rc _ (cF GP) (Eu N i 0 ((l'.length : Int) - 1) _ hr9) <| rn 2 rfl ?_
  rcases hg10 : (!(r8)) with _ | _
  ·replace hM := ifp (EG hg10) hM
   refine rn 2 rfl <| r_y rfl <| kC hM fun ck11 hM => rI (Rd.shp hl') ck11 rfl <| r_y rfl <| rE (AA hl') ck11 0 rfl <| r_y rfl <| kB hM fun r12 hr13 hM => rc _ (cF SH) (MF N ((l'[i.toNat]!).1) ((l'[i.toNat]!).2.1) ((l'[i.toNat]!).2.2) _ hr13) <| rz rfl <| hK6 _ _ ?_
   refine aE hM rfl (fun hc14 hM => ?_) (fun hc14 hM => ?_)
   ·refine AZ rfl ?_
    cases hM
    exact aR eV2
   refine Af <| fg _ (Sub.of suN) ?_
   exact ⟨hM, Ak rfl rfl⟩
  replace hM := ifn (Bool.eq_false_iff.1 (EF hg10)) hM
  refine rz rfl <| hK6 _ _ ?_
  refine AB true rfl (fun _ => ?_) (fun h_ => nomatch h_)
  refine AZ rfl ?_
  cases hM
  exact aR eV2
 clear hM; rintro t l ⟨hM, ⟨T, rfl⟩, rfl⟩
 unfold NY at hM
 refine A_sc [(some 23, false)] (conG prog [(23, cV (JU N (((l').take (i.toNat)).drop 0)) fun u0_ => vI u0_)]) <| rn 2 rfl <| kC hM fun ck3 hM => r_W (Fy l'v 0 (i.toNat) 3) rfl (GE (Hz rfl rfl rfl rfl (Rd.shp hl') ck3)) <| kB hM fun r4 hr5 hM => rg _ (cF XP) (fun o w z_ => Um N (((l').take (i.toNat)).drop 0) _ hr5 z_.view (Fy l'v 0 (i.toNat) 3) ((Py (AA hl') (Nat.zero_le _) (Iu ck3.2)) o w z_)) (Ao hr5) <| rz rfl ?_
 cases hM
 exact aR eV2
def Jy (m : AN) (inst : Int) (r4 : Int × Bool) : Option (Int × Int × Bool) := ck (0 ≤ inst ∧ inst < (m.2.2.1.length : Int)) (some (r4.1, ((m.2.2.1)[inst.toNat]!).2.2, true))
def EI (N : Nat) (m : AN) (inst : Int) : Option (Int × Int × Bool) := (Nq N m.2.2.1 inst).bind fun r4 => if r4.2 = true then ck (0 ≤ inst ∧ inst < (m.2.2.1.length : Int)) (if (((m.2.2.1)[inst.toNat]!).2.2 : Int) = 0 then some (0, 0, false) else Jy m inst r4 ) else some (0, 0, false)
theorem MX (N m inst r) (hM : EI N m inst = some r) (ro) (mv : AH) (hm : Bun35R ro mv m) : Does prog 353 #[vA (Ag m mv), vI inst] ro [] (pV (vT #[vI r.1, vI r.2.1, vB r.2.2])) := by
 unfold EI at hM
 refine Ac follows func353 rfl 34 rfl _ fz2 (fun base0_ => ?_)
 refine Ai <| rA rfl fun b2 => rz rfl <| A_sc [(some 13, false)] (conG prog [(13, cV (Nq N m.2.2.1 inst) fun u0_ => vT #[vI u0_.1, vB u0_.2])]) <| rm 3 [0] rfl <| kB hM fun r4 hr5 hM => rg _ (cF dh) (fun o w z_ => ah N m.2.2.1 inst _ hr5 z_.view mv.2.1 ((AA hm.2.1) o w z_)) (Ao hr5) <| rz rfl <| Cr (fun tt ll => (Jy m inst r4  = some r) ∧ Is [(1, vI inst), (2, vP b2 0), (7, vI r4.1)] [(b2, 35, (Ag m mv))] tt ll) ?_ ?_
 ·refine Aa fun K8 hK8 => Ar <| rn 3 rfl ?_
  rcases hg9 : (!(r4.2)) with _ | _
  ·replace hM := ifp (EG hg9) hM
   refine rn 1 rfl <| r_y rfl <| rm 2 [0] rfl <| r_y rfl <| kC hM fun ck10 hM => rI (Rd.shp hm.2.1) ck10 rfl <| r_y rfl <| rF (Rd.shp hm.2.1) (Eh ck10) rfl <| r_y rfl <| rE (AA hm.2.1) ck10 2 rfl <| rz rfl <| hK8 _ _ ?_
   refine aE hM rfl (fun hc11 hM => ?_) (fun hc11 hM => ?_)
   ·refine AZ rfl ?_
    cases hM
    exact aR eV3
   refine Af <| fg _ (Sub.of (suK _ suN)) ?_
   exact ⟨hM, Ak rfl rfl⟩
  replace hM := ifn (Bool.eq_false_iff.1 (EF hg9)) hM
  refine rz rfl <| hK8 _ _ ?_
  refine AB true rfl (fun _ => ?_) (fun h_ => nomatch h_)
  refine AZ rfl ?_
  cases hM
  exact aR eV3
 clear hM; rintro t l ⟨hM, ⟨T, rfl⟩, rfl⟩
 unfold Jy at hM
 refine Aa fun K6 hK6 => Lz [] (by decide +kernel) (fun hn => Ba) <| rm 4 [0] rfl <| kC hM fun ck7 hM => rI (Rd.shp hm.2.1) ck7 rfl <| rF (Rd.shp hm.2.1) (Eh ck7) rfl <| rE (AA hm.2.1) ck7 2 rfl <| rz rfl <| hK6 _ _ ?_
 cases hM
 exact aR eV3
def Ml (N : Nat) (c : AN) (_ : Int) (x_0 : Int) (x_1 : Int) : Option Int := if x_0 = 0 then (MG N c.2.2.1 x_1).bind fun r9 => if r9.2.2 = true then ck (0 ≤ r9.1 ∧ r9.1 < (c.2.2.1.length : Int)) ((Al N ((((c.2.2.1)[(r9.1).toNat]!).2.2 : Int) == 0) 5).bind fun r16 => some r16) else (Al N false 5).bind fun r13 => some r13 else if x_0 = 1 then (EI N c x_1).bind fun r21 => (Al N r21.2.2 5).bind fun r24 => some r24 else if x_0 = 2 then (AE N x_1 1 64).bind fun r29 => (Al N r29 7).bind fun r31 => some r31 else some 10
theorem YK (N c x x_0 x_1 r) (hM : Ml N c x x_0 x_1 = some r) (ro) (cv : AH) (hc : Bun35R ro cv c) : Does prog 299 #[vA (Ag c cv), vI x, vA #[vI x_0, vI x_1]] ro [] (pV (vI r)) := by
 unfold Ml at hM
 refine Ac follows func299 rfl 58 rfl _ fz3 (fun base0_ => ?_)
 refine Ai <| rA rfl fun b2 => rA rfl fun b3 => rz rfl <| Aa fun K4 hK4 => AY [0] rfl <| Aj <| AZ rfl <| aE hM rfl (fun hc7 hM => ?_) (fun hc7 hM => ?_)
 ·refine A_sc [(some 23, false)] (conG prog [(23, cV (MG N c.2.2.1 x_1) fun u0_ => vT #[vI u0_.1, vI u0_.2.1, vB u0_.2.2])]) <| rm 5 [1, 0] rfl <| kB hM fun r9 hr10 hM => rg _ (cF SJ) (fun o w z_ => Yv N c.2.2.1 x_1 _ hr10 z_.view cv.2.1 ((AA hc.2.1) o w z_)) (Ao hr10) <| rz rfl <| Aa fun K11 hK11 => Ar <| rn 2 rfl ?_
  rcases hg12 : r9.2.2 with _ | _
  ·replace hM := iB hg12 hM
   refine rn 9 rfl <| kB hM fun r13 hr14 hM => rc _ (cF AL) (Az N false 5 _ hr14) <| rz rfl <| hK11 _ _ ?_
   refine DJ [(6, vI r13)] rfl (fun T => ?_)
   cases hM
   exact aR eV1
  replace hM := ifp hg12 hM
  refine rn 2 rfl <| r_y rfl <| rm 2 [1] rfl <| r_y rfl <| kC hM fun ck15 hM => rI (Rd.shp hc.2.1) ck15 rfl <| r_y rfl <| rF (Rd.shp hc.2.1) (Eh ck15) rfl <| r_y rfl <| rE (AA hc.2.1) ck15 2 rfl <| rn 2 rfl <| kB hM fun r16 hr17 hM => rc _ (cF AL) (Az N ((((c.2.2.1)[(r9.1).toNat]!).2.2 : Int) == 0) 5 _ hr17) <| rz rfl <| hK11 _ _ ?_
  refine DJ [(6, vI r16)] rfl (fun T => ?_)
  cases hM
  exact aR eV1
 refine AZ rfl <| aE hM rfl (fun hc19 hM => ?_) (fun hc19 hM => ?_)
 ·refine A_sc [(some 46, false)] (conG prog [(46, cV (EI N c x_1) fun u0_ => vT #[vI u0_.1, vI u0_.2.1, vB u0_.2.2])]) <| rm 4 [1, 0] rfl <| kB hM fun r21 hr22 hM => rg _ (cF XG) (fun o w z_ => MX N c x_1 _ hr22 z_.view cv (Bun35R.mono z_.ro_cell hc)) (Ao hr22) <| rz rfl <| Ai <| rn 1 rfl <| kB hM fun r24 hr25 hM => rc _ (cF AL) (Az N r21.2.2 5 _ hr25) <| rz rfl ?_
  cases hM
  exact aR eV1
 refine AZ rfl <| aE hM rfl (fun hc27 hM => ?_) (fun hc27 hM => ?_)
 ·refine Ai <| rm 2 [0] rfl <| kB hM fun r29 hr30 hM => rc _ (cF Cd) (AJ N x_1 1 64 _ hr30) <| kB hM fun r31 hr32 hM => rc _ (cF AL) (Az N r29 7 _ hr32) <| rz rfl ?_
  cases hM
  exact aR eV1
 refine Af <| hK4 _ _ ?_
 refine AZ rfl ?_
 cases hM
 exact aR eV1
def If (N : Nat) (l' : List (Int × Int)) (ask0_ : AN) : Nat → Int → Option (Int × Int)
  | 0, _ => none
  | n8 + 1, x1_ => if x1_ < (l'.length : Int) then ck (0 ≤ x1_ ∧ x1_ < (l'.length : Int)) ((Ml N ask0_ x1_ ((l'[x1_.toNat]!).1) ((l'[x1_.toNat]!).2)).bind fun r17 => if (r17 : Int) ≠ 0 then some (x1_, r17) else ck (-9223372036854775808 ≤ (x1_ + 1) ∧ (x1_ + 1) ≤ 9223372036854775807) ((If N l' ask0_ n8) (x1_ + 1))) else some (0, 0)
def KZ (N : Nat) (l' : List (Int × Int)) (most : Int) (ask0_ : AN) : Option (Int × Int) := if (l'.length : Int) > most then some (0, 2) else If N l' ask0_ N 0
theorem WX (N l' most ask0_ r) (hM : KZ N l' most ask0_ = some r) (ro l'v) (hl' : Rd JQ ro l'v l') (ask0_v : AH) (hask0_ : Bun35R ro ask0_v ask0_) : Does prog 298 #[l'v, vI most, vF 299 #[vA (Ag ask0_ ask0_v)] #[]] ro [] (pV (vT #[vI r.1, vI r.2])) := by
 unfold KZ at hM
 refine Ac follows func298 rfl 31 rfl _ fz3 (fun base0_ => ?_)
 refine AZ rfl <| Aa fun K2 hK2 => Ai <| rn 1 rfl <| rL (Rd.shp hl') rfl <| rz rfl <| aD hM rfl (fun hc4 hM => ?_) (fun hc4 hM => ?_)
 ·refine AZ rfl ?_
  cases hM
  exact aR eV2
 refine Af <| hK2 _ _ ?_
 refine Aa fun K6 hK6 => Ai <| rn 1 rfl <| rL (Rd.shp hl') rfl <| rz rfl <| Aj <| AU (fun tt ll nn => ∃ (n8 : Nat) (x1_ : Int), (If N l' ask0_ n8 x1_ = some r) ∧ Is [(2, vF 299 #[vA (Ag ask0_ ask0_v)] #[]), (15, l'v), (16, vI (l'.length : Int)), (17, vI x1_)] [] tt ll ∧ nn = n8 + 1) (N + 1) ?_ ?_
 ·exact ⟨N, 0, hM, Ak rfl rfl, rfl⟩
 clear hM; rintro t l _ ⟨n8, x1_, hM, ⟨⟨T, rfl⟩, rfl⟩, rfl⟩
 rcases n8 with _ | n8
 ·exact absurd hM (by simp [If])
 rw [If] at hM
 refine AZ rfl <| Aa fun K10 hK10 => aD hM rfl (fun hc11 hM => ?_) (fun hc11 hM => ?_)
 ·refine Af <| hK10 _ _ ?_
  refine Aa fun K12 hK12 => Aj <| Ai <| rn 1 rfl <| kC hM fun ck14 hM => rI (Rd.shp hl') ck14 rfl <| rE (AA hl') ck14 0 rfl <| rA rfl fun b15 => ry [0] rfl <| A_sc [(some 25, false)] (conG prog [(25, cV (Ml N ask0_ x1_ ((l'[x1_.toNat]!).1) ((l'[x1_.toNat]!).2)) fun u0_ => vI u0_)]) <| rm 3 [0] rfl <| kB hM fun r17 hr18 hM => rg _ (Nd (bd := [vA (Ag ask0_ ask0_v)]) (caps := []) rfl eG rfl) (fun o w z_ => YK N ask0_ x1_ ((l'[x1_.toNat]!).1) ((l'[x1_.toNat]!).2) _ hr18 z_.view ask0_v (Bun35R.mono z_.ro_cell hask0_)) (Ao hr18) <| rz rfl <| AZ rfl <| aN hM rfl (fun hc20 hM => ?_) (fun hc20 hM => ?_)
  ·refine AZ rfl ?_
   cases hM
   exact aR eV2
  refine Af <| hK12 _ _ ?_
  refine Ar <| kC hM fun ck22 hM => rX ck22 rfl <| rz rfl <| fg _ (Sub.of (suC _ suN)) ?_
  exact ⟨n8 + 1, by omega, n8, (x1_ + 1), hM, Ak rfl rfl, rfl⟩
 refine AS <| hK6 _ _ ?_
 refine AZ rfl ?_
 cases hM
 exact aR eV2
def PH (_ : Nat) (s : List UInt8) : Option (List UInt8) := if (s.length : Int) = 0 then some ([]) else ck (0 ≤ (s.length : Int) ∧ (s.length : Int) ≤ 140737488355328) (ck (0 ≤ (0 : Int) ∧ (0 : Int) < ((((s).take ((List.replicate ((s.length : Int)).toNat (0 : UInt8))).length ++ ((List.replicate ((s.length : Int)).toNat (0 : UInt8))).drop (s).length)).length : Int)) (ck ((((s).take ((List.replicate ((s.length : Int)).toNat (0 : UInt8))).length ++ ((List.replicate ((s.length : Int)).toNat (0 : UInt8))).drop (s).length)).length ≤ 140737488355328) (some (((s).take ((List.replicate ((s.length : Int)).toNat (0 : UInt8))).length ++ ((List.replicate ((s.length : Int)).toNat (0 : UInt8))).drop (s).length)))))
theorem ax (N s r) (hM : PH N s = some r) : Gives prog 141 #[vS s] (vS r) := by
 unfold PH at hM
 refine Aq follows func141 rfl 18 rfl _ fz1 (fun base0_ => ?_)
 refine AZ rfl <| Aa fun K2 hK2 => Ai <| rn 1 rfl <| r_W (vI (s.length : Int)) rfl (Pb rfl rfl rfl) <| rz rfl <| aE hM rfl (fun hc4 hM => ?_) (fun hc4 hM => ?_)
 ·refine AZ rfl ?_
  cases hM
  exact aR eE1
 refine Af <| hK2 _ _ ?_
 refine A_sc [(some 9, false)] (conG prog [(9, fun _ _ v_ L_ U_ => (p1 (fun v => v) 5 encY (List.replicate ((s.length : Int)).toNat (0 : UInt8))) v_ L_ U_)]) <| rn 1 rfl <| r_W (vI (s.length : Int)) rfl (Pb rfl rfl rfl) <| kC hM fun ck7 hM => Rs (Ls := []) 5 encY (0 : UInt8) (s.length : Int) rfl rfl rfl rfl rfl rfl rfl rfl rfl rfl 140737488355328 rfl ck7 (fun _ _ _ _ _ => Iff.rfl) (fun s8 S9 H10 => ?_)
 refine rz rfl <| A_sc [(some 12, true)] (conG prog [(12, fun _ _ v_ L_ U_ => (pUp (fun v_ U_ => v_ = .int .i64 ((min (s).length ((List.replicate ((s.length : Int)).toNat (0 : UInt8))).length : Nat) : Int) ∧ Sl 5 encY s8 ((s).take ((List.replicate ((s.length : Int)).toNat (0 : UInt8))).length ++ ((List.replicate ((s.length : Int)).toNat (0 : UInt8))).drop (s).length) U_ ∧ U_.map (·.1) = S9.map (·.1))) v_ L_ U_)]) <| rn 2 rfl <| kI (Lo := True) (Ls := [S9]) 0 s rfl rfl rfl rfl rfl rfl H10 rfl rfl rfl (fun _ _ _ _ _ => Iff.rfl) (fun S12 H13 => ?_)
 refine As <| A_sc [(some 17, true)] (conG prog [(17, fun _ _ v_ L_ U_ => (pUp (fun v_ U_ => v_ = .string ⟨(((s).take ((List.replicate ((s.length : Int)).toNat (0 : UInt8))).length ++ ((List.replicate ((s.length : Int)).toNat (0 : UInt8))).drop (s).length)).toArray⟩ ∧ U_ = Lg S12)) v_ L_ U_)]) <| rn 1 rfl <| kC hM fun ck15 hM => rI (Sl.shp H13) ck15 rfl <| rn 1 rfl <| rL (Sl.shp H13) rfl <| kC hM fun ck16 hM => bB (Ls := [S12]) 0 (xs := ((s).take ((List.replicate ((s.length : Int)).toNat (0 : UInt8))).length ++ ((List.replicate ((s.length : Int)).toNat (0 : UInt8))).drop (s).length)) rfl rfl rfl rfl rfl rfl (Sl.strict H13 (Eh ck15)) (kr s8 (Sl.strict H13 (Eh ck15)) (Eh ck15)) rfl (by kernel_rfl) rfl ck16 (fun _ _ _ _ _ => Iff.rfl) <| AX (Ls := [Lg S12]) (Ls' := []) [] rfl rfl <| rz rfl ?_
 cases hM
 exact aR eE1
def Nr (N : Nat) (s : List UInt8) : Option (List UInt8) := (PH N s).bind fun r3 => some r3
theorem Un (N s r) (hM : Nr N s = some r) : Gives prog 42 #[vS s] (vS r) := by
 unfold Nr at hM
 refine Aq follows func42 rfl 5 rfl _ fz1 (fun base0_ => ?_)
 refine AZ rfl <| Ai <| rn 1 rfl <| kB hM fun r3 hr4 hM => rc _ (cF gp) (ax N s _ hr4) <| rz rfl ?_
 cases hM
 exact aR eE1
def Ck (_ : Nat) (s : List (List UInt8 × Int)) : Option (List (List UInt8 × Int)) := ck ((([] : List (List UInt8 × Int))).length + (s).length ≤ 5864062014805) (some (([] : List (List UInt8 × Int)) ++ s))
theorem HA (N s r) (hM : Ck N s = some r) (ro sv) (hs : Rd BQ ro sv s) : Does prog 144 #[sv] ro [] (p1 (fun s_ => s_) 66 BQ r) := by
 unfold Ck at hM
 refine Ac follows func144 rfl 8 rfl _ fz1 (fun base0_ => ?_)
 refine AZ rfl <| Aa fun K2 hK2 => Aa fun K3 hK3 => Ar <| rn 1 rfl ?_
 rcases Zq (Rd.shp hs) with ⟨hz4, hl5⟩ | hne6
 ·obtain rfl := hz4; obtain rfl := List.eq_nil_of_length_eq_zero hl5
  replace hM : (some ([])) = some r := (by first | exact hM | (simp at hM ⊢; exact hM))
  refine rz rfl <| hK3 _ _ ?_
  refine AB true rfl (fun _ => ?_) (fun h_ => nomatch h_)
  refine AZ rfl ?_
  cases hM
  refine Au (fun hn => AG (v0 := nS) Sl.nil (Sub.nil _) rfl (AV rfl))
 refine r_W (.bool false) rfl (UC rfl rfl rfl (Rd.shp hs) hne6) <| As <| hK3 _ _ ?_
 refine AB false rfl (fun h_ => nomatch h_) (fun _ => ?_)
 refine Af <| hK2 _ _ ?_
 refine A_sc [(some 5, false), (some 7, true)] (conG prog []) <| BF (cs0 := []) (Ls := []) 66 BQ ([] : List (List UInt8 × Int)) [] [] rfl rfl rfl rfl rfl rfl rfl (by kernel_rfl) (by kernel_rfl) rfl rfl rfl (fun s8 S9 H10 => ?_)
 refine rn 1 rfl <| kC hM fun ck11 hM => Dg (cs0 := []) (Ls := [S9]) 0 (En := BQ) rfl rfl rfl rfl rfl H10 rfl (AA hs) rfl rfl rfl rfl rfl (Dk ck11 rfl) (Dj ck11 rfl) rfl (fun s12 S13 H14 => ?_)
 refine rz rfl ?_
 cases hM
 refine Au (fun hn => AG (v0 := s12) H14 (Aw (Sub.pick [S13] [0] rfl)) rfl (AV rfl))
def GF (N : Nat) (h_2 : Int) (h_3 : Int) (h_4 : Int) (h_5 : Int) (r5 : List UInt8) (r8 : List (List UInt8 × Int)) : Nat → Int → List (List UInt8 × Int) → Option ((List UInt8) × (List (List UInt8 × Int)) × Int × Int × Int × Int)
  | 0, _, _ => none
  | n15 + 1, x1_, s2_ => if x1_ < (r8.length : Int) then ck (0 ≤ x1_ ∧ x1_ < (s2_.length : Int)) ((Nr N ((s2_[x1_.toNat]!).1)).bind fun r22 => ck (0 ≤ x1_ ∧ x1_ < (s2_.length : Int)) (ck (-9223372036854775808 ≤ (x1_ + 1) ∧ (x1_ + 1) ≤ 9223372036854775807) ((GF N h_2 h_3 h_4 h_5 r5 r8 n15) (x1_ + 1) ((s2_).set (x1_.toNat) (r22, (s2_[x1_.toNat]!).2))))) else some (r5, s2_, h_2, h_3, h_4, h_5)
def JD (N : Nat) (h_0 : List UInt8) (h_1 : List (List UInt8 × Int)) (h_2 : Int) (h_3 : Int) (h_4 : Int) (h_5 : Int) : Option ((List UInt8) × (List (List UInt8 × Int)) × Int × Int × Int × Int) := (Nr N h_0).bind fun r5 => (Ck N h_1).bind fun r8 => GF N h_2 h_3 h_4 h_5 r5 r8 N 0 r8
theorem UQ (N h_0 h_1 h_2 h_3 h_4 h_5 r) (hM : JD N h_0 h_1 h_2 h_3 h_4 h_5 = some r) (ro h_1v) (hh_1 : Rd BQ ro h_1v h_1) : Does prog 392 #[vA #[vS h_0, h_1v, vI h_2, vI h_3, vI h_4, vI h_5]] ro [] (p1 (fun s_ => vA #[vS r.1, s_, vI r.2.2.1, vI r.2.2.2.1, vI r.2.2.2.2.1, vI r.2.2.2.2.2]) 66 BQ r.2.1) := by
 unfold JD at hM
 refine Ac follows func392 rfl 32 rfl _ fz1 (fun base0_ => ?_)
 refine Ai <| rA rfl fun b2 => rA rfl fun b3 => As <| Ai <| rm 2 [1] rfl <| kB hM fun r5 hr6 hM => rc _ (cF ZQ) (Un N h_0 _ hr6) <| ry [1] rfl <| A_sc [(some 10, false)] (conG prog [(10, fun _ _ v_ L_ U_ => ∀ u0_, Ck N h_1 = some u0_ → (p1 (fun s_ => s_) 66 BQ u0_) v_ L_ U_)]) <| rm 2 [1] rfl <| kB hM fun r8 hr9 hM => AP (Ls := [(GX b3 (Value.string (⟨#[]⟩)) nS 0 0 0 0), (De b2 r5 h_1v h_2 h_3 h_4 h_5)]) (fun s10 => s10) 66 BQ r8 144 _ rfl rfl rfl (cF go) (fun o w z_ => HA N h_1 _ hr9 z_.view h_1v (z_.r hh_1)) (Ao hr9) (fun s10 S11 H12 => ?_)
 refine rn 1 rfl <| r_s (List.flatten [(GX b3 (Value.string (⟨#[]⟩)) nS 0 0 0 0), (De b2 r5 s10 h_2 h_3 h_4 h_5), S11]) 1 _ _ _ _ _ (#[vS r5, s10, vI h_2, vI h_3, vI h_4, vI h_5]) rfl rfl rfl (AI rfl (Sl.shp H12)) (.ofS rfl rfl (Ab (Shp.one (Sl.shp H12)) Bh)) rfl rfl <| As <| Aa fun K13 hK13 => Ai <| rm 2 [1] rfl <| rL (Sl.shp H12) rfl <| rz rfl <| Aj ?_
 refine Be _ (Sub.pick [(GX b3 (Value.string (⟨#[]⟩)) nS 0 0 0 0), (De b2 r5 s10 h_2 h_3 h_4 h_5), S11] [0, 1, 2] rfl) <| AU (fun tt ll nn => ∃ (n15 : Nat) (x1_ : Int) (s2_ : List (List UInt8 × Int)), (GF N h_2 h_3 h_4 h_5 r5 r8 n15 x1_ s2_ = some r) ∧ ∃ (Ss2_ : List Bl), Sl 66 BQ s10 s2_ Ss2_ ∧ Is [(1, vP b2 0), (2, vP b3 0), (14, vI (r8.length : Int)), (15, vI x1_)] (List.flatten [(GX b3 (Value.string (⟨#[]⟩)) nS 0 0 0 0), (De b2 r5 s10 h_2 h_3 h_4 h_5), Ss2_]) tt ll ∧ nn = n15 + 1) (N + 1) ?_ ?_
 ·exact ⟨N, 0, r8, hM, S11, H12, Ak rfl rfl, rfl⟩
 clear hM; rintro t l _ ⟨n15, x1_, s2_, hM, Ss2_, hs2_, ⟨⟨T, rfl⟩, rfl⟩, rfl⟩
 rcases n15 with _ | n15
 ·exact absurd hM (by simp [GF])
 rw [GF] at hM
 refine AZ rfl <| Aa fun K17 hK17 => aD hM rfl (fun hc18 hM => ?_) (fun hc18 hM => ?_)
 ·refine Af <| hK17 _ _ ?_
  refine Aa fun K19 hK19 => Aj <| AZ rfl <| Lz [] (by decide +kernel) (fun hn => Ba) <| rm 6 [1, 1] rfl <| kC hM fun ck21 hM => rI (Sl.shp hs2_) ck21 rfl <| rF (Sl.shp hs2_) (Eh ck21) rfl <| rE (Ap hs2_ (Ad (Ls := [(GX b3 (Value.string (⟨#[]⟩)) nS 0 0 0 0), (De b2 r5 s10 h_2 h_3 h_4 h_5), Ss2_]) (k := 2) rfl rfl)) ck21 0 rfl <| kB hM fun r22 hr23 hM => rc _ (cF ZQ) (Un N ((s2_[x1_.toNat]!).1) _ hr23) <| kC hM fun ck24 hM => rI (Sl.shp hs2_) ck24 rfl <| rF (Sl.shp hs2_) (Eh ck24) rfl <| Rr (Ls := [(GX b3 (Value.string (⟨#[]⟩)) nS 0 0 0 0), (De b2 r5 s10 h_2 h_3 h_4 h_5), Ss2_]) 2 (En := BQ) (s2_[x1_.toNat]!) (r22, (s2_[x1_.toNat]!).2) (x1_.toNat) 0 rfl rfl rfl hs2_ (CP ck24) rfl rfl rfl (HI rfl) rfl (fun S25 H26 => ?_)
  refine As <| hK19 _ _ ?_
  refine Ar <| kC hM fun ck27 hM => rX ck27 rfl <| rz rfl <| fg _ (Sub.pick [(GX b3 (Value.string (⟨#[]⟩)) nS 0 0 0 0), (De b2 r5 s10 h_2 h_3 h_4 h_5), S25] [0, 1, 2] rfl) ?_
  exact ⟨n15 + 1, by omega, n15, (x1_ + 1), (s2_).set (x1_.toNat) (r22, (s2_[x1_.toNat]!).2), hM, S25, H26, Ak rfl rfl, rfl⟩
 refine AS <| hK13 _ _ ?_
 refine Ai <| rm 1 [1] rfl <| r_s (List.flatten [(De b3 r5 s10 h_2 h_3 h_4 h_5), (De b2 r5 s10 h_2 h_3 h_4 h_5), Ss2_]) 0 _ _ _ _ _ (#[vS r5, s10, vI h_2, vI h_3, vI h_4, vI h_5]) rfl rfl rfl rfl (.ofS rfl rfl (Ab rfl (Ab (Shp.one (Sl.shp hs2_)) (Ab rfl (Ab rfl (Ab rfl (Ab rfl Bh))))))) rfl rfl <| As ?_
 cases hM
 refine Au (fun hn => AG (v0 := vA #[vS r5, s10, vI h_2, vI h_3, vI h_4, vI h_5]) hs2_ (Aw (Sub.pick [(De b3 r5 s10 h_2 h_3 h_4 h_5), (De b2 r5 s10 h_2 h_3 h_4 h_5), Ss2_] [2] rfl)) rfl (AV (Bc hn 0 rfl rfl rfl)))
def MH (N : Nat) (headers : List ((List UInt8) × (List (List UInt8 × Int)) × Int × Int × Int × Int)) (l' : List (List UInt8 × Int × Int)) (r4 : Int × Int × Bool) : Option ((List UInt8) × (List (List UInt8 × Int)) × Int × Int × Int × Int × Bool) := ck (0 ≤ r4.1 ∧ r4.1 < (l'.length : Int)) (ck (0 ≤ (l'[(r4.1).toNat]!).2.1 ∧ (l'[(r4.1).toNat]!).2.1 < (headers.length : Int)) ((JD N (headers[((l'[(r4.1).toNat]!).2.1).toNat]!.1) (headers[((l'[(r4.1).toNat]!).2.1).toNat]!.2.1) (headers[((l'[(r4.1).toNat]!).2.1).toNat]!.2.2.1) (headers[((l'[(r4.1).toNat]!).2.1).toNat]!.2.2.2.1) (headers[((l'[(r4.1).toNat]!).2.1).toNat]!.2.2.2.2.1) (headers[((l'[(r4.1).toNat]!).2.1).toNat]!.2.2.2.2.2)).bind fun r12 => some (r12.1, r12.2.1, r12.2.2.1, r12.2.2.2.1, r12.2.2.2.2.1, r12.2.2.2.2.2, true)))
def LV (N : Nat) (headers : List ((List UInt8) × (List (List UInt8 × Int)) × Int × Int × Int × Int)) (l' : List (List UInt8 × Int × Int)) (slot : Int) : Option ((List UInt8) × (List (List UInt8 × Int)) × Int × Int × Int × Int × Bool) := (MG N l' slot).bind fun r4 => if r4.2.2 = true then ck (0 ≤ r4.1 ∧ r4.1 < (l'.length : Int)) (ck ((-9223372036854775808 ≤ ((headers.length : Int) - 1) ∧ ((headers.length : Int) - 1) ≤ 9223372036854775807)) ((DQ N ((l'[(r4.1).toNat]!).2.1) 0 ((headers.length : Int) - 1)).bind fun r21 => if r21 = true then MH N headers l' r4  else some ([], [], 0, 0, 0, 0, false))) else some ([], [], 0, 0, 0, 0, false)
theorem Yx (N headers l' slot r) (hM : LV N headers l' slot = some r) (ro headersv) (hheaders : RdN Hl ro headersv headers) (l'v) (hl' : Rd IB ro l'v l') : Does prog 374 #[headersv, l'v, vI slot] ro [] (p1 (fun s_ => vT #[vA #[vS r.1, s_, vI r.2.2.1, vI r.2.2.2.1, vI r.2.2.2.2.1, vI r.2.2.2.2.2.1], vB r.2.2.2.2.2.2]) 66 BQ r.2.1) := by
 unfold LV at hM
 refine Ac follows func374 rfl 42 rfl _ fz3 (fun base0_ => ?_)
 refine Ai <| rA rfl fun b2 => rz rfl <| A_sc [(some 14, false)] (conG prog [(14, cV (MG N l' slot) fun u0_ => vT #[vI u0_.1, vI u0_.2.1, vB u0_.2.2])]) <| rn 2 rfl <| kB hM fun r4 hr5 hM => rg _ (cF SJ) (fun o w z_ => Yv N l' slot _ hr5 z_.view l'v ((AA hl') o w z_)) (Ao hr5) <| rz rfl <| Cr (fun tt ll => (MH N headers l' r4  = some r) ∧ Is [(0, headersv), (1, l'v), (6, vP b2 0), (8, vI r4.1)] (GX b2 (Value.string (⟨#[]⟩)) nS 0 0 0 0) tt ll) ?_ ?_
 ·refine Aa fun K17 hK17 => Ar <| rn 3 rfl ?_
  rcases hg18 : (!(r4.2.2)) with _ | _
  ·replace hM := ifp (EG hg18) hM
   refine rn 2 rfl <| r_y rfl <| kC hM fun ck19 hM => rI (Rd.shp hl') ck19 rfl <| r_y rfl <| rF (Rd.shp hl') (Eh ck19) rfl <| r_y rfl <| rE (AA hl') ck19 1 rfl <| rn 1 rfl <| r_y rfl <| rL (RdN.shp hheaders) rfl <| r_y rfl <| kC hM fun ck20 hM => rX ck20 rfl <| r_y rfl <| kB hM fun r21 hr22 hM => rc _ (cF GP) (Eu N ((l'[(r4.1).toNat]!).2.1) 0 ((headers.length : Int) - 1) _ hr22) <| rz rfl <| hK17 _ _ ?_
   refine AB _ rfl (fun hc23 => ?_) (fun hc23 => ?_)
   ·replace hM := ifn (Bool.eq_false_iff.1 (EF hc23)) hM
    refine Ai <| r_W (vA #[Value.string (⟨#[]⟩), nS, vI 0, vI 0, vI 0, vI 0]) rfl (An rfl rfl rfl rfl) <| r_s (GX b2 (Value.string (⟨#[]⟩)) nS 0 0 0 0) 0 _ _ _ _ _ (#[Value.string (⟨#[]⟩), nS, vI 0, vI 0, vI 0, vI 0]) rfl rfl rfl rfl (.ofS rfl rfl (Ab rfl (Ab (Shp.one (.inl ⟨rfl, rfl⟩)) (Ab rfl (Ab rfl (Ab rfl (Ab rfl Bh))))))) rfl rfl <| rz rfl <| DJ [(6, vP b2 0), (7, vB false)] rfl (fun T => ?_)
    cases hM
    refine Au (fun hn => AG (v0 := vT #[vA #[Value.string (⟨#[]⟩), nS, vI 0, vI 0, vI 0, vI 0], vB false]) Sl.nil (Sub.nil _) rfl (JF (Bc hn 0 rfl rfl rfl) rfl))
   replace hM := ifp (EG hc23) hM
   refine Af <| fg _ (Sub.of (suK _ suN)) ?_
   exact ⟨hM, Ak rfl rfl⟩
  replace hM := ifn (Bool.eq_false_iff.1 (EF hg18)) hM
  refine rz rfl <| hK17 _ _ ?_
  refine AB true rfl (fun _ => ?_) (fun h_ => nomatch h_)
  refine Ai <| r_W (vA #[Value.string (⟨#[]⟩), nS, vI 0, vI 0, vI 0, vI 0]) rfl (An rfl rfl rfl rfl) <| r_s (GX b2 (Value.string (⟨#[]⟩)) nS 0 0 0 0) 0 _ _ _ _ _ (#[Value.string (⟨#[]⟩), nS, vI 0, vI 0, vI 0, vI 0]) rfl rfl rfl rfl (.ofS rfl rfl (Ab rfl (Ab (Shp.one (.inl ⟨rfl, rfl⟩)) (Ab rfl (Ab rfl (Ab rfl (Ab rfl Bh))))))) rfl rfl <| rz rfl <| DJ [(6, vP b2 0), (7, vB false)] rfl (fun T => ?_)
  cases hM
  refine Au (fun hn => AG (v0 := vT #[vA #[Value.string (⟨#[]⟩), nS, vI 0, vI 0, vI 0, vI 0], vB false]) Sl.nil (Sub.nil _) rfl (JF (Bc hn 0 rfl rfl rfl) rfl))
 clear hM; rintro t l ⟨hM, ⟨T, rfl⟩, rfl⟩
 unfold MH at hM
 refine A_sc [(some 41, false)] (conG prog [(41, fun _ _ v_ L_ U_ => ∀ u0_, JD N (headers[((l'[(r4.1).toNat]!).2.1).toNat]!.1) (headers[((l'[(r4.1).toNat]!).2.1).toNat]!.2.1) (headers[((l'[(r4.1).toNat]!).2.1).toNat]!.2.2.1) (headers[((l'[(r4.1).toNat]!).2.1).toNat]!.2.2.2.1) (headers[((l'[(r4.1).toNat]!).2.1).toNat]!.2.2.2.2.1) (headers[((l'[(r4.1).toNat]!).2.1).toNat]!.2.2.2.2.2) = some u0_ → (p1 (fun s_ => vA #[vS u0_.1, s_, vI u0_.2.2.1, vI u0_.2.2.2.1, vI u0_.2.2.2.2.1, vI u0_.2.2.2.2.2]) 66 BQ u0_.2.1) v_ L_ U_)]) <| rn 3 rfl <| kC hM fun ck7 hM => rI (Rd.shp hl') ck7 rfl <| rF (Rd.shp hl') (Eh ck7) rfl <| rE (AA hl') ck7 1 rfl <| kC hM fun ck8 hM => ?_
 obtain ⟨_, ⟨s9, hs10, rfl⟩, hat11⟩ := RdN.at (E := Hl) hheaders (CP ck8)
 refine rI (RdN.shp hheaders) ck8 rfl ?_
 refine Mv (vA #[vS (headers[((l'[(r4.1).toNat]!).2.1).toNat]!.1), s9, vI (headers[((l'[(r4.1).toNat]!).2.1).toNat]!.2.2.1), vI (headers[((l'[(r4.1).toNat]!).2.1).toNat]!.2.2.2.1), vI (headers[((l'[(r4.1).toNat]!).2.1).toNat]!.2.2.2.2.1), vI (headers[((l'[(r4.1).toNat]!).2.1).toNat]!.2.2.2.2.2)]) (vs := [vS (headers[((l'[(r4.1).toNat]!).2.1).toNat]!.1), s9, vI (headers[((l'[(r4.1).toNat]!).2.1).toNat]!.2.2.1), vI (headers[((l'[(r4.1).toNat]!).2.1).toNat]!.2.2.2.1), vI (headers[((l'[(r4.1).toNat]!).2.1).toNat]!.2.2.2.2.1), vI (headers[((l'[(r4.1).toNat]!).2.1).toNat]!.2.2.2.2.2)]) (((l'[(r4.1).toNat]!).2.1).toNat * 6) 0 rfl rfl (fun o w z_ => At.mono z_.ro_cell hat11) rfl <| kB hM fun r12 hr13 hM => AP (Ls := [(GX b2 (Value.string (⟨#[]⟩)) nS 0 0 0 0)]) (fun s14 => vA #[vS r12.1, s14, vI r12.2.2.1, vI r12.2.2.2.1, vI r12.2.2.2.2.1, vI r12.2.2.2.2.2]) 66 BQ r12.2.1 392 _ rfl rfl rfl (cF cZ) (fun o w z_ => UQ N (headers[((l'[(r4.1).toNat]!).2.1).toNat]!.1) (headers[((l'[(r4.1).toNat]!).2.1).toNat]!.2.1) (headers[((l'[(r4.1).toNat]!).2.1).toNat]!.2.2.1) (headers[((l'[(r4.1).toNat]!).2.1).toNat]!.2.2.2.1) (headers[((l'[(r4.1).toNat]!).2.1).toNat]!.2.2.2.2.1) (headers[((l'[(r4.1).toNat]!).2.1).toNat]!.2.2.2.2.2) _ hr13 z_.view s9 (z_.r hs10)) (Ao hr13) (fun s14 S15 H16 => ?_)
 refine r_s (List.flatten [(De b2 r12.1 s14 r12.2.2.1 r12.2.2.2.1 r12.2.2.2.2.1 r12.2.2.2.2.2), S15]) 0 _ _ _ _ _ (#[vS r12.1, s14, vI r12.2.2.1, vI r12.2.2.2.1, vI r12.2.2.2.2.1, vI r12.2.2.2.2.2]) rfl rfl rfl rfl (.ofS rfl rfl (Ab rfl (Ab (Shp.one (Sl.shp H16)) (Ab rfl (Ab rfl (Ab rfl (Ab rfl Bh))))))) rfl rfl <| rz rfl ?_
 cases hM
 refine Au (fun hn => AG (v0 := vT #[vA #[vS r12.1, s14, vI r12.2.2.1, vI r12.2.2.2.1, vI r12.2.2.2.2.1, vI r12.2.2.2.2.2], vB true]) H16 (Aw (Sub.pick [(De b2 r12.1 s14 r12.2.2.1 r12.2.2.2.1 r12.2.2.2.2.1 r12.2.2.2.2.2), S15] [1] rfl)) rfl (JF (Bc hn 0 rfl rfl rfl) rfl))
def Hw (N : Nat) (m : AN) (slot : Int) : Option ((List UInt8) × (List (List UInt8 × Int)) × Int × Int × Int × Int × Bool) := (LV N m.2.1 m.2.2.1 slot).bind fun r5 => some (r5.1, r5.2.1, r5.2.2.1, r5.2.2.2.1, r5.2.2.2.2.1, r5.2.2.2.2.2.1, r5.2.2.2.2.2.2)
theorem Qi (N m slot r) (hM : Hw N m slot = some r) (ro) (mv : AH) (hm : Bun35R ro mv m) : Does prog 325 #[vA (Ag m mv), vI slot] ro [] (p1 (fun s_ => vT #[vA #[vS r.1, s_, vI r.2.2.1, vI r.2.2.2.1, vI r.2.2.2.2.1, vI r.2.2.2.2.2.1], vB r.2.2.2.2.2.2]) 66 BQ r.2.1) := by
 unfold Hw at hM
 refine Ac follows func325 rfl 14 rfl _ fz2 (fun base0_ => ?_)
 refine Ai <| rA rfl fun b2 => rA rfl fun b3 => rz rfl <| A_sc [(some 11, false)] (conG prog [(11, fun _ _ v_ L_ U_ => ∀ u0_, LV N m.2.1 m.2.2.1 slot = some u0_ → (p1 (fun s_ => vT #[vA #[vS u0_.1, s_, vI u0_.2.2.1, vI u0_.2.2.2.1, vI u0_.2.2.2.2.1, vI u0_.2.2.2.2.2.1], vB u0_.2.2.2.2.2.2]) 66 BQ u0_.2.1) v_ L_ U_)]) <| rm 5 [1, 1] rfl <| kB hM fun r5 hr6 hM => AP (Ls := [(GX b3 (Value.string (⟨#[]⟩)) nS 0 0 0 0), [(b2, 35, (Ag m mv))]]) (fun s7 => vT #[vA #[vS r5.1, s7, vI r5.2.2.1, vI r5.2.2.2.1, vI r5.2.2.2.2.1, vI r5.2.2.2.2.2.1], vB r5.2.2.2.2.2.2]) 66 BQ r5.2.1 374 _ rfl rfl rfl (cF dq) (fun o w z_ => Yx N m.2.1 m.2.2.1 slot _ hr6 z_.view mv.1 (RdN.mono z_.ro_cell hm.1) mv.2.1 ((AA hm.2.1) o w z_)) (Ao hr6) (fun s7 S8 H9 => ?_)
 refine rn 2 rfl <| r_s (List.flatten [(De b3 r5.1 s7 r5.2.2.1 r5.2.2.2.1 r5.2.2.2.2.1 r5.2.2.2.2.2.1), [(b2, 35, (Ag m mv))], S8]) 0 _ _ _ _ _ (#[vS r5.1, s7, vI r5.2.2.1, vI r5.2.2.2.1, vI r5.2.2.2.2.1, vI r5.2.2.2.2.2.1]) rfl rfl rfl rfl (.ofS rfl rfl (Ab rfl (Ab (Shp.one (Sl.shp H9)) (Ab rfl (Ab rfl (Ab rfl (Ab rfl Bh))))))) rfl rfl <| rz rfl ?_
 cases hM
 refine Au (fun hn => AG (v0 := vT #[vA #[vS r5.1, s7, vI r5.2.2.1, vI r5.2.2.2.1, vI r5.2.2.2.2.1, vI r5.2.2.2.2.2.1], vB r5.2.2.2.2.2.2]) H9 (Aw (Sub.pick [(De b3 r5.1 s7 r5.2.2.1 r5.2.2.2.1 r5.2.2.2.2.1 r5.2.2.2.2.2.1), [(b2, 35, (Ag m mv))], S8] [2] rfl)) rfl (JF (Bc hn 0 rfl rfl rfl) rfl))
def HU (N : Nat) (l' : List (List UInt8 × Int)) (i : Int) : Option Bool := ck ((-9223372036854775808 ≤ ((l'.length : Int) - 1) ∧ ((l'.length : Int) - 1) ≤ 9223372036854775807)) ((AE N i 0 ((l'.length : Int) - 1)).bind fun r4 => some r4)
theorem RZ (N l' i r) (hM : HU N l' i = some r) (ro l'v) (hl' : Rd BQ ro l'v l') : Does prog 375 #[l'v, vI i] ro [] (pV (vB r)) := by
 unfold HU at hM
 refine Ac follows func375 rfl 10 rfl _ fz2 (fun base0_ => ?_)
 refine AZ rfl <| Ai <| rn 2 rfl <| rL (Rd.shp hl') rfl <| kC hM fun ck3 hM => rX ck3 rfl <| kB hM fun r4 hr5 hM => rc _ (cF Cd) (AJ N i 0 ((l'.length : Int) - 1) _ hr5) <| rz rfl ?_
 cases hM
 exact aR eV1
def Lt (f : Int) (r4 : (List UInt8) × (List (List UInt8 × Int)) × Int × Int × Int × Int × Bool) : Option (Int × Bool) := ck (0 ≤ f ∧ f < (r4.2.1.length : Int)) (some (((r4.2.1)[f.toNat]!).2, true))
def Et (N : Nat) (m : AN) (slot : Int) (f : Int) : Option (Int × Bool) := (Hw N m slot).bind fun r4 => if r4.2.2.2.2.2.2 = true then (HU N r4.2.1 f).bind fun r14 => if r14 = true then Lt f r4  else some (0, false) else some (0, false)
theorem Me (N m slot f r) (hM : Et N m slot f = some r) (ro) (mv : AH) (hm : Bun35R ro mv m) : Does prog 327 #[vA (Ag m mv), vI slot, vI f] ro [] (pV (vT #[vI r.1, vB r.2])) := by
 unfold Et at hM
 refine Ac follows func327 rfl 31 rfl _ fz3 (fun base0_ => ?_)
 refine Ai <| rA rfl fun b2 => rz rfl <| A_sc [(some 13, false)] (conG prog [(13, fun _ _ v_ L_ U_ => ∀ u0_, Hw N m slot = some u0_ → (p1 (fun s_ => vT #[vA #[vS u0_.1, s_, vI u0_.2.2.1, vI u0_.2.2.2.1, vI u0_.2.2.2.2.1, vI u0_.2.2.2.2.2.1], vB u0_.2.2.2.2.2.2]) 66 BQ u0_.2.1) v_ L_ U_)]) <| rm 2 [0] rfl <| kB hM fun r4 hr5 hM => AP (Ls := [[(b2, 35, (Ag m mv))]]) (fun s6 => vT #[vA #[vS r4.1, s6, vI r4.2.2.1, vI r4.2.2.2.1, vI r4.2.2.2.2.1, vI r4.2.2.2.2.2.1], vB r4.2.2.2.2.2.2]) 66 BQ r4.2.1 325 _ rfl rfl rfl (cF XL) (fun o w z_ => Qi N m slot _ hr5 z_.view mv (Bun35R.mono z_.ro_cell hm)) (Ao hr5) (fun s6 S7 H8 => ?_)
 refine rn 3 rfl <| rA rfl fun b9 => r_s (List.flatten [(De b9 r4.1 s6 r4.2.2.1 r4.2.2.2.1 r4.2.2.2.2.1 r4.2.2.2.2.2.1), [(b2, 35, (Ag m mv))], S7]) 0 _ _ _ _ _ (#[vS r4.1, s6, vI r4.2.2.1, vI r4.2.2.2.1, vI r4.2.2.2.2.1, vI r4.2.2.2.2.2.1]) rfl rfl rfl rfl (.ofS rfl rfl (Ab rfl (Ab (Shp.one (Sl.shp H8)) (Ab rfl (Ab rfl (Ab rfl (Ab rfl Bh))))))) rfl rfl <| rz rfl <| Cr (fun tt ll => (Lt f r4  = some r) ∧ Is [(2, vI f), (8, vP b9 0)] (List.flatten [(De b9 r4.1 s6 r4.2.2.1 r4.2.2.2.1 r4.2.2.2.2.1 r4.2.2.2.2.2.1), S7]) tt ll) ?_ ?_
 ·refine Aa fun K12 hK12 => A_regC [(some 22, false)] (conG prog [(22, cV (HU N r4.2.1 f) fun u0_ => vB u0_)]) <| rn 3 rfl ?_
  rcases hg13 : (!(r4.2.2.2.2.2.2)) with _ | _
  ·replace hM := ifp (EG hg13) hM
   refine rn 1 rfl <| r_y rfl <| rm 2 [0] rfl <| r_y rfl <| kB hM fun r14 hr15 hM => rg _ (cF dp) (fun o w z_ => RZ N r4.2.1 f _ hr15 z_.view s6 ((Ap H8 (Ad (Ls := [(De b9 r4.1 s6 r4.2.2.1 r4.2.2.2.1 r4.2.2.2.2.1 r4.2.2.2.2.2.1), [(b2, 35, (Ag m mv))], S7]) (k := 2) rfl rfl)) o w z_)) (Ao hr15) <| rz rfl <| hK12 _ _ ?_
   refine AB _ rfl (fun hc16 => ?_) (fun hc16 => ?_)
   ·replace hM := ifn (Bool.eq_false_iff.1 (EF hc16)) hM
    refine AZ rfl ?_
    cases hM
    exact aR eV2
   replace hM := ifp (EG hc16) hM
   refine Af <| fg _ (Sub.pick [(De b9 r4.1 s6 r4.2.2.1 r4.2.2.2.1 r4.2.2.2.2.1 r4.2.2.2.2.2.1), [(b2, 35, (Ag m mv))], S7] [0, 2] rfl) ?_
   exact ⟨hM, Ak rfl rfl⟩
  replace hM := ifn (Bool.eq_false_iff.1 (EF hg13)) hM
  refine rz rfl <| hK12 _ _ ?_
  refine AB true rfl (fun _ => ?_) (fun h_ => nomatch h_)
  refine AZ rfl ?_
  cases hM
  exact aR eV2
 clear hM; rintro t l ⟨hM, ⟨T, rfl⟩, rfl⟩
 unfold Lt at hM
 refine Ai <| rm 3 [0] rfl <| kC hM fun ck11 hM => rI (Sl.shp H8) ck11 rfl <| rF (Sl.shp H8) (Eh ck11) rfl <| rE (Ap H8 (Ad (Ls := [(De b9 r4.1 s6 r4.2.2.1 r4.2.2.2.1 r4.2.2.2.2.1 r4.2.2.2.2.2.1), S7]) (k := 1) rfl rfl)) ck11 1 rfl <| rz rfl ?_
 cases hM
 exact aR eV2
end Go.Proofs.YthafnifhhblkbaaGreatDoor
