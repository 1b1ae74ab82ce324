import Derived.Test.YthafnifhhblkbaaGreatDoorBb
namespace Go.Proofs.YthafnifhhblkbaaGreatDoor
open Go Go.RowKit Go.Eng _root_.Go.Proofs.Tryz
set_option maxRecDepth 100000
set_option maxHeartbeats 8000000
abbrev Nx (b : Nat) (x0 : Value) : List Bl := [(b, 82, #[x0])]
abbrev PE (b : Nat) (x0 : Int) : List Bl := [(b, 3, #[vI x0])]
abbrev OR (b : Nat) (x0 : BitVec 64) (x1 : BitVec 64) : List Bl := [(b, 279, #[U x0, U x1])]
abbrev OS (b : Nat) (x0 : Int) (x1 : BitVec 64) (x2 : BitVec 64) (x3 : Int) (x4 : BitVec 64) (x5 : BitVec 64) (x6 : Int) : List Bl := [(b, 201, #[vI x0, U x1, U x2, vI x3, U x4, U x5, vI x6])]
abbrev WK (b : Nat) (x0 : Int) (x1 : Int) (x2 : Int) : List Bl := [(b, 204, #[vI x0, vI x1, vI x2])]
abbrev WL (b : Nat) (x0 : Int) : List Bl := [(b, 202, #[vI x0])]
abbrev GW (b : Nat) (x0 : List UInt8) (x1 : Value) (x2 : Value) (x3 : Value) (x4 : Int) : List Bl := [(b, 85, #[vS x0, x1, x2, x3, vI x4])]
abbrev RP (b : Nat) (x0 : Value) : List Bl := [(b, 329, #[x0])]
abbrev ZA (b : Nat) (x0 : Value) : List Bl := [(b, 62, #[x0])]
abbrev Vs (b : Nat) (x0 : List UInt8) (x1 : Value) (x2 : Value) : List Bl := [(b, 87, #[vS x0, x1, x2])]
abbrev Uy (b : Nat) (x0 : Int) (x1 : Int) : List Bl := [(b, 360, #[vI x0, vI x1])]
abbrev ca (b : Nat) (x0 : Int) (x1 : Int) (x2 : Int) (x3 : Int) (x4 : BitVec 64) (x5 : BitVec 64) : List Bl := [(b, 56, #[vI x0, vI x1, vI x2, vI x3, U x4, U x5])]
def Hx (N : Nat) (m : AN) (i : Int) : Option (Int × Bool) := (AE N i 0 7).bind fun r5 => if r5 = true then ck (0 ≤ i ∧ i < 8) (some ((CC[i.toNat]!), true)) else ck ((-9223372036854775808 ≤ (8 + (m.2.2.2.1.length : Int)) ∧ (8 + (m.2.2.2.1.length : Int)) ≤ 9223372036854775807)) (ck ((-9223372036854775808 ≤ ((8 + (m.2.2.2.1.length : Int)) - 1) ∧ ((8 + (m.2.2.2.1.length : Int)) - 1) ≤ 9223372036854775807)) ((AE N i 8 ((8 + (m.2.2.2.1.length : Int)) - 1)).bind fun r14 => if r14 = true then ck (-9223372036854775808 ≤ (i - 8) ∧ (i - 8) ≤ 9223372036854775807) (ck (0 ≤ (i - 8) ∧ (i - 8) < (m.2.2.2.1.length : Int)) (some (((m.2.2.2.1)[((i - 8)).toNat]!).2, true))) else some (0, false)))
theorem Qj (N m i r) (hM : Hx N m i = some r) (ro) (mv : AH) (hm : Bun35R ro mv m) : DoesI prog 386 #[vA (Ag m mv), vI i] Ej ro [] (pV (vT #[vI r.1, vB r.2])) := by
 unfold Hx at hM
 refine AQ follows func386 rfl 27 rfl _ fz2 AW (fun base0_ => ?_)
 refine Ai <| rA rfl fun b2 => rz rfl <| Aa fun K3 hK3 => Aj <| Ai <| rn 1 rfl <| kB hM fun r5 hr6 hM => rc _ (cF Cd) (AJ N i 0 7 _ hr6) <| rz rfl <| aB hM rfl (fun hc7 hM => ?_) (fun hc7 hM => ?_)
 ·refine A_sc [(some 11, false)] (conG prog [(11, fun _ _ v_ L_ U_ => (pV (vI (CC[i.toNat]!))) v_ L_ U_)]) <| rn 1 rfl <| kC hM fun ck9 hM => ?_
  have hx10 := fun c => GE (ZJ (P := prog) (c := c) (t := 466) (b := 0) (off := 0) (k := .i64) rfl rfl rfl ck9)
  simp only [Nat.zero_add] at hx10
  have ck9n : i.toNat < 8 := by omega
  refine r_W (Value.pointer (some ⟨0, i.toNat, none⟩)) rfl (hx10 _) <| lE (vI (CC[i.toNat]!)) rfl rfl rfl rfl rfl (fun _ h_ => NK h_ _ ck9n) (fun _ _ _ _ _ => Iff.rfl) <| rz rfl ?_
  cases hM
  exact aR eV2
 refine Ai <| rm 3 [0] rfl <| rL (Rd.shp hm.2.2.1) rfl <| kC hM fun ck12 hM => rX ck12 rfl <| kC hM fun ck13 hM => rX ck13 rfl <| kB hM fun r14 hr15 hM => rc _ (cF Cd) (AJ N i 8 ((8 + (m.2.2.2.1.length : Int)) - 1) _ hr15) <| rz rfl <| aB hM rfl (fun hc16 hM => ?_) (fun hc16 hM => ?_)
 ·refine Ai <| rm 3 [0] rfl <| kC hM fun ck18 hM => rX ck18 rfl <| kC hM fun ck19 hM => rI (Rd.shp hm.2.2.1) ck19 rfl <| rF (Rd.shp hm.2.2.1) (Eh ck19) rfl <| rE (AA hm.2.2.1) ck19 1 rfl <| rz rfl ?_
  cases hM
  exact aR eV2
 refine Af <| hK3 _ _ ?_
 refine AZ rfl ?_
 cases hM
 exact aR eV2
def DZ (N : Nat) (m : AN) (k_0 : Int) (k_1 : Int) (k_2 : Int) : Option (Int × Bool) := if k_0 = 0 then (Et N m k_1 k_2).bind fun r9 => some (r9.1, r9.2) else if k_0 = 1 then (Hx N m k_1).bind fun r14 => some (r14.1, r14.2) else if k_0 = 2 then some (k_2, true) else some (0, false)
theorem LM (N m k_0 k_1 k_2 r) (hM : DZ N m k_0 k_1 k_2 = some r) (ro) (mv : AH) (hm : Bun35R ro mv m) : DoesI prog 385 #[vA (Ag m mv), vA #[vI k_0, vI k_1, vI k_2]] Ej ro [] (pV (vT #[vI r.1, vB r.2])) := by
 unfold DZ at hM
 refine AQ follows func385 rfl 30 rfl _ fz2 AW (fun base0_ => ?_)
 refine Ai <| rA rfl fun b2 => rA rfl fun b3 => rz rfl <| Aa fun K4 hK4 => AY [0] rfl <| Aj <| AZ rfl <| aE hM rfl (fun hc7 hM => ?_) (fun hc7 hM => ?_)
 ·refine A_sc [(some 15, false)] (conG prog [(15, cV (Et N m k_1 k_2) fun u0_ => vT #[vI u0_.1, vB u0_.2])]) <| rm 5 [1, 0, 0] rfl <| kB hM fun r9 hr10 hM => rg _ (cF SI) (fun o w z_ => (Does.inv (Me N m k_1 k_2 _ hr10 z_.view mv (Bun35R.mono z_.ro_cell hm)) _)) (Ao hr10) <| rz rfl ?_
  cases hM
  exact aR eV2
 refine AZ rfl <| aE hM rfl (fun hc12 hM => ?_) (fun hc12 hM => ?_)
 ·refine A_sc [(some 23, false)] (conG prog [(23, cV (Hx N m k_1) fun u0_ => vT #[vI u0_.1, vB u0_.2])]) <| rm 3 [1, 0] rfl <| kB hM fun r14 hr15 hM => rg _ (cF XC) (fun o w z_ => Qj N m k_1 _ hr15 z_.view mv (Bun35R.mono z_.ro_cell hm)) (Ao hr15) <| rz rfl ?_
  cases hM
  exact aR eV2
 refine AZ rfl <| aE hM rfl (fun hc17 hM => ?_) (fun hc17 hM => ?_)
 ·refine AY [0] rfl ?_
  cases hM
  exact aR eV2
 refine Af <| hK4 _ _ ?_
 refine AZ rfl ?_
 cases hM
 exact aR eV2
def Jp (N : Nat) (m : AN) (l' : List (Int × Int × Int)) : Nat → Int → Int → Option (Int × Bool)
  | 0, _, _ => none
  | n6 + 1, total1_, x2_ => if x2_ < (l'.length : Int) then ck (0 ≤ x2_ ∧ x2_ < (l'.length : Int)) ((DZ N m ((l'[x2_.toNat]!).1) ((l'[x2_.toNat]!).2.1) ((l'[x2_.toNat]!).2.2)).bind fun r15 => if r15.2 = true then ck (-9223372036854775808 ≤ (128 - total1_) ∧ (128 - total1_) ≤ 9223372036854775807) ((AE N r15.1 1 (128 - total1_)).bind fun r21 => if r21 = true then ck (-9223372036854775808 ≤ (total1_ + r15.1) ∧ (total1_ + r15.1) ≤ 9223372036854775807) (ck (-9223372036854775808 ≤ (x2_ + 1) ∧ (x2_ + 1) ≤ 9223372036854775807) ((Jp N m l' n6) (total1_ + r15.1) (x2_ + 1))) else some (0, false)) else some (0, false)) else some (total1_, true)
def IA (N : Nat) (m : AN) (l' : List (Int × Int × Int)) : Option (Int × Bool) := Jp N m l' N 0 0
theorem RU (N m l' r) (hM : IA N m l' = some r) (ro) (mv : AH) (hm : Bun35R ro mv m) (l'v) (hl' : Rd DO ro l'v l') : DoesI prog 354 #[vA (Ag m mv), l'v] Ej ro [] (pV (vT #[vI r.1, vB r.2])) := by
 unfold IA at hM
 refine AQ follows func354 rfl 37 rfl _ fz2 AW (fun base0_ => ?_)
 refine Ai <| rA rfl fun b2 => rz rfl <| AZ rfl <| Aa fun K4 hK4 => Ai <| rn 1 rfl <| rL (Rd.shp hl') rfl <| rz rfl <| Aj <| AU (fun tt ll nn => ∃ (n6 : Nat) (total1_ : Int) (x2_ : Int), (Jp N m l' n6 total1_ x2_ = some r) ∧ Is [(2, vP b2 0), (6, vI total1_), (11, l'v), (12, vI (l'.length : Int)), (13, vI x2_)] [(b2, 35, (Ag m mv))] tt ll ∧ nn = n6 + 1) (N + 1) ?_ ?_
 ·exact ⟨N, 0, 0, hM, Ak rfl rfl, rfl⟩
 clear hM; rintro t l _ ⟨n6, total1_, x2_, hM, ⟨⟨T, rfl⟩, rfl⟩, rfl⟩
 rcases n6 with _ | n6
 ·exact absurd hM (by simp [Jp])
 rw [Jp] at hM
 refine AZ rfl <| Aa fun K8 hK8 => aD hM rfl (fun hc9 hM => ?_) (fun hc9 hM => ?_)
 ·refine Af <| hK8 _ _ ?_
  refine Aa fun K10 hK10 => Aj <| Ai <| kC hM fun ck12 hM => rI (Rd.shp hl') ck12 rfl <| rE (AA hl') ck12 0 rfl <| rA rfl fun b13 => ry [0] rfl <| A_sc [(some 20, false)] (conG prog [(20, cV (DZ N m ((l'[x2_.toNat]!).1) ((l'[x2_.toNat]!).2.1) ((l'[x2_.toNat]!).2.2)) fun u0_ => vT #[vI u0_.1, vB u0_.2])]) <| rm 1 [1] rfl ?_
  refine rm 1 [0] rfl <| kB hM fun r15 hr16 hM => rg _ (cF XD) (fun o w z_ => LM N m ((l'[x2_.toNat]!).1) ((l'[x2_.toNat]!).2.1) ((l'[x2_.toNat]!).2.2) _ hr16 z_.view mv (Bun35R.mono z_.ro_cell hm)) (Ao hr16) <| rz rfl <| Aa fun K17 hK17 => Aa fun K18 hK18 => Ar <| rn 3 rfl ?_
  rcases hg19 : (!(r15.2)) with _ | _
  ·replace hM := ifp (EG hg19) hM
   refine rn 2 rfl <| r_y rfl <| kC hM fun ck20 hM => rX ck20 rfl <| r_y rfl <| kB hM fun r21 hr22 hM => rc _ (cF Cd) (AJ N r15.1 1 (128 - total1_) _ hr22) <| rz rfl <| hK18 _ _ ?_
   refine AB _ rfl (fun hc23 => ?_) (fun hc23 => ?_)
   ·replace hM := ifn (Bool.eq_false_iff.1 (EF hc23)) hM
    refine AZ rfl <| DJ [(4, vI 0), (5, vB false)] rfl (fun T => ?_)
    cases hM
    exact aR eV2
   replace hM := ifp (EG hc23) hM
   refine Af <| hK17 _ _ ?_
   refine Ar <| rn 2 rfl <| kC hM fun ck25 hM => rX ck25 rfl <| rz rfl <| hK10 _ _ ?_
   refine Ar <| kC hM fun ck26 hM => rX ck26 rfl <| rz rfl <| fg _ (Sub.of (suC _ (suK _ suN))) ?_
   exact ⟨n6 + 1, by omega, n6, (total1_ + r15.1), (x2_ + 1), hM, Ak (by first | rfl | (simp only [hg19]; done) | (simp only [hg19]; rfl) | (simp only [CZ]; rfl)) rfl, rfl⟩
  replace hM := ifn (Bool.eq_false_iff.1 (EF hg19)) hM
  refine rz rfl <| hK18 _ _ ?_
  refine AB true rfl (fun _ => ?_) (fun h_ => nomatch h_)
  refine AZ rfl <| DJ [(4, vI 0), (5, vB false)] rfl (fun T => ?_)
  cases hM
  exact aR eV2
 refine AS <| hK4 _ _ ?_
 refine AZ rfl ?_
 cases hM
 exact aR eV2
def Ff (N : Nat) (c : AN) (key : List (Int × Int × Int)) : Option Int := (IA N c key).bind fun r5 => some r5.1
theorem Ub (N c key r) (hM : Ff N c key = some r) (ro) (cv : AH) (hc : Bun35R ro cv c) (keyv) (hkey : Rd DO ro keyv key) : DoesI prog 301 #[vA (Ag c cv), keyv] Ej ro [] (pO [] (oB 82 #[keyv] fun b_0 => (oB 3 #[vI r] fun b_1 => (oB 238 (Ag c cv) fun b_2 => (oE (vF 355 #[] #[vP b_0 0, vP b_1 0, vP b_2 0]) []))))) := by
 unfold Ff at hM
 refine BU follows func301 rfl 15 rfl _ fz2 AW (fun base0_ => ?_)
 refine Ai <| rA rfl fun b2 => r_a (82, #[keyv]) rfl rfl (KB rfl (Rd.shp hkey)) (fun b3 => ?_) (.inr rfl)
 refine rz rfl <| A_sc [(some 11, false)] (conG prog [(11, cV (IA N c key) fun u0_ => vT #[vI u0_.1, vB u0_.2])]) <| rm 3 [1, 0] rfl <| kB hM fun r5 hr6 hM => rg _ (cF XF) (fun o w z_ => RU N c key _ hr6 z_.view cv (Bun35R.mono z_.ro_cell hc) keyv (z_.r hkey)) (Ao hr6) <| rn 3 rfl <| rA rfl fun b7 => ry [0] rfl <| Ai <| r_W (vF 355 #[] #[vP b3 0, vP b7 0, vP b2 0]) rfl (EM rfl) <| rz rfl ?_
 cases hM
 refine Au (fun hn => Ge (v0 := vF 355 #[] #[vP b3 0, vP b7 0, vP b2 0]) (O := [(Nx b3 keyv), (PE b7 r5.1), [(b2, 238, (Ag c cv))]]) (AV rfl) (Sub.pick [(PE b7 r5.1), (Nx b3 keyv), [(b2, 238, (Ag c cv))]] [1, 0, 2] rfl) ⟨b3, _, ⟨b7, _, ⟨b2, _, ⟨rfl, rfl⟩, rfl⟩, rfl⟩, rfl⟩)
def ES (_ : Nat) (_ : Int) (v_1 : BitVec 128) : Option (BitVec 128) := some v_1
theorem LU (N v_0 v_1 r) (hM : ES N v_0 v_1 = some r) : Gives prog 272 #[vA #[vI v_0, U (hi v_1), U (lo v_1)]] (vA #[U (hi r), U (lo r)]) := by
 unfold ES at hM
 refine Aq follows func272 rfl 8 rfl _ fz1 (fun base0_ => ?_)
 refine Ai <| rA rfl fun b2 => rA rfl fun b3 => As <| Ai <| r_V (vP b2 1) rfl <| rl (U (hi v_1)) 1 <| r_V (vP b2 2) rfl <| rl (U (lo v_1)) 1 <| r_W (vA #[U (hi v_1), U (lo v_1)]) rfl (An rfl rfl rfl rfl) <| ry [0] rfl ?_
 cases hM
 refine Au (fun hn => Co (v0 := vA #[U (hi v_1), U (lo v_1)]) rfl (AV (Bc hn 0 rfl rfl rfl)))
def NT (_ : Nat) (a : BitVec 128) : Option (BitVec 128) := some ((~~~(hi a)) ++ (~~~(lo a)))
theorem Yq (N a r) (hM : NT N a = some r) : Gives prog 357 #[vA #[U (hi a), U (lo a)]] (vA #[U (hi r), U (lo r)]) := by
 unfold NT at hM
 refine Aq follows func357 rfl 10 rfl _ fz1 (fun base0_ => ?_)
 refine Ai <| rA rfl fun b2 => rA rfl fun b3 => As <| Ai <| rm 2 [1] rfl <| r_X (U (~~~(hi a))) rfl (kg (hi a)) rfl <| rm 2 [1] rfl <| r_X (U (~~~(lo a))) rfl (kg (lo a)) rfl <| r_W (vA #[U (~~~(hi a)), U (~~~(lo a))]) rfl (An rfl rfl rfl rfl) <| ry [0] rfl ?_
 cases hM
 refine Au (fun hn => Co (v0 := vA #[U (~~~(hi a)), U (~~~(lo a))]) (by first | rfl | (simp only [CZ]; done) | simp only [CZ]) (AV (Bc hn 0 rfl rfl rfl)))
def NU (_ : Nat) (a : BitVec 128) (b : BitVec 128) : Option (BitVec 128) := some ((hi a &&& hi b) ++ (lo a &&& lo b))
theorem Yr (N a b r) (hM : NU N a b = some r) : Gives prog 356 #[vA #[U (hi a), U (lo a)], vA #[U (hi b), U (lo b)]] (vA #[U (hi r), U (lo r)]) := by
 unfold NU at hM
 refine Aq follows func356 rfl 16 rfl _ fz2 (fun base0_ => ?_)
 refine Ai <| rA rfl fun b2 => rA rfl fun b3 => rA rfl fun b4 => As <| Ai <| rm 4 [2, 1] rfl <| r_X (U (hi a &&& hi b)) rfl (kh (hi a) (hi b)) rfl <| rm 4 [2, 1] rfl <| r_X (U (lo a &&& lo b)) rfl (kh (lo a) (lo b)) rfl <| r_W (vA #[U (hi a &&& hi b), U (lo a &&& lo b)]) rfl (An rfl rfl rfl rfl) ?_
 refine ry [0] rfl ?_
 cases hM
 refine Au (fun hn => Co (v0 := vA #[U (hi a &&& hi b), U (lo a &&& lo b)]) (by first | rfl | (simp only [CZ]; done) | simp only [CZ]) (AV (Bc hn 0 rfl rfl rfl)))
def Fz (_ : Nat) (w : Int) : Option Bool := if w ≥ 1 then some (decide (w ≤ 128)) else some false
theorem Rh (N w r) (hM : Fz N w = some r) : Gives prog 340 #[vI w] (vB r) := by
 unfold Fz at hM
 refine Aq follows func340 rfl 9 rfl _ fz1 (fun base0_ => ?_)
 refine AZ rfl <| Aa fun K2 hK2 => Ar <| rn 3 rfl ?_
 rcases hg3 : (decide (w ≥ 1)) with _ | _
 ·replace hM := iF hg3 hM
  refine rz rfl <| hK2 _ _ ?_
  cases hM
  exact aR eE1
 replace hM := iD hg3 hM
 refine rz rfl <| hK2 _ _ ?_
 cases hM
 exact aR eE1
def It (N : Nat) (v_0 : Int) (v_1 : BitVec 128) : Option Bool := (Fz N v_0).bind fun r4 => if r4 = true then (ES N v_0 v_1).bind fun r7 => some (decide ((((len128 r7 : Nat) : Int) : Int) ≤ v_0)) else some false
theorem Pq (N v_0 v_1 r) (hM : It N v_0 v_1 = some r) : Gives prog 271 #[vA #[vI v_0, U (hi v_1), U (lo v_1)]] (vB r) := by
 unfold It at hM
 refine Aq follows func271 rfl 14 rfl _ fz1 (fun base0_ => ?_)
 refine Ai <| rA rfl fun b2 => rz rfl <| Aa fun K3 hK3 => Lz [] (by decide +kernel) (fun hn => Ba) <| rm 2 [0] rfl <| kB hM fun r4 hr5 hM => rc _ (cF dR) (Rh N v_0 _ hr5) <| rn 1 rfl ?_
 rcases hg6 : r4 with _ | _
 ·replace hM := iB hg6 hM
  refine rz rfl <| hK3 _ _ ?_
  cases hM
  exact aR eE1
 replace hM := ifp hg6 hM
 refine r_y rfl <| rm 1 [0] rfl <| r_y rfl <| kB hM fun r7 hr8 hM => rc _ (cF Pi) (LU N v_0 v_1 _ hr8) <| r_y rfl <| rc _ (cF dQ) (lQ r7) <| rn 1 rfl <| r_y rfl <| ry [0] rfl <| hK3 _ _ ?_
 cases hM
 exact aR eE1
def DX (N : Nat) (v_0 : Int) (v_1 : BitVec 128) (w : Int) : Option Bool := if v_0 = w then (It N v_0 v_1).bind fun r5 => some r5 else some false
theorem Lr (N v_0 v_1 w r) (hM : DX N v_0 v_1 w = some r) : Gives prog 358 #[vA #[vI v_0, U (hi v_1), U (lo v_1)], vI w] (vB r) := by
 unfold DX at hM
 refine Aq follows func358 rfl 13 rfl _ fz2 (fun base0_ => ?_)
 refine Ai <| rA rfl fun b2 => rz rfl <| Aa fun K3 hK3 => Ar <| rm 5 [0] rfl ?_
 rcases hg4 : (v_0 == w) with _ | _
 ·replace hM := iG hg4 hM
  refine rz rfl <| hK3 _ _ ?_
  cases hM
  exact aR eE1
 replace hM := iE hg4 hM
 refine r_y rfl <| rm 1 [0] rfl <| r_y rfl <| kB hM fun r5 hr6 hM => rc _ (cF SL) (Pq N v_0 v_1 _ hr6) <| rz rfl <| hK3 _ _ ?_
 cases hM
 exact aR eE1
def HS (N : Nat) (l' : List ((List UInt8) × (List (Int × Int)) × (List (Int × Int × Int)) × (List (Int × BitVec 128 × Int × BitVec 128 × Int)) × Int)) (i : Int) : Option Bool := ck ((-9223372036854775808 ≤ ((l'.length : Int) - 1) ∧ ((l'.length : Int) - 1) ≤ 9223372036854775807)) ((AE N i 0 ((l'.length : Int) - 1)).bind fun r4 => some r4)
theorem RX (N l' i r) (hM : HS N l' i = some r) (ro l'v) (hl' : RdN Im ro l'v l') : Does prog 363 #[l'v, vI i] ro [] (pV (vB r)) := by
 unfold HS at hM
 refine Ac follows func363 rfl 10 rfl _ fz2 (fun base0_ => ?_)
 refine AZ rfl <| Ai <| rn 2 rfl <| rL (RdN.shp hl') rfl <| kC hM fun ck3 hM => rX ck3 rfl <| kB hM fun r4 hr5 hM => rc _ (cF Cd) (AJ N i 0 ((l'.length : Int) - 1) _ hr5) <| rz rfl ?_
 cases hM
 exact aR eV1
def DY (N : Nat) (c : AN) (n : Int) : Option Int := (HS N c.2.2.2.2.1 n).bind fun r4 => if r4 = true then (Al N true 5).bind fun r12 => some r12 else if n = -1 then (Al N true 5).bind fun r10 => some r10 else (Al N (n == -2) 5).bind fun r8 => some r8
theorem MZ (N c n r) (hM : DY N c n = some r) (ro) (cv : AH) (hc : Bun35R ro cv c) : Does prog 303 #[vA (Ag c cv), vI n] ro [] (pV (vI r)) := by
 unfold DY at hM
 refine Ac follows func303 rfl 19 rfl _ fz2 (fun base0_ => ?_)
 refine Ai <| rA rfl fun b2 => rz rfl <| Aa fun K3 hK3 => A_regC [(some 9, false)] (conG prog [(9, cV (HS N c.2.2.2.2.1 n) fun u0_ => vB u0_)]) <| rm 4 [0] rfl <| kB hM fun r4 hr5 hM => rg _ (cF dD) (fun o w z_ => RX N c.2.2.2.2.1 n _ hr5 z_.view cv.2.2.2.1 (RdN.mono z_.ro_cell hc.2.2.2.1)) (Ao hr5) <| rn 1 rfl ?_
 rcases hg6 : r4 with _ | _
 ·replace hM := iB hg6 hM
  refine rn 4 rfl ?_
  rcases hg7 : (n == -1) with _ | _
  ·replace hM := iG hg7 hM
   refine rn 3 rfl <| kB hM fun r8 hr9 hM => rc _ (cF AL) (Az N (n == -2) 5 _ hr9) <| rz rfl <| hK3 _ _ ?_
   cases hM
   exact aR eV1
  replace hM := iE hg7 hM
  refine rn 3 rfl <| kB hM fun r10 hr11 hM => rc _ (cF AL) (Az N true 5 _ hr11) <| rz rfl <| hK3 _ _ ?_
  cases hM
  exact aR eV1
 replace hM := ifp hg6 hM
 refine rn 7 rfl <| kB hM fun r12 hr13 hM => rc _ (cF AL) (Az N true 5 _ hr13) <| rz rfl <| hK3 _ _ ?_
 cases hM
 exact aR eV1
def Hj (N : Nat) (_ : Int) (x_0 : Int) (x_1 : BitVec 128) (x_2 : Int) (x_3 : BitVec 128) (x_4 : Int) (c2_ : List (Int × Int × Int)) (c3_ : Int) (c4_ : AN) : Option Int := (ES N x_0 x_1).bind fun r4 => (ES N x_2 x_3).bind fun r6 => (NT N r6).bind fun r8 => (NU N r4 r8).bind fun r10 => (Al N (decide ((c2_.length : Int) > 0)) 4).bind fun r14 => (DX N x_0 x_1 c3_).bind fun r16 => if r16 = true then (DX N x_2 x_3 c3_).bind fun r30 => (Al N r30 9).bind fun r32 => (Al N (r10 == ((0#64) ++ (0#64))) 14).bind fun r34 => (DY N c4_ x_4).bind fun r36 => (AC N ([r14, r32, r34, r36])).bind fun r41 => some r41 else (Al N false 9).bind fun r19 => (Al N (r10 == ((0#64) ++ (0#64))) 14).bind fun r21 => (DY N c4_ x_4).bind fun r23 => (AC N ([r14, r19, r21, r23])).bind fun r28 => some r28
theorem QR (N x x_0 x_1 x_2 x_3 x_4 c2_ c3_ c4_ r) (hM : Hj N x x_0 x_1 x_2 x_3 x_4 c2_ c3_ c4_ = some r) (ro) (bc2_ : Nat) (c2_v) (hc2_ : Rd DO ro c2_v c2_) (hbc2_ : Blk ro bc2_ [c2_v]) (bc3_ : Nat) (hbc3_ : Blk ro bc3_ [vI c3_]) (bc4_ : Nat) (c4_v : AH) (hc4_ : Bun35R ro c4_v c4_) (hbc4_ : Blk ro bc4_ (DA c4_ c4_v)) : Does prog 355 #[vI x, vA #[vI x_0, U (hi x_1), U (lo x_1), vI x_2, U (hi x_3), U (lo x_3), vI x_4], vP bc2_ 0, vP bc3_ 0, vP bc4_ 0] ro [] (pV (vI r)) := by
 unfold Hj at hM
 refine Ac follows func355 rfl 42 rfl _ fz5 (fun base0_ => ?_)
 refine Ai <| rA rfl fun b2 => rz rfl <| Aa fun K3 hK3 => Lz [] (by decide +kernel) (fun hn => Ba) <| rm 2 [0] rfl <| kB hM fun r4 hr5 hM => rc _ (cF Pi) (LU N x_0 x_1 _ hr5) <| rm 2 [0] rfl <| kB hM fun r6 hr7 hM => rc _ (cF Pi) (LU N x_2 x_3 _ hr7) <| kB hM fun r8 hr9 hM => rc _ (cF dI) (Yq N r6 _ hr9) <| kB hM fun r10 hr11 hM => rc _ (cF dJ) (Yr N r4 r8 _ hr11) <| rA rfl fun b12 => kG [(b12, 279, #[U (hi r10), U (lo r10)]), (b2, 201, #[vI x_0, U (hi x_1), U (lo x_1), vI x_2, U (hi x_3), U (lo x_3), vI x_4])] 0 _ _ _ (#[U (0#64), U (0#64)]) (#[U (hi r10), U (lo r10)]) (#[U (hi r10), U (lo r10)]) rfl rfl rfl rfl rfl (.of rfl rfl) rfl rfl <| As <| hK3 _ _ ?_
 refine Aa fun K13 hK13 => ?_
 refine BA [(some 39, false), (some 40, false), (some 41, false)] (conG prog [(39, cV (DY N c4_ x_4) fun u0_ => vI u0_), (41, fun _ _ v_ L_ U_ => (∀ u0_, Al N (decide ((c2_.length : Int) > 0)) 4 = some u0_ → ∀ u1_, DX N x_0 x_1 c3_ = some u1_ → (if u1_ = true then (1 : Nat) else 0) = 0 → ∀ u3_, Al N false 9 = some u3_ → ∀ u4_, Al N (r10 == ((0#64) ++ (0#64))) 14 = some u4_ → ∀ u5_, DY N c4_ x_4 = some u5_ → ∀ u6_, AC N ([u0_, u3_, u4_, u5_]) = some u6_ → (pV (vI u6_)) v_ L_ U_) ∧ (∀ u0_, Al N (decide ((c2_.length : Int) > 0)) 4 = some u0_ → ∀ u1_, DX N x_0 x_1 c3_ = some u1_ → (if u1_ = true then (1 : Nat) else 0) = 1 → ∀ u3_, DX N x_2 x_3 c3_ = some u3_ → ∀ u4_, Al N u3_ 9 = some u4_ → ∀ u5_, Al N (r10 == ((0#64) ++ (0#64))) 14 = some u5_ → ∀ u6_, DY N c4_ x_4 = some u6_ → ∀ u7_, AC N ([u0_, u4_, u5_, u6_]) = some u7_ → (pV (vI u7_)) v_ L_ U_))]) [] (by decide +kernel) (fun hn => Ba) ?_
 refine Ec c2_v (vs := [c2_v]) (o := 0) rfl rfl (AM hbc2_) rfl <| rL (Rd.shp hc2_) rfl <| rn 1 rfl <| kB hM fun r14 hr15 hM => rc _ (cF AL) (Az N (decide ((c2_.length : Int) > 0)) 4 _ hr15) <| rm 2 [1] rfl <| Ec (vI c3_) (vs := [vI c3_]) (o := 0) rfl rfl (AM hbc3_) rfl <| kB hM fun r16 hr17 hM => rc _ (cF SG) (Lr N x_0 x_1 c3_ _ hr17) <| rn 1 rfl ?_
 rcases hg18 : r16 with _ | _
 ·replace hM := iB hg18 hM
  have hq18 : (if r16 = true then (1 : Nat) else 0) = 0 := (if_neg (Bool.eq_false_iff.1 hg18))
  refine rn 5 rfl <| kB hM fun r19 hr20 hM => rc _ (cF AL) (Az N false 9 _ hr20) <| rl (vA #[U (hi r10), U (lo r10)]) 0 <| r_W (vA #[U (0#64), U (0#64)]) rfl (An rfl rfl rfl rfl) <| r_W (vB (r10 == ((0#64) ++ (0#64)))) rfl (Sy rfl rfl cu (by have h_ := fun c => Sz (c := c) r10 ((0#64) ++ (0#64)); simp only [CZ] at h_; exact h_ _)) <| kB hM fun r21 hr22 hM => rc _ (cF AL) (Az N (r10 == ((0#64) ++ (0#64))) 14 _ hr22) <| Ec (vA (Ag c4_ c4_v)) (vs := (DA c4_ c4_v)) (o := 0) rfl rfl (AM hbc4_) rfl <| rm 2 [1] rfl <| kB hM fun r23 hr24 hM => rg _ (cF SK) (fun o w z_ => MZ N c4_ x_4 _ hr24 z_.view c4_v (Bun35R.mono z_.ro_cell hc4_)) (Ao hr24) ?_
  refine BF (Ls := [(OR b12 (hi r10) (lo r10)), (OS b2 x_0 (hi x_1) (lo x_1) x_2 (hi x_3) (lo x_3) x_4)]) 39 Bf [r14, r19, r21, r23] [vI r14, vI r19, vI r21, vI r23] [vI 0, vI 0, vI 0, vI 0] rfl rfl rfl rfl rfl rfl rfl (by kernel_rfl) (by kernel_rfl) rfl rfl rfl (fun s25 S26 H27 => ?_)
  refine kB hM fun r28 hr29 hM => rg _ (cF BV) (fun o w z_ => BD N ([r14, r19, r21, r23]) _ hr29 z_.view s25 ((Ap H27 (Ad (Ls := [(OR b12 (hi r10) (lo r10)), (OS b2 x_0 (hi x_1) (lo x_1) x_2 (hi x_3) (lo x_3) x_4), S26]) (k := 2) rfl rfl)) o w z_)) (fun _ _ v_ L_ U_ => ⟨fun h_ => h_.1 _ hr15 _ hr17 hq18 _ hr20 _ hr22 _ hr24 _ hr29, fun h_ => ⟨by intro _ e_; cases Option.some.inj (e_.symm.trans hr15); intro _ e_; cases Option.some.inj (e_.symm.trans hr17); intro e_; first | (cases (e_.symm.trans hq18); done) | (cases (e_.symm.trans hq18); intro _ e_; cases Option.some.inj (e_.symm.trans hr20); intro _ e_; cases Option.some.inj (e_.symm.trans hr22); intro _ e_; cases Option.some.inj (e_.symm.trans hr24); intro _ e_; cases Option.some.inj (e_.symm.trans hr29); exact h_), by intro _ e_; cases Option.some.inj (e_.symm.trans hr15); intro _ e_; cases Option.some.inj (e_.symm.trans hr17); intro e_; first | (cases (e_.symm.trans hq18); done) | (cases (e_.symm.trans hq18); intro _ e_; cases Option.some.inj (e_.symm.trans hr31); intro _ e_; cases Option.some.inj (e_.symm.trans hr33); intro _ e_; cases Option.some.inj (e_.symm.trans hr35); intro _ e_; cases Option.some.inj (e_.symm.trans hr37); intro _ e_; cases Option.some.inj (e_.symm.trans hr42); exact h_)⟩⟩) ?_
  refine rz rfl <| hK13 _ _ ?_
  refine DJ [(7, vI r28)] rfl (fun T => ?_)
  cases hM
  exact aR eV1
 replace hM := ifp hg18 hM
 have hq18 : (if r16 = true then (1 : Nat) else 0) = 1 := (if_pos hg18)
 refine rn 1 rfl <| r_y rfl <| rm 1 [1] rfl <| r_y rfl <| Ec (vI c3_) (vs := [vI c3_]) (o := 0) rfl rfl (AM hbc3_) rfl <| r_y rfl <| kB hM fun r30 hr31 hM => rc _ (cF SG) (Lr N x_2 x_3 c3_ _ hr31) <| rn 1 rfl <| kB hM fun r32 hr33 hM => rc _ (cF AL) (Az N r30 9 _ hr33) <| rl (vA #[U (hi r10), U (lo r10)]) 0 <| r_W (vA #[U (0#64), U (0#64)]) rfl (An rfl rfl rfl rfl) <| r_W (vB (r10 == ((0#64) ++ (0#64)))) rfl (Sy rfl rfl cu (by have h_ := fun c => Sz (c := c) r10 ((0#64) ++ (0#64)); simp only [CZ] at h_; exact h_ _)) <| kB hM fun r34 hr35 hM => rc _ (cF AL) (Az N (r10 == ((0#64) ++ (0#64))) 14 _ hr35) <| Ec (vA (Ag c4_ c4_v)) (vs := (DA c4_ c4_v)) (o := 0) rfl rfl (AM hbc4_) rfl <| rm 2 [1] rfl <| kB hM fun r36 hr37 hM => rg _ (cF SK) (fun o w z_ => MZ N c4_ x_4 _ hr37 z_.view c4_v (Bun35R.mono z_.ro_cell hc4_)) (Ao hr37) ?_
 refine BF (Ls := [(OR b12 (hi r10) (lo r10)), (OS b2 x_0 (hi x_1) (lo x_1) x_2 (hi x_3) (lo x_3) x_4)]) 39 Bf [r14, r32, r34, r36] [vI r14, vI r32, vI r34, vI r36] [vI 0, vI 0, vI 0, vI 0] rfl rfl rfl rfl rfl rfl rfl (by kernel_rfl) (by kernel_rfl) rfl rfl rfl (fun s38 S39 H40 => ?_)
 refine kB hM fun r41 hr42 hM => rg _ (cF BV) (fun o w z_ => BD N ([r14, r32, r34, r36]) _ hr42 z_.view s38 ((Ap H40 (Ad (Ls := [(OR b12 (hi r10) (lo r10)), (OS b2 x_0 (hi x_1) (lo x_1) x_2 (hi x_3) (lo x_3) x_4), S39]) (k := 2) rfl rfl)) o w z_)) (fun _ _ v_ L_ U_ => ⟨fun h_ => h_.2 _ hr15 _ hr17 hq18 _ hr31 _ hr33 _ hr35 _ hr37 _ hr42, fun h_ => ⟨by intro _ e_; cases Option.some.inj (e_.symm.trans hr15); intro _ e_; cases Option.some.inj (e_.symm.trans hr17); intro e_; first | (cases (e_.symm.trans hq18); done) | (cases (e_.symm.trans hq18); intro _ e_; cases Option.some.inj (e_.symm.trans hr20); intro _ e_; cases Option.some.inj (e_.symm.trans hr22); intro _ e_; cases Option.some.inj (e_.symm.trans hr24); intro _ e_; cases Option.some.inj (e_.symm.trans hr29); exact h_), by intro _ e_; cases Option.some.inj (e_.symm.trans hr15); intro _ e_; cases Option.some.inj (e_.symm.trans hr17); intro e_; first | (cases (e_.symm.trans hq18); done) | (cases (e_.symm.trans hq18); intro _ e_; cases Option.some.inj (e_.symm.trans hr31); intro _ e_; cases Option.some.inj (e_.symm.trans hr33); intro _ e_; cases Option.some.inj (e_.symm.trans hr35); intro _ e_; cases Option.some.inj (e_.symm.trans hr37); intro _ e_; cases Option.some.inj (e_.symm.trans hr42); exact h_)⟩⟩) ?_
 refine rz rfl <| hK13 _ _ ?_
 refine DJ [(7, vI r41)] rfl (fun T => ?_)
 cases hM
 exact aR eV1
def GI (N : Nat) (l' : List (Int × BitVec 128 × Int × BitVec 128 × Int)) (ask0_ : List (Int × Int × Int)) (ask1_ : Int) (ask2_ : AN) : Nat → Int → Option (Int × Int)
  | 0, _ => none
  | n8 + 1, x1_ => if x1_ < (l'.length : Int) then ck (0 ≤ x1_ ∧ x1_ < (l'.length : Int)) ((Hj N x1_ ((l'[x1_.toNat]!).1) ((l'[x1_.toNat]!).2.1) ((l'[x1_.toNat]!).2.2.1) ((l'[x1_.toNat]!).2.2.2.1) ((l'[x1_.toNat]!).2.2.2.2) ask0_ ask1_ ask2_).bind fun r17 => if (r17 : Int) ≠ 0 then some (x1_, r17) else ck (-9223372036854775808 ≤ (x1_ + 1) ∧ (x1_ + 1) ≤ 9223372036854775807) ((GI N l' ask0_ ask1_ ask2_ n8) (x1_ + 1))) else some (0, 0)
def JM (N : Nat) (l' : List (Int × BitVec 128 × Int × BitVec 128 × Int)) (most : Int) (ask0_ : List (Int × Int × Int)) (ask1_ : Int) (ask2_ : AN) : Option (Int × Int) := if (l'.length : Int) > most then some (0, 2) else GI N l' ask0_ ask1_ ask2_ N 0
theorem Vy (N l' most ask0_ ask1_ ask2_ r) (hM : JM N l' most ask0_ ask1_ ask2_ = some r) (ro l'v) (hl' : Rd JP ro l'v l') (bask0_ : Nat) (ask0_v) (hask0_ : Rd DO ro ask0_v ask0_) (hbask0_ : Blk ro bask0_ [ask0_v]) (bask1_ : Nat) (hbask1_ : Blk ro bask1_ [vI ask1_]) (bask2_ : Nat) (ask2_v : AH) (hask2_ : Bun35R ro ask2_v ask2_) (hbask2_ : Blk ro bask2_ (DA ask2_ ask2_v)) : Does prog 300 #[l'v, vI most, vF 355 #[] #[vP bask0_ 0, vP bask1_ 0, vP bask2_ 0]] ro [] (pV (vT #[vI r.1, vI r.2])) := by
 unfold JM at hM
 refine Ac follows func300 rfl 31 rfl _ fz3 (fun base0_ => ?_)
 refine AZ rfl <| Aa fun K2 hK2 => Ai <| rn 1 rfl <| rL (Rd.shp hl') rfl <| rz rfl <| aD hM rfl (fun hc4 hM => ?_) (fun hc4 hM => ?_)
 ·refine AZ rfl ?_
  cases hM
  exact aR eV2
 refine Af <| hK2 _ _ ?_
 refine Aa fun K6 hK6 => Ai <| rn 1 rfl <| rL (Rd.shp hl') rfl <| rz rfl <| Aj <| AU (fun tt ll nn => ∃ (n8 : Nat) (x1_ : Int), (GI N l' ask0_ ask1_ ask2_ n8 x1_ = some r) ∧ Is [(2, vF 355 #[] #[vP bask0_ 0, vP bask1_ 0, vP bask2_ 0]), (15, l'v), (16, vI (l'.length : Int)), (17, vI x1_)] [] tt ll ∧ nn = n8 + 1) (N + 1) ?_ ?_
 ·exact ⟨N, 0, hM, Ak rfl rfl, rfl⟩
 clear hM; rintro t l _ ⟨n8, x1_, hM, ⟨⟨T, rfl⟩, rfl⟩, rfl⟩
 rcases n8 with _ | n8
 ·exact absurd hM (by simp [GI])
 rw [GI] at hM
 refine AZ rfl <| Aa fun K10 hK10 => aD hM rfl (fun hc11 hM => ?_) (fun hc11 hM => ?_)
 ·refine Af <| hK10 _ _ ?_
  refine Aa fun K12 hK12 => Aj <| Ai <| rn 1 rfl <| kC hM fun ck14 hM => rI (Rd.shp hl') ck14 rfl <| rE (AA hl') ck14 0 rfl <| rA rfl fun b15 => ry [0] rfl ?_
  refine A_sc [(some 25, false)] (conG prog [(25, cV (Hj N x1_ ((l'[x1_.toNat]!).1) ((l'[x1_.toNat]!).2.1) ((l'[x1_.toNat]!).2.2.1) ((l'[x1_.toNat]!).2.2.2.1) ((l'[x1_.toNat]!).2.2.2.2) ask0_ ask1_ ask2_) fun u0_ => vI u0_)]) <| rn 2 rfl ?_
  refine rm 1 [0] rfl <| kB hM fun r17 hr18 hM => rg _ (AO (caps := [vP bask0_ 0, vP bask1_ 0, vP bask2_ 0]) rfl dK rfl) (fun o w z_ => QR N x1_ ((l'[x1_.toNat]!).1) ((l'[x1_.toNat]!).2.1) ((l'[x1_.toNat]!).2.2.1) ((l'[x1_.toNat]!).2.2.2.1) ((l'[x1_.toNat]!).2.2.2.2) ask0_ ask1_ ask2_ _ hr18 z_.view bask0_ ask0_v (z_.r hask0_) (AM hbask0_ o w z_) bask1_ (AM hbask1_ o w z_) bask2_ ask2_v (Bun35R.mono z_.ro_cell hask2_) (AM hbask2_ o w z_)) (Ao hr18) <| rz rfl <| AZ rfl <| aN hM rfl (fun hc20 hM => ?_) (fun hc20 hM => ?_)
  ·refine AZ rfl ?_
   cases hM
   exact aR eV2
  refine Af <| hK12 _ _ ?_
  refine Ar <| kC hM fun ck22 hM => rX ck22 rfl <| rz rfl <| fg _ (Sub.of (suC _ suN)) ?_
  exact ⟨n8 + 1, by omega, n8, (x1_ + 1), hM, Ak rfl rfl, rfl⟩
 refine AS <| hK6 _ _ ?_
 refine AZ rfl ?_
 cases hM
 exact aR eV2
def DN (_ : Nat) (n : Int) (least : Int) (most : Int) : Option Bool := if n ≥ least then some (decide (n ≤ most)) else some false
theorem LL (N n least most r) (hM : DN N n least most = some r) : Gives prog 361 #[vI n, vI least, vI most] (vB r) := by
 unfold DN at hM
 refine Aq follows func361 rfl 15 rfl _ fz3 (fun base0_ => ?_)
 refine AZ rfl <| Aa fun K2 hK2 => Ar <| rn 4 rfl ?_
 rcases hg3 : (decide (n ≥ least)) with _ | _
 ·replace hM := iF hg3 hM
  refine rz rfl <| hK2 _ _ ?_
  cases hM
  exact aR eE1
 replace hM := iD hg3 hM
 refine rz rfl <| hK2 _ _ ?_
 cases hM
 exact aR eE1
def El (N : Nat) (r5 : Int × Bool) (inRange1_ : Bool) : Option Int := (Al N r5.2 5).bind fun r9 => (Al N inRange1_ 7).bind fun r11 => (AC N ([r9, r11])).bind fun r16 => some r16
def Gb (N : Nat) (c : AN) (k_0 : Int) (k_1 : Int) (k_2 : Int) : Option Int := (DZ N c k_0 k_1 k_2).bind fun r5 => if k_0 = 1 then El N r5 (k_2 == 0) else if k_0 = 2 then (AE N k_1 0 1024).bind fun r23 => if r23 = true then (AE N k_2 1 64).bind fun r26 => El N r5 r26 else El N r5 false else El N r5 true
theorem Sm (N c k_0 k_1 k_2 r) (hM : Gb N c k_0 k_1 k_2 = some r) (ro) (cv : AH) (hc : Bun35R ro cv c) : DoesI prog 362 #[vA (Ag c cv), vA #[vI k_0, vI k_1, vI k_2]] Ej ro [] (pV (vI r)) := by
 unfold Gb at hM
 refine AQ follows func362 rfl 38 rfl _ fz2 AW (fun base0_ => ?_)
 refine Ai <| rA rfl fun b2 => rA rfl fun b3 => rz rfl <| A_sc [(some 12, false)] (conG prog [(12, cV (DZ N c k_0 k_1 k_2) fun u0_ => vT #[vI u0_.1, vB u0_.2])]) <| rm 3 [1, 0] rfl <| kB hM fun r5 hr6 hM => rg _ (cF XD) (fun o w z_ => LM N c k_0 k_1 k_2 _ hr6 z_.view cv (Bun35R.mono z_.ro_cell hc)) (Ao hr6) <| rz rfl <| AZ rfl <| Cr (fun tt ll => ∃ (inRange1_ : Bool), (El N r5 inRange1_ = some r) ∧ Is [(6, vB r5.2), (7, vB inRange1_)] [] tt ll) ?_ ?_
 ·refine AY [0] rfl <| Aj <| AZ rfl <| aE hM rfl (fun hc20 hM => ?_) (fun hc20 hM => ?_)
  ·refine Ar <| ry [0] rfl <| fg _ (Sub.of (suC _ (suC _ suN))) ?_
   exact ⟨(k_2 == 0), hM, Ak rfl rfl⟩
  refine AZ rfl <| aE hM rfl (fun hc22 hM => ?_) (fun hc22 hM => ?_)
  ·refine Ar <| rm 2 [0] rfl <| kB hM fun r23 hr24 hM => rc _ (cF Cd) (AJ N k_1 0 1024 _ hr24) <| rn 1 rfl ?_
   rcases hg25 : r23 with _ | _
   ·replace hM := iB hg25 hM
    refine rz rfl <| fg _ (Sub.of (suC _ (suC _ suN))) ?_
    exact ⟨false, hM, Ak (by first | rfl | (simp only [hg25]; done) | (simp only [hg25]; rfl) | (simp only [CZ]; rfl)) rfl⟩
   replace hM := ifp hg25 hM
   refine rn 1 rfl <| r_y rfl <| rm 1 [0] rfl <| r_y rfl <| kB hM fun r26 hr27 hM => rc _ (cF Cd) (AJ N k_2 1 64 _ hr27) <| rz rfl <| fg _ (Sub.of (suC _ (suC _ suN))) ?_
   exact ⟨r26, hM, Ak (by first | rfl | (simp only [hg25]; done) | (simp only [hg25]; rfl) | (simp only [CZ]; rfl)) rfl⟩
  refine Af <| fg _ (Sub.of (suC _ (suC _ suN))) ?_
  exact ⟨true, hM, Ak rfl rfl⟩
 clear hM; rintro t l ⟨inRange1_, hM, ⟨T, rfl⟩, rfl⟩
 unfold El at hM
 refine A_sc [(some 36, false), (some 37, false)] (conG prog [(37, fun _ _ v_ L_ U_ => ∀ u0_, Al N r5.2 5 = some u0_ → ∀ u1_, Al N inRange1_ 7 = some u1_ → ∀ u2_, AC N ([u0_, u1_]) = some u2_ → (pV (vI u2_)) v_ L_ U_)]) <| rn 1 rfl <| kB hM fun r9 hr10 hM => rc _ (cF AL) (Az N r5.2 5 _ hr10) <| rn 1 rfl <| kB hM fun r11 hr12 hM => rc _ (cF AL) (Az N inRange1_ 7 _ hr12) <| BF (Ls := []) 39 Bf [r9, r11] [vI r9, vI r11] [vI 0, vI 0] rfl rfl rfl rfl rfl rfl rfl (by kernel_rfl) (by kernel_rfl) rfl rfl rfl (fun s13 S14 H15 => ?_)
 refine kB hM fun r16 hr17 hM => rg _ (cF BV) (fun o w z_ => (Does.inv (BD N ([r9, r11]) _ hr17 z_.view s13 ((Ap H15 (Ad (Ls := [S14]) (k := 0) rfl rfl)) o w z_)) _)) (fun _ _ v_ L_ U_ => ⟨fun h_ => h_ _ hr10 _ hr12 _ hr17, fun h_ => by intro _ e_; cases Option.some.inj (e_.symm.trans hr10); intro _ e_; cases Option.some.inj (e_.symm.trans hr12); intro _ e_; cases Option.some.inj (e_.symm.trans hr17); exact h_⟩) ?_
 refine rz rfl ?_
 cases hM
 exact aR eV1
def JO (N : Nat) (_ : Int) (k_0 : Int) (k_1 : Int) (k_2 : Int) (c2_ : Int) (c3_ : AN) : Option Int := ck (-9223372036854775808 ≤ (c2_ - 1) ∧ (c2_ - 1) ≤ 9223372036854775807) ((DN N k_0 0 (c2_ - 1)).bind fun r5 => (Al N r5 10).bind fun r7 => (Gb N c3_ k_0 k_1 k_2).bind fun r9 => (AC N ([r7, r9])).bind fun r14 => some r14)
theorem VF (N x k_0 k_1 k_2 c2_ c3_ r) (hM : JO N x k_0 k_1 k_2 c2_ c3_ = some r) (ro) (bc2_ : Nat) (hbc2_ : Blk ro bc2_ [vI c2_]) (bc3_ : Nat) (c3_v : AH) (hc3_ : Bun35R ro c3_v c3_) (hbc3_ : Blk ro bc3_ (DA c3_ c3_v)) : DoesI prog 360 #[vI x, vA #[vI k_0, vI k_1, vI k_2], vP bc2_ 0, vP bc3_ 0] Ej ro [] (pV (vI r)) := by
 unfold JO at hM
 refine AQ follows func360 rfl 18 rfl _ fz4 AW (fun base0_ => ?_)
 refine Ai <| rA rfl fun b2 => rz rfl <| Aa fun K3 hK3 => BA [(some 15, false), (some 16, false), (some 17, false)] (conG prog [(15, cV (Gb N c3_ k_0 k_1 k_2) fun u0_ => vI u0_), (17, fun _ _ v_ L_ U_ => ∀ u0_, DN N k_0 0 (c2_ - 1) = some u0_ → ∀ u1_, Al N u0_ 10 = some u1_ → ∀ u2_, Gb N c3_ k_0 k_1 k_2 = some u2_ → ∀ u3_, AC N ([u1_, u2_]) = some u3_ → (pV (vI u3_)) v_ L_ U_)]) [] (by decide +kernel) (fun hn => Ba) <| rm 2 [0] rfl ?_
 refine Ec (vI c2_) (vs := [vI c2_]) (o := 0) rfl rfl (AM hbc2_) rfl <| kC hM fun ck4 hM => rX ck4 rfl <| kB hM fun r5 hr6 hM => rc _ (cF dF) (LL N k_0 0 (c2_ - 1) _ hr6) <| kB hM fun r7 hr8 hM => rc _ (cF AL) (Az N r5 10 _ hr8) <| Ec (vA (Ag c3_ c3_v)) (vs := (DA c3_ c3_v)) (o := 0) rfl rfl (AM hbc3_) rfl <| rm 1 [0] rfl <| kB hM fun r9 hr10 hM => rg _ (cF dE) (fun o w z_ => Sm N c3_ k_0 k_1 k_2 _ hr10 z_.view c3_v (Bun35R.mono z_.ro_cell hc3_)) (Ao hr10) ?_
 refine BF (Ls := [(WK b2 k_0 k_1 k_2)]) 39 Bf [r7, r9] [vI r7, vI r9] [vI 0, vI 0] rfl rfl rfl rfl rfl rfl rfl (by kernel_rfl) (by kernel_rfl) rfl rfl rfl (fun s11 S12 H13 => ?_)
 refine kB hM fun r14 hr15 hM => rg _ (cF BV) (fun o w z_ => (Does.inv (BD N ([r7, r9]) _ hr15 z_.view s11 ((Ap H13 (Ad (Ls := [(WK b2 k_0 k_1 k_2), S12]) (k := 1) rfl rfl)) o w z_)) _)) (fun _ _ v_ L_ U_ => ⟨fun h_ => h_ _ hr6 _ hr8 _ hr10 _ hr15, fun h_ => by intro _ e_; cases Option.some.inj (e_.symm.trans hr6); intro _ e_; cases Option.some.inj (e_.symm.trans hr8); intro _ e_; cases Option.some.inj (e_.symm.trans hr10); intro _ e_; cases Option.some.inj (e_.symm.trans hr15); exact h_⟩) ?_
 refine rz rfl <| hK3 _ _ ?_
 cases hM
 exact aR eV1
def Ic (N : Nat) (l' : List (Int × Int × Int)) (ask0_ : Int) (ask1_ : AN) : Nat → Int → Option (Int × Int)
  | 0, _ => none
  | n8 + 1, x1_ => if x1_ < (l'.length : Int) then ck (0 ≤ x1_ ∧ x1_ < (l'.length : Int)) ((JO N x1_ ((l'[x1_.toNat]!).1) ((l'[x1_.toNat]!).2.1) ((l'[x1_.toNat]!).2.2) ask0_ ask1_).bind fun r17 => if (r17 : Int) ≠ 0 then some (x1_, r17) else ck (-9223372036854775808 ≤ (x1_ + 1) ∧ (x1_ + 1) ≤ 9223372036854775807) ((Ic N l' ask0_ ask1_ n8) (x1_ + 1))) else some (0, 0)
def KY (N : Nat) (l' : List (Int × Int × Int)) (most : Int) (ask0_ : Int) (ask1_ : AN) : Option (Int × Int) := if (l'.length : Int) > most then some (0, 2) else Ic N l' ask0_ ask1_ N 0
theorem WW (N l' most ask0_ ask1_ r) (hM : KY N l' most ask0_ ask1_ = some r) (ro l'v) (hl' : Rd DO ro l'v l') (bask0_ : Nat) (hbask0_ : Blk ro bask0_ [vI ask0_]) (bask1_ : Nat) (ask1_v : AH) (hask1_ : Bun35R ro ask1_v ask1_) (hbask1_ : Blk ro bask1_ (DA ask1_ ask1_v)) : DoesI prog 359 #[l'v, vI most, vF 360 #[] #[vP bask0_ 0, vP bask1_ 0]] Ej ro [] (pV (vT #[vI r.1, vI r.2])) := by
 unfold KY at hM
 refine AQ follows func359 rfl 31 rfl _ fz3 AW (fun base0_ => ?_)
 refine AZ rfl <| Aa fun K2 hK2 => Ai <| rn 1 rfl <| rL (Rd.shp hl') rfl <| rz rfl <| aD hM rfl (fun hc4 hM => ?_) (fun hc4 hM => ?_)
 ·refine AZ rfl ?_
  cases hM
  exact aR eV2
 refine Af <| hK2 _ _ ?_
 refine Aa fun K6 hK6 => Ai <| rn 1 rfl <| rL (Rd.shp hl') rfl <| rz rfl <| Aj <| AU (fun tt ll nn => ∃ (n8 : Nat) (x1_ : Int), (Ic N l' ask0_ ask1_ n8 x1_ = some r) ∧ Is [(2, vF 360 #[] #[vP bask0_ 0, vP bask1_ 0]), (15, l'v), (16, vI (l'.length : Int)), (17, vI x1_)] [] tt ll ∧ nn = n8 + 1) (N + 1) ?_ ?_
 ·exact ⟨N, 0, hM, Ak rfl rfl, rfl⟩
 clear hM; rintro t l _ ⟨n8, x1_, hM, ⟨⟨T, rfl⟩, rfl⟩, rfl⟩
 rcases n8 with _ | n8
 ·exact absurd hM (by simp [Ic])
 rw [Ic] at hM
 refine AZ rfl <| Aa fun K10 hK10 => aD hM rfl (fun hc11 hM => ?_) (fun hc11 hM => ?_)
 ·refine Af <| hK10 _ _ ?_
  refine Aa fun K12 hK12 => Aj <| Ai <| rn 1 rfl <| kC hM fun ck14 hM => rI (Rd.shp hl') ck14 rfl <| rE (AA hl') ck14 0 rfl <| rA rfl fun b15 => ry [0] rfl <| A_sc [(some 25, false)] (conG prog [(25, cV (JO N x1_ ((l'[x1_.toNat]!).1) ((l'[x1_.toNat]!).2.1) ((l'[x1_.toNat]!).2.2) ask0_ ask1_) fun u0_ => vI u0_)]) <| rn 2 rfl ?_
  refine rm 1 [0] rfl <| kB hM fun r17 hr18 hM => rg _ (AO (caps := [vP bask0_ 0, vP bask1_ 0]) rfl dG rfl) (fun o w z_ => VF N x1_ ((l'[x1_.toNat]!).1) ((l'[x1_.toNat]!).2.1) ((l'[x1_.toNat]!).2.2) ask0_ ask1_ _ hr18 z_.view bask0_ (AM hbask0_ o w z_) bask1_ ask1_v (Bun35R.mono z_.ro_cell hask1_) (AM hbask1_ o w z_)) (Ao hr18) <| rz rfl <| AZ rfl <| aN hM rfl (fun hc20 hM => ?_) (fun hc20 hM => ?_)
  ·refine AZ rfl ?_
   cases hM
   exact aR eV2
  refine Af <| hK12 _ _ ?_
  refine Ar <| kC hM fun ck22 hM => rX ck22 rfl <| rz rfl <| fg _ (Sub.of (suC _ suN)) ?_
  exact ⟨n8 + 1, by omega, n8, (x1_ + 1), hM, Ak rfl rfl, rfl⟩
 refine AS <| hK6 _ _ ?_
 refine AZ rfl ?_
 cases hM
 exact aR eV2
def Ga (N : Nat) (c : AN) (l' : List (Int × Int × Int)) (kinds : Int) : Option Int := (KY N l' 4 kinds c).bind fun r5 => (IA N c l').bind fun r8 => (Al N r8.2 9).bind fun r11 => (AC N ([r5.2, r11])).bind fun r16 => some r16
theorem Sk (N c l' kinds r) (hM : Ga N c l' kinds = some r) (ro) (cv : AH) (hc : Bun35R ro cv c) (l'v) (hl' : Rd DO ro l'v l') : DoesI prog 302 #[vA (Ag c cv), l'v, vI kinds] Ej ro [] (pV (vI r)) := by
 unfold Ga at hM
 refine AQ follows func302 rfl 29 rfl _ fz3 AW (fun base0_ => ?_)
 refine Ai <| rA rfl fun b2 => rA rfl fun b3 => rz rfl <| A_sc [(some 14, false)] (conG prog [(14, cV (KY N l' 4 kinds c) fun u0_ => vT #[vI u0_.1, vI u0_.2])]) <| rn 1 rfl <| r_W (vF 360 #[] #[vP b3 0, vP b2 0]) rfl (EM rfl) <| kB hM fun r5 hr6 hM => rg _ (cF dH) (fun o w z_ => WW N l' 4 kinds c _ hr6 z_.view l'v ((AA hl') o w z_) b3 (BR 0 rfl rfl o w z_) b2 cv (Bun35R.mono z_.ro_cell hc) (BR 1 rfl rfl o w z_)) (Ao hr6) <| rz rfl <| A_sc [(some 21, false)] (conG prog [(21, cV (IA N c l') fun u0_ => vT #[vI u0_.1, vB u0_.2])]) <| rm 3 [1] rfl <| kB hM fun r8 hr9 hM => rg _ (cF XF) (fun o w z_ => RU N c l' _ hr9 z_.view cv (Bun35R.mono z_.ro_cell hc) l'v ((AA hl') o w z_)) (Ao hr9) <| rz rfl <| A_sc [(some 27, false), (some 28, false)] (conG prog [(28, fun _ _ v_ L_ U_ => ∀ u0_, Al N r8.2 9 = some u0_ → ∀ u1_, AC N ([r5.2, u0_]) = some u1_ → (pV (vI u1_)) v_ L_ U_)]) <| rn 2 rfl <| kB hM fun r11 hr12 hM => rc _ (cF AL) (Az N r8.2 9 _ hr12) <| BF (Ls := [(WL b3 kinds), [(b2, 238, (Ag c cv))]]) 39 Bf [r5.2, r11] [vI r5.2, vI r11] [vI 0, vI 0] rfl rfl rfl rfl rfl rfl rfl (by kernel_rfl) (by kernel_rfl) rfl rfl rfl (fun s13 S14 H15 => ?_)
 refine kB hM fun r16 hr17 hM => rg _ (cF BV) (fun o w z_ => (Does.inv (BD N ([r5.2, r11]) _ hr17 z_.view s13 ((Ap H15 (Ad (Ls := [(WL b3 kinds), [(b2, 238, (Ag c cv))], S14]) (k := 2) rfl rfl)) o w z_)) _)) (fun _ _ v_ L_ U_ => ⟨fun h_ => h_ _ hr12 _ hr17, fun h_ => by intro _ e_; cases Option.some.inj (e_.symm.trans hr12); intro _ e_; cases Option.some.inj (e_.symm.trans hr17); exact h_⟩) ?_
 refine rz rfl <| DJ [(6, vI r16)] rfl (fun T => ?_)
 cases hM
 exact aR eV1
def Ii (N : Nat) (c : AN) (_ : List UInt8) (s_1 : List (Int × Int)) (s_2 : List (Int × Int × Int)) (s_3 : List (Int × BitVec 128 × Int × BitVec 128 × Int)) (s_4 : Int) : Option Int := (KZ N s_1 4 c).bind fun r5 => (Ff N c s_2).bind fun r8 => (JM N s_3 8 s_2 r8 c).bind fun r13 => (Ga N c s_2 3).bind fun r16 => (DY N c s_4).bind fun r18 => (AC N ([r5.2, r16, r13.2, r18])).bind fun r23 => some r23
theorem VA (N c s_0 s_1 s_2 s_3 s_4 r) (hM : Ii N c s_0 s_1 s_2 s_3 s_4 = some r) (ro) (cv : AH) (hc : Bun35R ro cv c) (s_1v) (hs_1 : Rd JQ ro s_1v s_1) (s_2v) (hs_2 : Rd DO ro s_2v s_2) (s_3v) (hs_3 : Rd JP ro s_3v s_3) : DoesI prog 241 #[vA (Ag c cv), vA #[vS s_0, s_1v, s_2v, s_3v, vI s_4]] Ej ro [] (pV (vI r)) := by
 unfold Ii at hM
 refine AQ follows func241 rfl 39 rfl _ fz2 AW (fun base0_ => ?_)
 refine Ai <| rA rfl fun b2 => rA rfl fun b3 => rz rfl <| A_sc [(some 14, false)] (conG prog [(14, cV (KZ N s_1 4 c) fun u0_ => vT #[vI u0_.1, vI u0_.2])]) <| rm 3 [0, 1] rfl <| r_W (vF 299 #[vA (Ag c cv)] #[]) rfl (EU rfl rfl) <| kB hM fun r5 hr6 hM => rg _ (cF eH) (fun o w z_ => (Does.inv (WX N s_1 4 c _ hr6 z_.view s_1v (z_.r hs_1) cv (Bun35R.mono z_.ro_cell hc)) _)) (Ao hr6) <| rz rfl <| Aa fun K7 hK7 => ?_
 refine Wf (Ls := [(GW b3 s_0 s_1v s_2v s_3v s_4), [(b2, 238, (Ag c cv))]]) [(some 23, true), (some 24, false), (some 1000000024, true)] [(23, fun _ _ v_ L_ U_ => (pH ((List.flatten ([] : List (List Bl))).map (·.1)) (fun v_ L_ U_ => ∀ u0_, Ff N c s_2 = some u0_ → (pO (List.flatten []) (oB 82 #[s_2v] fun b_0 => (oB 3 #[vI u0_] fun b_1 => (oB 238 (Ag c cv) fun b_2 => (oE (vF 355 #[] #[vP b_0 0, vP b_1 0, vP b_2 0]) []))))) v_ L_ U_) v_ L_ U_)), (24, fun _ _ v_ L_ U_ => ∀ u0_, Ff N c s_2 = some u0_ → ∀ u1_, JM N s_3 8 s_2 u0_ c = some u1_ → (pV (vT #[vI u1_.1, vI u1_.2])) v_ L_ U_)] [] [0, 1] [] (by decide +kernel) (fun hn => Ba) (by decide +kernel) rfl (⟨.inr (fun _ _ _ _ _ h_ => bG (Wy (Ls := [(GW b3 s_0 s_1v s_2v s_3v s_4), [(b2, 238, (Ag c cv))]]) (is := []) (js := []) rfl) h_), ⟨.inl rfl, trivial⟩⟩) (fun hnb_ => ?_)
 refine rn 1 rfl <| YB s_3v 0 _ _ _ _ rfl rfl rfl rfl rfl (hnb_ b3 (List.mem_of_getElem? (i := 0) rfl)) <| YB (vA (Ag c cv)) 1 _ _ _ _ rfl rfl rfl rfl rfl (hnb_ b2 (List.mem_of_getElem? (i := 1) rfl)) <| rn 1 rfl <| YB s_2v 0 _ _ _ _ rfl rfl rfl rfl rfl (hnb_ b3 (List.mem_of_getElem? (i := 0) rfl)) <| kB hM fun r8 hr9 hM => Ju (Ls := [(GW b3 s_0 s_1v s_2v s_3v s_4), [(b2, 238, (Ag c cv))]]) (FL := []) [] _ (some 23) 301 _ rfl rfl rfl rfl rfl (cF eE) (fun o w hn_ z_ => Ub N c s_2 _ hr9 _ cv (Bun35R.mono (OB (Ls := [(GW b3 s_0 s_1v s_2v s_3v s_4), [(b2, 238, (Ag c cv))]]) (is := []) rfl z_) hc) s_2v (Rd.mono (OB (Ls := [(GW b3 s_0 s_1v s_2v s_3v s_4), [(b2, 238, (Ag c cv))]]) (is := []) rfl z_) hs_2)) (fun a_ c_ v_ L_ U_ => bF (q := fun v_ L_ U_ => ∀ u0_, Ff N c s_2 = some u0_ → (pO (List.flatten []) (oB 82 #[s_2v] fun b_0 => (oB 3 #[vI u0_] fun b_1 => (oB 238 (Ag c cv) fun b_2 => (oE (vF 355 #[] #[vP b_0 0, vP b_1 0, vP b_2 0]) []))))) v_ L_ U_) ((Ao hr9) a_ c_ v_ L_ U_)) (fun _ => (NiceO.sub (R := []) (bR fun b_0 => (bR fun b_1 => (bR fun b_2 => (Zr rfl)))) (Sub.pick [] [] rfl))) ?_
 rintro _ _ ⟨b12, _, ⟨b11, _, ⟨b10, _, ⟨rfl, rfl⟩, rfl⟩, rfl⟩, rfl⟩
 refine AX (Ls := [(GW b3 s_0 s_1v s_2v s_3v s_4), [(b2, 238, (Ag c cv))], (Nx b12 s_2v), (PE b11 r8), [(b10, 238, (Ag c cv))]]) (Ls' := [(GW b3 s_0 s_1v s_2v s_3v s_4), [(b2, 238, (Ag c cv))], (Nx b12 s_2v), (PE b11 r8), [(b10, 238, (Ag c cv))]]) [0, 1, 2, 3, 4] rfl rfl <| kB hM fun r13 hr14 hM => rg _ (cF eF) (fun o w z_ => (Does.inv (Vy N s_3 8 s_2 r8 c _ hr14 z_.view s_3v (z_.r hs_3) b12 s_2v (z_.r hs_2) (BR 2 rfl rfl o w z_) b11 (BR 3 rfl rfl o w z_) b10 cv (Bun35R.mono z_.ro_cell hc) (BR 4 rfl rfl o w z_)) _)) (fun _ _ v_ L_ U_ => ⟨fun h_ => h_ _ hr9 _ hr14, fun h_ => by intro _ e_; cases Option.some.inj (e_.symm.trans hr9); intro _ e_; cases Option.some.inj (e_.symm.trans hr14); exact h_⟩) ?_
 refine rz rfl <| hK7 _ _ ?_
 refine Aa fun K15 hK15 => BA [(some 31, false), (some 36, false), (some 37, false), (some 38, false)] (conG prog [(31, cV (Ga N c s_2 3) fun u0_ => vI u0_), (36, cV (DY N c s_4) fun u0_ => vI u0_), (38, fun _ _ v_ L_ U_ => ∀ u0_, Ga N c s_2 3 = some u0_ → ∀ u1_, DY N c s_4 = some u1_ → ∀ u2_, AC N ([r5.2, u0_, r13.2, u1_]) = some u2_ → (pV (vI u2_)) v_ L_ U_)]) [] (by decide +kernel) (fun hn => Ba) <| rm 2 [1] rfl ?_
 refine rm 2 [0] rfl <| kB hM fun r16 hr17 hM => rg _ (cF XO) (fun o w z_ => Sk N c s_2 3 _ hr17 z_.view cv (Bun35R.mono z_.ro_cell hc) s_2v (z_.r hs_2)) (Ao hr17) <| rm 4 [1, 0] rfl <| kB hM fun r18 hr19 hM => rg _ (cF SK) (fun o w z_ => (Does.inv (MZ N c s_4 _ hr19 z_.view cv (Bun35R.mono z_.ro_cell hc)) _)) (Ao hr19) ?_
 refine BF (Ls := [(GW b3 s_0 s_1v s_2v s_3v s_4), [(b2, 238, (Ag c cv))], (Nx b12 s_2v), (PE b11 r8), [(b10, 238, (Ag c cv))]]) 39 Bf [r5.2, r16, r13.2, r18] [vI r5.2, vI r16, vI r13.2, vI r18] [vI 0, vI 0, vI 0, vI 0] rfl rfl rfl rfl rfl rfl rfl (by kernel_rfl) (by kernel_rfl) rfl rfl rfl (fun s20 S21 H22 => ?_)
 refine kB hM fun r23 hr24 hM => rg _ (cF BV) (fun o w z_ => (Does.inv (BD N ([r5.2, r16, r13.2, r18]) _ hr24 z_.view s20 ((Ap H22 (Ad (Ls := [(GW b3 s_0 s_1v s_2v s_3v s_4), [(b2, 238, (Ag c cv))], (Nx b12 s_2v), (PE b11 r8), [(b10, 238, (Ag c cv))], S21]) (k := 5) rfl rfl)) o w z_)) _)) (fun _ _ v_ L_ U_ => ⟨fun h_ => h_ _ hr17 _ hr19 _ hr24, fun h_ => by intro _ e_; cases Option.some.inj (e_.symm.trans hr17); intro _ e_; cases Option.some.inj (e_.symm.trans hr19); intro _ e_; cases Option.some.inj (e_.symm.trans hr24); exact h_⟩) ?_
 refine rz rfl <| hK15 _ _ ?_
 refine DJ [(4, vI r23)] rfl (fun T => ?_)
 cases hM
 exact aR eV1
def GZ (N : Nat) (i : Int) (x_0 : List UInt8) (x_1 : List (Int × Int)) (x_2 : List (Int × Int × Int)) (x_3 : List (Int × BitVec 128 × Int × BitVec 128 × Int)) (x_4 : Int) (c2_ : List (List UInt8)) (c3_p0_0_ : AN) : Option Int := ck (0 ≤ i ∧ i < (c2_.length : Int)) ((Df N (c2_[i.toNat]!)).bind fun r5 => (Al N r5 4).bind fun r7 => (Bb N c2_ i).bind fun r9 => (Ii N c3_p0_0_ x_0 x_1 x_2 x_3 x_4).bind fun r11 => (AC N ([r7, r9, r11])).bind fun r16 => some r16)
theorem QD (N i x_0 x_1 x_2 x_3 x_4 c2_ c3_p0_0_ r) (hM : GZ N i x_0 x_1 x_2 x_3 x_4 c2_ c3_p0_0_ = some r) (ro x_1v) (hx_1 : Rd JQ ro x_1v x_1) (x_2v) (hx_2 : Rd DO ro x_2v x_2) (x_3v) (hx_3 : Rd JP ro x_3v x_3) (bc2_ : Nat) (c2_v) (hc2_ : Rd Bz ro c2_v c2_) (hbc2_ : Blk ro bc2_ [c2_v]) (bc3_ : Nat) (c3_p0_0_v : AH) (hc3_p0_0_ : Bun35R ro c3_p0_0_v c3_p0_0_) (hbc3_ : Blk ro bc3_ [vF 241 #[vA (Ag c3_p0_0_ c3_p0_0_v)] #[]]) : DoesI prog 297 #[vI i, vA #[vS x_0, x_1v, x_2v, x_3v, vI x_4], vP bc2_ 0, vP bc3_ 0] Ej ro [] (pV (vI r)) := by
 unfold GZ at hM
 refine AQ follows func297 rfl 21 rfl _ fz4 AW (fun base0_ => ?_)
 refine Ai <| rA rfl fun b2 => rz rfl <| Aa fun K3 hK3 => ?_
 refine BA [(some 15, false), (some 18, false), (some 19, false), (some 20, false)] (conG prog [(15, cV (Bb N c2_ i) fun u0_ => vI u0_), (18, cV (Ii N c3_p0_0_ x_0 x_1 x_2 x_3 x_4) fun u0_ => vI u0_), (20, fun _ _ v_ L_ U_ => ∀ u0_, Df N (c2_[i.toNat]!) = some u0_ → ∀ u1_, Al N u0_ 4 = some u1_ → ∀ u2_, Bb N c2_ i = some u2_ → ∀ u3_, Ii N c3_p0_0_ x_0 x_1 x_2 x_3 x_4 = some u3_ → ∀ u4_, AC N ([u1_, u2_, u3_]) = some u4_ → (pV (vI u4_)) v_ L_ U_)]) [] (by decide +kernel) (fun hn => Ba) ?_
 refine Ec c2_v (vs := [c2_v]) (o := 0) rfl rfl (AM hbc2_) rfl <| rn 1 rfl <| kC hM fun ck4 hM => rI (Rd.shp hc2_) ck4 rfl <| rE (AA hc2_) ck4 0 rfl <| kB hM fun r5 hr6 hM => rc _ (cF Kz) (Iz N (c2_[i.toNat]!) _ hr6) <| kB hM fun r7 hr8 hM => rc _ (cF AL) (Az N r5 4 _ hr8) <| Ec c2_v (vs := [c2_v]) (o := 0) rfl rfl (AM hbc2_) rfl <| rn 1 rfl <| kB hM fun r9 hr10 hM => rg _ (cF Jt) (fun o w z_ => (Does.inv (Es N c2_ i _ hr10 z_.view c2_v (z_.r hc2_)) _)) (Ao hr10) <| Ec (vF 241 #[vA (Ag c3_p0_0_ c3_p0_0_v)] #[]) (vs := [vF 241 #[vA (Ag c3_p0_0_ c3_p0_0_v)] #[]]) (o := 0) rfl rfl (AM hbc3_) rfl <| rm 1 [0] rfl <| kB hM fun r11 hr12 hM => rg _ (Nd (bd := [vA (Ag c3_p0_0_ c3_p0_0_v)]) (caps := []) rfl fv rfl) (fun o w z_ => VA N c3_p0_0_ x_0 x_1 x_2 x_3 x_4 _ hr12 z_.view c3_p0_0_v (Bun35R.mono z_.ro_cell hc3_p0_0_) x_1v (z_.r hx_1) x_2v (z_.r hx_2) x_3v (z_.r hx_3)) (Ao hr12) ?_
 refine BF (Ls := [(GW b2 x_0 x_1v x_2v x_3v x_4)]) 39 Bf [r7, r9, r11] [vI r7, vI r9, vI r11] [vI 0, vI 0, vI 0] rfl rfl rfl rfl rfl rfl rfl (by kernel_rfl) (by kernel_rfl) rfl rfl rfl (fun s13 S14 H15 => ?_)
 refine kB hM fun r16 hr17 hM => rg _ (cF BV) (fun o w z_ => (Does.inv (BD N ([r7, r9, r11]) _ hr17 z_.view s13 ((Ap H15 (Ad (Ls := [(GW b2 x_0 x_1v x_2v x_3v x_4), S14]) (k := 1) rfl rfl)) o w z_)) _)) (fun _ _ v_ L_ U_ => ⟨fun h_ => h_ _ hr6 _ hr8 _ hr10 _ hr12 _ hr17, fun h_ => by intro _ e_; cases Option.some.inj (e_.symm.trans hr6); intro _ e_; cases Option.some.inj (e_.symm.trans hr8); intro _ e_; cases Option.some.inj (e_.symm.trans hr10); intro _ e_; cases Option.some.inj (e_.symm.trans hr12); intro _ e_; cases Option.some.inj (e_.symm.trans hr17); exact h_⟩) ?_
 refine rz rfl <| hK3 _ _ ?_
 cases hM
 exact aR eV1
def FX (N : Nat) (l' : List ((List UInt8) × (List (Int × Int)) × (List (Int × Int × Int)) × (List (Int × BitVec 128 × Int × BitVec 128 × Int)) × Int)) (ask0_ : List (List UInt8)) (ask1_p0_0_ : AN) : Nat → Int → Option (Int × Int)
  | 0, _ => none
  | n8 + 1, x1_ => if x1_ < (l'.length : Int) then ck (0 ≤ x1_ ∧ x1_ < (l'.length : Int)) ((GZ N x1_ (l'[x1_.toNat]!.1) (l'[x1_.toNat]!.2.1) (l'[x1_.toNat]!.2.2.1) (l'[x1_.toNat]!.2.2.2.1) (l'[x1_.toNat]!.2.2.2.2) ask0_ ask1_p0_0_).bind fun r24 => if (r24 : Int) ≠ 0 then some (x1_, r24) else ck (-9223372036854775808 ≤ (x1_ + 1) ∧ (x1_ + 1) ≤ 9223372036854775807) ((FX N l' ask0_ ask1_p0_0_ n8) (x1_ + 1))) else some (0, 0)
def IY (N : Nat) (l' : List ((List UInt8) × (List (Int × Int)) × (List (Int × Int × Int)) × (List (Int × BitVec 128 × Int × BitVec 128 × Int)) × Int)) (most : Int) (ask0_ : List (List UInt8)) (ask1_p0_0_ : AN) : Option (Int × Int) := if (l'.length : Int) > most then some (0, 2) else FX N l' ask0_ ask1_p0_0_ N 0
theorem TR (N l' most ask0_ ask1_p0_0_ r) (hM : IY N l' most ask0_ ask1_p0_0_ = some r) (ro l'v) (hl' : RdN Im ro l'v l') (bask0_ : Nat) (ask0_v) (hask0_ : Rd Bz ro ask0_v ask0_) (hbask0_ : Blk ro bask0_ [ask0_v]) (bask1_ : Nat) (ask1_p0_0_v : AH) (hask1_p0_0_ : Bun35R ro ask1_p0_0_v ask1_p0_0_) (hbask1_ : Blk ro bask1_ [vF 241 #[vA (Ag ask1_p0_0_ ask1_p0_0_v)] #[]]) : DoesI prog 296 #[l'v, vI most, vF 297 #[] #[vP bask0_ 0, vP bask1_ 0]] Ej ro [] (pV (vT #[vI r.1, vI r.2])) := by
 unfold IY at hM
 refine AQ follows func296 rfl 31 rfl _ fz3 AW (fun base0_ => ?_)
 refine AZ rfl <| Aa fun K2 hK2 => Ai <| rn 1 rfl <| rL (RdN.shp hl') rfl <| rz rfl <| aD hM rfl (fun hc4 hM => ?_) (fun hc4 hM => ?_)
 ·refine AZ rfl ?_
  cases hM
  exact aR eV2
 refine Af <| hK2 _ _ ?_
 refine Aa fun K6 hK6 => Ai <| rn 1 rfl <| rL (RdN.shp hl') rfl <| rz rfl <| Aj <| AU (fun tt ll nn => ∃ (n8 : Nat) (x1_ : Int), (FX N l' ask0_ ask1_p0_0_ n8 x1_ = some r) ∧ Is [(2, vF 297 #[] #[vP bask0_ 0, vP bask1_ 0]), (15, l'v), (16, vI (l'.length : Int)), (17, vI x1_)] [] tt ll ∧ nn = n8 + 1) (N + 1) ?_ ?_
 ·exact ⟨N, 0, hM, Ak rfl rfl, rfl⟩
 clear hM; rintro t l _ ⟨n8, x1_, hM, ⟨⟨T, rfl⟩, rfl⟩, rfl⟩
 rcases n8 with _ | n8
 ·exact absurd hM (by simp [FX])
 rw [FX] at hM
 refine AZ rfl <| Aa fun K10 hK10 => aD hM rfl (fun hc11 hM => ?_) (fun hc11 hM => ?_)
 ·refine Af <| hK10 _ _ ?_
  refine Aa fun K12 hK12 => Aj <| Ai <| rn 1 rfl <| kC hM fun ck14 hM => ?_
  obtain ⟨_, ⟨s15, s16, s17, hs18, hs19, hs20, rfl⟩, hat21⟩ := RdN.at (E := Im) hl' (CP ck14)
  refine rI (RdN.shp hl') ck14 rfl <| Mv (vA #[vS (l'[x1_.toNat]!.1), s15, s16, s17, vI (l'[x1_.toNat]!.2.2.2.2)]) (vs := [vS (l'[x1_.toNat]!.1), s15, s16, s17, vI (l'[x1_.toNat]!.2.2.2.2)]) (x1_.toNat * 5) 0 rfl rfl (fun o w z_ => At.mono z_.ro_cell hat21) rfl <| rA rfl fun b22 => rn 1 rfl <| r_s (GW b22 (l'[x1_.toNat]!.1) s15 s16 s17 (l'[x1_.toNat]!.2.2.2.2)) 0 _ _ _ _ _ (#[vS (l'[x1_.toNat]!.1), s15, s16, s17, vI (l'[x1_.toNat]!.2.2.2.2)]) rfl rfl rfl rfl (.ofS rfl rfl (Ab rfl (Ab (Shp.one (Rd.shp hs18)) (Ab (Shp.one (Rd.shp hs19)) (Ab (Shp.one (Rd.shp hs20)) (Ab rfl Bh)))))) rfl rfl <| As ?_
  refine A_sc [(some 25, false)] (conG prog [(25, cV (GZ N x1_ (l'[x1_.toNat]!.1) (l'[x1_.toNat]!.2.1) (l'[x1_.toNat]!.2.2.1) (l'[x1_.toNat]!.2.2.2.1) (l'[x1_.toNat]!.2.2.2.2) ask0_ ask1_p0_0_) fun u0_ => vI u0_)]) <| rm 3 [0] rfl <| kB hM fun r24 hr25 hM => rg _ (AO (caps := [vP bask0_ 0, vP bask1_ 0]) rfl eI rfl) (fun o w z_ => QD N x1_ (l'[x1_.toNat]!.1) (l'[x1_.toNat]!.2.1) (l'[x1_.toNat]!.2.2.1) (l'[x1_.toNat]!.2.2.2.1) (l'[x1_.toNat]!.2.2.2.2) ask0_ ask1_p0_0_ _ hr25 z_.view s15 (z_.r hs18) s16 (z_.r hs19) s17 (z_.r hs20) bask0_ ask0_v (z_.r hask0_) (AM hbask0_ o w z_) bask1_ ask1_p0_0_v (Bun35R.mono z_.ro_cell hask1_p0_0_) (AM hbask1_ o w z_)) (Ao hr25) <| rz rfl <| AZ rfl ?_
  refine aN hM rfl (fun hc27 hM => ?_) (fun hc27 hM => ?_)
  ·refine AZ rfl ?_
   cases hM
   exact aR eV2
  refine Af <| hK12 _ _ ?_
  refine Ar <| kC hM fun ck29 hM => rX ck29 rfl <| rz rfl <| fg _ (Sub.of (suC _ suN)) ?_
  exact ⟨n8 + 1, by omega, n8, (x1_ + 1), hM, Ak rfl rfl, rfl⟩
 refine AS <| hK6 _ _ ?_
 refine AZ rfl ?_
 cases hM
 exact aR eV2
def IP (N : Nat) (l' : List ((List UInt8) × (List (Int × Int)) × (List (Int × Int × Int)) × (List (Int × BitVec 128 × Int × BitVec 128 × Int)) × Int)) (most : Int) (ask0_ : AN) : Option (Int × Int) := (IU N l').bind fun r4 => (IY N l' most r4 ask0_).bind fun r11 => some (r11.1, r11.2)
theorem TI (N l' most ask0_ r) (hM : IP N l' most ask0_ = some r) (ro l'v) (hl' : RdN Im ro l'v l') (ask0_v : AH) (hask0_ : Bun35R ro ask0_v ask0_) : DoesI prog 239 #[l'v, vI most, vF 240 #[] #[], vF 241 #[vA (Ag ask0_ ask0_v)] #[]] Ej ro [] (pV (vT #[vI r.1, vI r.2])) := by
 unfold IP at hM
 refine AQ follows func239 rfl 20 rfl _ fz4 AW (fun base0_ => ?_)
 refine Ai <| rA rfl fun b2 => rz rfl <| A_sc [(some 13, false)] (conG prog [(13, fun _ _ v_ L_ U_ => ∀ u0_, IU N l' = some u0_ → (p1 (fun s_ => s_) 9 Bz u0_) v_ L_ U_)]) <| rn 2 rfl <| kB hM fun r4 hr5 hM => AP (Ls := [(RP b2 (vF 241 #[vA (Ag ask0_ ask0_v)] #[]))]) (fun s6 => s6) 9 Bz r4 295 _ rfl rfl rfl (cF eK) (fun o w z_ => (Does.inv (TN N l' _ hr5 z_.view l'v (RdN.mono z_.ro_cell hl')) _)) (Ao hr5) (fun s6 S7 H8 => ?_)
 refine rA rfl fun b9 => r_s (List.flatten [(ZA b9 s6), (RP b2 (vF 241 #[vA (Ag ask0_ ask0_v)] #[])), S7]) 0 _ _ _ _ _ (#[s6]) rfl rfl rfl (AI rfl (Sl.shp H8)) (.ofS rfl rfl (Ab (Shp.one (Sl.shp H8)) Bh)) rfl rfl <| As <| A_sc [(some 17, false)] (conG prog [(17, cV (IY N l' most r4 ask0_) fun u0_ => vT #[vI u0_.1, vI u0_.2])]) <| rn 2 rfl <| r_W (vF 297 #[] #[vP b9 0, vP b2 0]) rfl (EM rfl) <| kB hM fun r11 hr12 hM => rg _ (cF eJ) (fun o w z_ => TR N l' most r4 ask0_ _ hr12 z_.view l'v (RdN.mono z_.ro_cell hl') b9 s6 ((Ap H8 (Ad (Ls := [(ZA b9 s6), (RP b2 (vF 241 #[vA (Ag ask0_ ask0_v)] #[])), S7]) (k := 2) rfl rfl)) o w z_) (BR 0 rfl rfl o w z_) b2 ask0_v (Bun35R.mono z_.ro_cell hask0_) (BR 1 rfl rfl o w z_)) (Ao hr12) <| rz rfl ?_
 cases hM
 exact aR eV2
def Lv (N : Nat) (c : AN) : Option (Int × Int) := if (c.2.2.2.2.1.length : Int) = 0 then some (0, 5) else (IP N c.2.2.2.2.1 16 c).bind fun r8 => some (r8.1, r8.2)
theorem TW (N c r) (hM : Lv N c = some r) (ro) (cv : AH) (hc : Bun35R ro cv c) : DoesI prog 197 #[vA (Ag c cv)] Ej ro [] (pV (vT #[vI r.1, vI r.2])) := by
 unfold Lv at hM
 refine AQ follows func197 rfl 17 rfl _ fz1 AW (fun base0_ => ?_)
 refine Ai <| rA rfl fun b2 => rz rfl <| Aa fun K3 hK3 => Ai <| rm 3 [0] rfl <| rL (RdN.shp hc.2.2.2.1) rfl <| rz rfl <| aE hM rfl (fun hc5 hM => ?_) (fun hc5 hM => ?_)
 ·refine AZ rfl ?_
  cases hM
  exact aR eV2
 refine Af <| hK3 _ _ ?_
 refine A_sc [(some 14, false)] (conG prog [(14, cV (IP N c.2.2.2.2.1 16 c) fun u0_ => vT #[vI u0_.1, vI u0_.2])]) <| rm 4 [0, 0] rfl <| r_W (vF 241 #[vA (Ag c cv)] #[]) rfl (EU rfl rfl) <| kB hM fun r8 hr9 hM => rg _ (cF fx) (fun o w z_ => TI N c.2.2.2.2.1 16 c _ hr9 z_.view cv.2.2.2.1 (RdN.mono z_.ro_cell hc.2.2.2.1) cv (Bun35R.mono z_.ro_cell hc)) (Ao hr9) <| rz rfl ?_
 cases hM
 exact aR eV2
def Gy (_ : Nat) (x_0 : List UInt8) (_ : List Int) (_ : List (Int × Int × Int × Int × BitVec 128)) : Option (List UInt8) := some x_0
theorem PQ (N x_0 x_1 x_2 r) (hM : Gy N x_0 x_1 x_2 = some r) (ro : Ro) (x_1v : Value) (_hx_1 : Rd Bf ro x_1v x_1) (x_2v : Value) (_hx_2 : Rd enc_56 ro x_2v x_2) : Does prog 243 #[vA #[vS x_0, x_1v, x_2v]] ro [] (pV (vS r)) := by
 unfold Gy at hM
 refine Ac follows func243 rfl 5 rfl _ fz1 (fun base0_ => ?_)
 refine Ai <| rA rfl fun b2 => rz rfl <| AY [0] rfl ?_
 cases hM
 exact aR eV1
def EX (N : Nat) (l' : List ((List UInt8) × (List Int) × (List (Int × Int × Int × Int × BitVec 128)))) : Nat → List (List UInt8) → Int → Option (List (List UInt8))
  | 0, _, _ => none
  | n9 + 1, s1_, x2_ => if x2_ < (l'.length : Int) then ck (0 ≤ x2_ ∧ x2_ < (l'.length : Int)) ((Gy N (l'[x2_.toNat]!.1) (l'[x2_.toNat]!.2.1) (l'[x2_.toNat]!.2.2)).bind fun r22 => ck (0 ≤ x2_ ∧ x2_ < (s1_.length : Int)) (ck (-9223372036854775808 ≤ (x2_ + 1) ∧ (x2_ + 1) ≤ 9223372036854775807) ((EX N l' n9) ((s1_).set (x2_.toNat) r22) (x2_ + 1)))) else some s1_
def HY (N : Nat) (l' : List ((List UInt8) × (List Int) × (List (Int × Int × Int × Int × BitVec 128)))) : Option (List (List UInt8)) := ck (0 ≤ (l'.length : Int) ∧ (l'.length : Int) ≤ 8796093022208) (EX N l' N ((List.replicate ((l'.length : Int)).toNat ([]))) 0)
theorem Se (N l' r) (hM : HY N l' = some r) (ro l'v) (hl' : RdN Hk ro l'v l') : Does prog 304 #[l'v, vF 243 #[] #[]] ro [] (p1 (fun s_ => s_) 9 Bz r) := by
 unfold HY at hM
 refine Ac follows func304 rfl 26 rfl _ fz2 (fun base0_ => ?_)
 refine AZ rfl <| A_sc [(some 10, false)] (conG prog [(10, fun _ _ v_ L_ U_ => (p1 (fun v => v) 9 Bz (List.replicate ((l'.length : Int)).toNat ([]))) v_ L_ U_)]) <| rn 1 rfl <| rL (RdN.shp hl') rfl <| kC hM fun ck3 hM => Rs (Ls := []) 9 Bz ([]) (l'.length : Int) rfl rfl rfl rfl rfl rfl rfl rfl rfl rfl 8796093022208 rfl ck3 (fun _ _ _ _ _ => Iff.rfl) (fun s4 S5 H6 => ?_)
 refine rz rfl <| Aa fun K7 hK7 => Ai <| rn 1 rfl <| rL (RdN.shp hl') rfl <| rz rfl <| Aj <| Be _ (Sub.pick [S5] [0] rfl) <| AU (fun tt ll nn => ∃ (n9 : Nat) (s1_ : List (List UInt8)) (x2_ : Int), (EX N l' n9 s1_ x2_ = some r) ∧ ∃ (Ss1_ : List Bl), Sl 9 Bz s4 s1_ Ss1_ ∧ Is [(1, vF 243 #[] #[]), (5, s4), (11, l'v), (12, vI (l'.length : Int)), (13, vI x2_)] (List.flatten [Ss1_]) tt ll ∧ nn = n9 + 1) (N + 1) ?_ ?_
 ·exact ⟨N, (List.replicate ((l'.length : Int)).toNat ([])), 0, hM, S5, H6, Ak rfl rfl, rfl⟩
 clear hM; rintro t l _ ⟨n9, s1_, x2_, hM, Ss1_, hs1_, ⟨⟨T, rfl⟩, rfl⟩, rfl⟩
 rcases n9 with _ | n9
 ·exact absurd hM (by simp [EX])
 rw [EX] at hM
 refine AZ rfl <| Aa fun K11 hK11 => aD hM rfl (fun hc12 hM => ?_) (fun hc12 hM => ?_)
 ·refine Af <| hK11 _ _ ?_
  refine Aa fun K13 hK13 => Aj <| Ai <| rn 1 rfl <| kC hM fun ck15 hM => ?_
  obtain ⟨_, ⟨s16, s17, hs18, hs19, rfl⟩, hat20⟩ := RdN.at (E := Hk) hl' (CP ck15)
  refine rI (RdN.shp hl') ck15 rfl <| Mv (vA #[vS (l'[x2_.toNat]!.1), s16, s17]) (vs := [vS (l'[x2_.toNat]!.1), s16, s17]) (x2_.toNat * 3) 0 rfl rfl (fun o w z_ => At.mono z_.ro_cell hat20) rfl <| rA rfl fun b21 => rn 1 rfl <| r_s (List.flatten [(Vs b21 (l'[x2_.toNat]!.1) s16 s17), Ss1_]) 0 _ _ _ _ _ (#[vS (l'[x2_.toNat]!.1), s16, s17]) rfl rfl rfl rfl (.ofS rfl rfl (Ab rfl (Ab (Shp.one (Rd.shp hs18)) (Ab (Shp.one (Rd.shp hs19)) Bh)))) rfl rfl <| As <| A_regC [(some 22, false)] (conG prog [(22, cV (Gy N (l'[x2_.toNat]!.1) (l'[x2_.toNat]!.2.1) (l'[x2_.toNat]!.2.2)) fun u0_ => vS u0_)]) <| rm 4 [0] rfl <| kB hM fun r22 hr23 hM => rg _ (AO (caps := []) rfl fq rfl) (fun o w z_ => PQ N (l'[x2_.toNat]!.1) (l'[x2_.toNat]!.2.1) (l'[x2_.toNat]!.2.2) _ hr23 z_.view s16 (z_.r hs18) s17 (z_.r hs19)) (Ao hr23) <| kC hM fun ck24 hM => rI (Sl.shp hs1_) ck24 rfl <| Rr (Ls := [(Vs b21 (l'[x2_.toNat]!.1) s16 s17), Ss1_]) 1 (En := Bz) (s1_[x2_.toNat]!) r22 (x2_.toNat) 0 rfl rfl rfl hs1_ (CP ck24) rfl rfl rfl (HI rfl) rfl (fun S25 H26 => ?_)
  refine As <| hK13 _ _ ?_
  refine Ar <| kC hM fun ck27 hM => rX ck27 rfl <| rz rfl <| fg _ (Sub.pick [(Vs b21 (l'[x2_.toNat]!.1) s16 s17), S25] [1] rfl) ?_
  exact ⟨n9 + 1, by omega, n9, (s1_).set (x2_.toNat) r22, (x2_ + 1), hM, S25, H26, Ak rfl rfl, rfl⟩
 refine AS <| hK7 _ _ ?_
 refine AZ rfl ?_
 cases hM
 refine Au (fun hn => AG (v0 := s4) hs1_ (Aw (Sub.pick [Ss1_] [0] rfl)) rfl (AV rfl))
def Mm (N : Nat) (_ : Int) (w : Int) : Option Int := (Gr N w).bind fun r3 => some r3
theorem VI (N x w r) (hM : Mm N x w = some r) : Gives prog 307 #[vI x, vI w] (vI r) := by
 unfold Mm at hM
 refine Aq follows func307 rfl 7 rfl _ fz2 (fun base0_ => ?_)
 refine AZ rfl <| Ai <| rn 1 rfl <| kB hM fun r3 hr4 hM => rc _ (cF SP) (Md N w _ hr4) <| rz rfl ?_
 cases hM
 exact aR eE1
def HQ (N : Nat) (l' : List Int) : Nat → Int → Option (Int × Int)
  | 0, _ => none
  | n8 + 1, x1_ => if x1_ < (l'.length : Int) then ck (0 ≤ x1_ ∧ x1_ < (l'.length : Int)) ((Mm N x1_ (l'[x1_.toNat]!)).bind fun r16 => if (r16 : Int) ≠ 0 then some (x1_, r16) else ck (-9223372036854775808 ≤ (x1_ + 1) ∧ (x1_ + 1) ≤ 9223372036854775807) ((HQ N l' n8) (x1_ + 1))) else some (0, 0)
def KS (N : Nat) (l' : List Int) (most : Int) : Option (Int × Int) := if (l'.length : Int) > most then some (0, 2) else HQ N l' N 0
theorem WQ (N l' most r) (hM : KS N l' most = some r) (ro l'v) (hl' : Rd Bf ro l'v l') : Does prog 249 #[l'v, vI most, vF 307 #[] #[]] ro [] (pV (vT #[vI r.1, vI r.2])) := by
 unfold KS at hM
 refine Ac follows func249 rfl 31 rfl _ fz3 (fun base0_ => ?_)
 refine AZ rfl <| Aa fun K2 hK2 => Ai <| rn 1 rfl <| rL (Rd.shp hl') rfl <| rz rfl <| aD hM rfl (fun hc4 hM => ?_) (fun hc4 hM => ?_)
 ·refine AZ rfl ?_
  cases hM
  exact aR eV2
 refine Af <| hK2 _ _ ?_
 refine Aa fun K6 hK6 => Ai <| rn 1 rfl <| rL (Rd.shp hl') rfl <| rz rfl <| Aj <| AU (fun tt ll nn => ∃ (n8 : Nat) (x1_ : Int), (HQ N l' n8 x1_ = some r) ∧ Is [(2, vF 307 #[] #[]), (15, l'v), (16, vI (l'.length : Int)), (17, vI x1_)] [] tt ll ∧ nn = n8 + 1) (N + 1) ?_ ?_
 ·exact ⟨N, 0, hM, Ak rfl rfl, rfl⟩
 clear hM; rintro t l _ ⟨n8, x1_, hM, ⟨⟨T, rfl⟩, rfl⟩, rfl⟩
 rcases n8 with _ | n8
 ·exact absurd hM (by simp [HQ])
 rw [HQ] at hM
 refine AZ rfl <| Aa fun K10 hK10 => aD hM rfl (fun hc11 hM => ?_) (fun hc11 hM => ?_)
 ·refine Af <| hK10 _ _ ?_
  refine Aa fun K12 hK12 => Aj <| Ai <| rn 1 rfl <| kC hM fun ck14 hM => rI (Rd.shp hl') ck14 rfl <| rE (AA hl') ck14 0 rfl <| rz rfl <| Ai <| rn 3 rfl <| kB hM fun r16 hr17 hM => rc _ (AO (caps := []) rfl eA rfl) (VI N x1_ (l'[x1_.toNat]!) _ hr17) <| rz rfl <| AZ rfl <| aN hM rfl (fun hc19 hM => ?_) (fun hc19 hM => ?_)
  ·refine AZ rfl ?_
   cases hM
   exact aR eV2
  refine Af <| hK12 _ _ ?_
  refine Ar <| kC hM fun ck21 hM => rX ck21 rfl <| rz rfl <| fg _ (Sub.of suN) ?_
  exact ⟨n8 + 1, by omega, n8, (x1_ + 1), hM, Ak rfl rfl, rfl⟩
 refine AS <| hK6 _ _ ?_
 refine AZ rfl ?_
 cases hM
 exact aR eV2
def EN (_ : Nat) (n : Int) : Option (Int × Int) := ck (-9223372036854775808 ≤ (n - 1) ∧ (n - 1) ≤ 9223372036854775807) (some (0, (n - 1)))
theorem GA (N n r) (hM : EN N n = some r) : Gives prog 342 #[vI n] (vA #[vI r.1, vI r.2]) := by
 unfold EN at hM
 refine Aq follows func342 rfl 6 rfl _ fz1 (fun base0_ => ?_)
 refine Ai <| rA rfl fun b2 => As <| Ai <| rn 1 rfl <| kC hM fun ck4 hM => rX ck4 rfl <| r_W (vA #[vI 0, vI (n - 1)]) rfl (An rfl rfl rfl rfl) <| ry [0] rfl ?_
 cases hM
 refine Au (fun hn => Co (v0 := vA #[vI 0, vI (n - 1)]) rfl (AV (Bc hn 0 rfl rfl rfl)))
def Kw (N : Nat) (x_0 : Int) (x13_ : Bool) : Option (Int × Int × Int × Int) := if x13_ = true then some (0, 64, 0, 0) else if x_0 = 33 then (EN N 32).bind fun r49 => some (r49.1, r49.2, 0, 64) else some (0, 0, 0, 0)
def Kx (N : Nat) (x_0 : Int) (x11_ : Bool) : Option (Int × Int × Int × Int) := if x11_ = true then (EN N 16).bind fun r42 => some (r42.1, r42.2, 1, 4) else if x_0 = 31 then Kw N x_0 (x_0 == 31) else Kw N x_0 (x_0 == 32)
def Ky (N : Nat) (x_0 : Int) (x_1 : Int) (x9_ : Bool) : Option (Int × Int × Int × Int) := if x9_ = true then some (0, 128, 0, 0) else if x_0 = 10 then (EN N 128).bind fun r35 => some (r35.1, r35.2, 0, x_1) else if x_0 = 11 then some (1, 128, 0, 0) else if x_0 = 27 then Kx N x_0 (x_0 == 27) else Kx N x_0 (x_0 == 28)
def ID (N : Nat) (x_0 : Int) (x_1 : Int) (x7_ : Bool) : Option (Int × Int × Int × Int) := if x7_ = true then (EN N 8).bind fun r28 => some (r28.1, r28.2, 0, 0) else if x_0 = 8 then Ky N x_0 x_1 (x_0 == 8) else Ky N x_0 x_1 (x_0 == 9)
def JV (N : Nat) (x_0 : Int) (x_1 : Int) (x5_ : Bool) : Option (Int × Int × Int × Int) := if x5_ = true then (EN N 32).bind fun r24 => some (r24.1, r24.2, 0, 0) else if x_0 = 5 then ID N x_0 x_1 (x_0 == 5) else if x_0 = 24 then ID N x_0 x_1 (x_0 == 24) else if x_0 = 29 then ID N x_0 x_1 (x_0 == 29) else ID N x_0 x_1 (x_0 == 30)
def LP (N : Nat) (x_0 : Int) (x_1 : Int) (x3_ : Bool) : Option (Int × Int × Int × Int) := if x3_ = true then (EN N 24).bind fun r15 => some (r15.1, r15.2, 0, 0) else if x_0 = 3 then (EN N 8).bind fun r20 => some (r20.1, r20.2, 0, 0) else if x_0 = 4 then JV N x_0 x_1 (x_0 == 4) else if x_0 = 25 then JV N x_0 x_1 (x_0 == 25) else JV N x_0 x_1 (x_0 == 26)
def LR (N : Nat) (x_0 : Int) (x_1 : Int) (x1_ : Bool) : Option (Int × Int × Int × Int) := if x1_ = true then (EN N 32).bind fun r9 => (EN N 16).bind fun r11 => some (r9.1, r9.2, r11.1, r11.2) else if x_0 = 2 then LP N x_0 x_1 (x_0 == 2) else LP N x_0 x_1 (x_0 == 23)
def Kv (N : Nat) (x_0 : Int) (x_1 : Int) (_ : Int) (_ : Int) (_ : BitVec 128) : Option (Int × Int × Int × Int) := if x_0 = 1 then LR N x_0 x_1 (x_0 == 1) else LR N x_0 x_1 (x_0 == 22)
theorem cG (N x_0 x_1 x_2 x_3 x_4 r) (hM : Kv N x_0 x_1 x_2 x_3 x_4 = some r) : Gives prog 274 #[vA #[vI x_0, vI x_1, vI x_2, vI x_3, U (hi x_4), U (lo x_4)]] (vT #[vA #[vI r.1, vI r.2.1], vA #[vI r.2.2.1, vI r.2.2.2]]) := by
 unfold Kv at hM
 refine Aq follows func274 rfl 64 rfl _ fz1 (fun base0_ => ?_)
 refine Ai <| rA rfl fun b2 => rA rfl fun b3 => rA rfl fun b4 => As <| Aa fun K5 hK5 => AY [2] rfl <| Aj <| Cr (fun tt ll => ∃ (x1_ : Bool), (LR N x_0 x_1 x1_ = some r) ∧ Is [(1, vP b2 0), (2, vP b3 0), (3, vP b4 0), (5, vI x_0), (6, vB x1_)] [(b4, 360, #[vI 0, vI 0]), (b3, 360, #[vI 0, vI 0]), (b2, 56, #[vI x_0, vI x_1, vI x_2, vI x_3, U (hi x_4), U (lo x_4)])] tt ll) ?_ ?_
 ·refine AZ rfl <| aE hM rfl (fun hc71 hM => ?_) (fun hc71 hM => ?_)
  ·refine Af <| fg _ (Sub.of (suK _ (suK _ (suK _ suN)))) ?_
   exact ⟨(x_0 == 1), hM, Ak rfl rfl⟩
  refine Ar <| rz rfl <| fg _ (Sub.of (suK _ (suK _ (suK _ suN)))) ?_
  exact ⟨(x_0 == 22), hM, Ak rfl rfl⟩
 clear hM; rintro t l ⟨x1_, hM, ⟨T, rfl⟩, rfl⟩
 unfold LR at hM
 refine aB hM rfl (fun hc7 hM => ?_) (fun hc7 hM => ?_)
 ·refine Ai <| kB hM fun r9 hr10 hM => rc _ (cF Ip) (GA N 32 _ hr10) <| kB hM fun r11 hr12 hM => rc _ (cF Ip) (GA N 16 _ hr12) <| ry [1, 0] rfl ?_
  cases hM
  refine Au (fun hn => Co (v0 := vT #[vA #[vI r9.1, vI r9.2], vA #[vI r11.1, vI r11.2]]) rfl (JF (Bc hn 1 rfl rfl rfl) (Bc hn 0 rfl rfl rfl)))
 refine Cr (fun tt ll => ∃ (x3_ : Bool), (LP N x_0 x_1 x3_ = some r) ∧ Is [(1, vP b2 0), (2, vP b3 0), (3, vP b4 0), (5, vI x_0), (11, vB x3_)] [(b4, 360, #[vI 0, vI 0]), (b3, 360, #[vI 0, vI 0]), (b2, 56, #[vI x_0, vI x_1, vI x_2, vI x_3, U (hi x_4), U (lo x_4)])] tt ll) ?_ ?_
 ·refine AZ rfl <| aE hM rfl (fun hc69 hM => ?_) (fun hc69 hM => ?_)
  ·refine Af <| fg _ (Sub.of (suK _ (suK _ (suK _ suN)))) ?_
   exact ⟨(x_0 == 2), hM, Ak rfl rfl⟩
  refine Ar <| rz rfl <| fg _ (Sub.of (suK _ (suK _ (suK _ suN)))) ?_
  exact ⟨(x_0 == 23), hM, Ak rfl rfl⟩
 clear hM; rintro t l ⟨x3_, hM, ⟨T, rfl⟩, rfl⟩
 unfold LP at hM
 refine aB hM rfl (fun hc13 hM => ?_) (fun hc13 hM => ?_)
 ·refine Ai <| kB hM fun r15 hr16 hM => rc _ (cF Ip) (GA N 24 _ hr16) <| r_W (vA #[vI 0, vI 0]) rfl (An rfl rfl rfl rfl) <| ry [1, 0] rfl ?_
  cases hM
  refine Au (fun hn => Co (v0 := vT #[vA #[vI r15.1, vI r15.2], vA #[vI 0, vI 0]]) rfl (JF (Bc hn 1 rfl rfl rfl) (Bc hn 0 rfl rfl rfl)))
 refine AZ rfl <| aE hM rfl (fun hc18 hM => ?_) (fun hc18 hM => ?_)
 ·refine Ai <| kB hM fun r20 hr21 hM => rc _ (cF Ip) (GA N 8 _ hr21) <| r_W (vA #[vI 0, vI 0]) rfl (An rfl rfl rfl rfl) <| ry [1, 0] rfl ?_
  cases hM
  refine Au (fun hn => Co (v0 := vT #[vA #[vI r20.1, vI r20.2], vA #[vI 0, vI 0]]) rfl (JF (Bc hn 1 rfl rfl rfl) (Bc hn 0 rfl rfl rfl)))
 refine Cr (fun tt ll => ∃ (x5_ : Bool), (JV N x_0 x_1 x5_ = some r) ∧ Is [(1, vP b2 0), (2, vP b3 0), (3, vP b4 0), (5, vI x_0), (20, vB x5_)] [(b4, 360, #[vI 0, vI 0]), (b3, 360, #[vI 0, vI 0]), (b2, 56, #[vI x_0, vI x_1, vI x_2, vI x_3, U (hi x_4), U (lo x_4)])] tt ll) ?_ ?_
 ·refine AZ rfl <| aE hM rfl (fun hc65 hM => ?_) (fun hc65 hM => ?_)
  ·refine Af <| fg _ (Sub.of (suK _ (suK _ (suK _ suN)))) ?_
   exact ⟨(x_0 == 4), hM, Ak rfl rfl⟩
  refine AZ rfl <| aE hM rfl (fun hc67 hM => ?_) (fun hc67 hM => ?_)
  ·refine Af <| fg _ (Sub.of (suK _ (suK _ (suK _ suN)))) ?_
   exact ⟨(x_0 == 25), hM, Ak rfl rfl⟩
  refine Ar <| rz rfl <| fg _ (Sub.of (suK _ (suK _ (suK _ suN)))) ?_
  exact ⟨(x_0 == 26), hM, Ak rfl rfl⟩
 clear hM; rintro t l ⟨x5_, hM, ⟨T, rfl⟩, rfl⟩
 unfold JV at hM
 refine aB hM rfl (fun hc22 hM => ?_) (fun hc22 hM => ?_)
 ·refine Ai <| kB hM fun r24 hr25 hM => rc _ (cF Ip) (GA N 32 _ hr25) <| r_W (vA #[vI 0, vI 0]) rfl (An rfl rfl rfl rfl) <| ry [1, 0] rfl ?_
  cases hM
  refine Au (fun hn => Co (v0 := vT #[vA #[vI r24.1, vI r24.2], vA #[vI 0, vI 0]]) rfl (JF (Bc hn 1 rfl rfl rfl) (Bc hn 0 rfl rfl rfl)))
 refine Cr (fun tt ll => ∃ (x7_ : Bool), (ID N x_0 x_1 x7_ = some r) ∧ Is [(1, vP b2 0), (2, vP b3 0), (3, vP b4 0), (5, vI x_0), (26, vB x7_)] [(b4, 360, #[vI 0, vI 0]), (b3, 360, #[vI 0, vI 0]), (b2, 56, #[vI x_0, vI x_1, vI x_2, vI x_3, U (hi x_4), U (lo x_4)])] tt ll) ?_ ?_
 ·refine AZ rfl <| aE hM rfl (fun hc59 hM => ?_) (fun hc59 hM => ?_)
  ·refine Af <| fg _ (Sub.of (suK _ (suK _ (suK _ suN)))) ?_
   exact ⟨(x_0 == 5), hM, Ak rfl rfl⟩
  refine AZ rfl <| aE hM rfl (fun hc61 hM => ?_) (fun hc61 hM => ?_)
  ·refine Af <| fg _ (Sub.of (suK _ (suK _ (suK _ suN)))) ?_
   exact ⟨(x_0 == 24), hM, Ak rfl rfl⟩
  refine AZ rfl <| aE hM rfl (fun hc63 hM => ?_) (fun hc63 hM => ?_)
  ·refine Af <| fg _ (Sub.of (suK _ (suK _ (suK _ suN)))) ?_
   exact ⟨(x_0 == 29), hM, Ak rfl rfl⟩
  refine Ar <| rz rfl <| fg _ (Sub.of (suK _ (suK _ (suK _ suN)))) ?_
  exact ⟨(x_0 == 30), hM, Ak rfl rfl⟩
 clear hM; rintro t l ⟨x7_, hM, ⟨T, rfl⟩, rfl⟩
 unfold ID at hM
 refine aB hM rfl (fun hc26 hM => ?_) (fun hc26 hM => ?_)
 ·refine Ai <| kB hM fun r28 hr29 hM => rc _ (cF Ip) (GA N 8 _ hr29) <| r_W (vA #[vI 0, vI 0]) rfl (An rfl rfl rfl rfl) <| ry [1, 0] rfl ?_
  cases hM
  refine Au (fun hn => Co (v0 := vT #[vA #[vI r28.1, vI r28.2], vA #[vI 0, vI 0]]) rfl (JF (Bc hn 1 rfl rfl rfl) (Bc hn 0 rfl rfl rfl)))
 refine Cr (fun tt ll => ∃ (x9_ : Bool), (Ky N x_0 x_1 x9_ = some r) ∧ Is [(1, vP b2 0), (2, vP b3 0), (3, vP b4 0), (5, vI x_0), (33, vB x9_)] [(b4, 360, #[vI 0, vI 0]), (b3, 360, #[vI 0, vI 0]), (b2, 56, #[vI x_0, vI x_1, vI x_2, vI x_3, U (hi x_4), U (lo x_4)])] tt ll) ?_ ?_
 ·refine AZ rfl <| aE hM rfl (fun hc57 hM => ?_) (fun hc57 hM => ?_)
  ·refine Af <| fg _ (Sub.of (suK _ (suK _ (suK _ suN)))) ?_
   exact ⟨(x_0 == 8), hM, Ak rfl rfl⟩
  refine Ar <| rz rfl <| fg _ (Sub.of (suK _ (suK _ (suK _ suN)))) ?_
  exact ⟨(x_0 == 9), hM, Ak rfl rfl⟩
 clear hM; rintro t l ⟨x9_, hM, ⟨T, rfl⟩, rfl⟩
 unfold Ky at hM
 refine aB hM rfl (fun hc30 hM => ?_) (fun hc30 hM => ?_)
 ·refine Ai <| r_W (vA #[vI 0, vI 128]) rfl (An rfl rfl rfl rfl) <| r_W (vA #[vI 0, vI 0]) rfl (An rfl rfl rfl rfl) <| ry [1, 0] rfl ?_
  cases hM
  refine Au (fun hn => Co (v0 := vT #[vA #[vI 0, vI 128], vA #[vI 0, vI 0]]) rfl (JF (Bc hn 1 rfl rfl rfl) (Bc hn 0 rfl rfl rfl)))
 refine AZ rfl <| aE hM rfl (fun hc33 hM => ?_) (fun hc33 hM => ?_)
 ·refine Aa fun K34 hK34 => Wf (Ls := [(Uy b4 0 0), (Uy b3 0 0), (ca b2 x_0 x_1 x_2 x_3 (hi x_4) (lo x_4))]) [(some 1000000000, true)] [] [1, 0] [2] [] (by decide +kernel) (fun hn => Ba) (by decide +kernel) rfl trivial (fun hnb_ => ?_)
  refine kB hM fun r35 hr36 hM => rc _ (cF Ip) (GA N 128 _ hr36) <| rn 1 rfl <| YB (vI x_1) 2 _ _ _ _ rfl rfl rfl rfl rfl (hnb_ b2 (List.mem_of_getElem? (i := 0) rfl)) <| r_W (vA #[vI 0, vI x_1]) rfl (An rfl rfl rfl rfl) <| lB [(b4, 360, #[vI 0, vI 0]), (b3, 360, #[vI r35.1, vI r35.2]), (b2, 56, #[vI x_0, vI x_1, vI x_2, vI x_3, U (hi x_4), U (lo x_4)])] 1 _ _ _ (#[vI 0, vI 0]) (#[vI r35.1, vI r35.2]) (#[vI r35.1, vI r35.2]) rfl rfl rfl rfl (.of rfl rfl) rfl rfl (List.mem_of_getElem? (i := 0) rfl) ?_
  refine lB [(b4, 360, #[vI 0, vI x_1]), (b3, 360, #[vI r35.1, vI r35.2]), (b2, 56, #[vI x_0, vI x_1, vI x_2, vI x_3, U (hi x_4), U (lo x_4)])] 0 _ _ _ (#[vI 0, vI 0]) (#[vI 0, vI x_1]) (#[vI 0, vI x_1]) rfl rfl rfl rfl (.of rfl rfl) rfl rfl (List.mem_of_getElem? (i := 1) rfl) <| As <| hK34 _ _ ?_
  cases hM
  refine Au (fun hn => Co (v0 := vT #[vA #[vI r35.1, vI r35.2], vA #[vI 0, vI x_1]]) rfl (JF (Bc hn 1 rfl rfl rfl) (Bc hn 0 rfl rfl rfl)))
 refine AZ rfl <| aE hM rfl (fun hc38 hM => ?_) (fun hc38 hM => ?_)
 ·refine Ai <| r_W (vA #[vI 1, vI 128]) rfl (An rfl rfl rfl rfl) <| r_W (vA #[vI 0, vI 0]) rfl (An rfl rfl rfl rfl) <| ry [1, 0] rfl ?_
  cases hM
  refine Au (fun hn => Co (v0 := vT #[vA #[vI 1, vI 128], vA #[vI 0, vI 0]]) rfl (JF (Bc hn 1 rfl rfl rfl) (Bc hn 0 rfl rfl rfl)))
 refine Cr (fun tt ll => ∃ (x11_ : Bool), (Kx N x_0 x11_ = some r) ∧ Is [(2, vP b3 0), (3, vP b4 0), (5, vI x_0), (48, vB x11_)] [(b4, 360, #[vI 0, vI 0]), (b3, 360, #[vI 0, vI 0])] tt ll) ?_ ?_
 ·refine AZ rfl <| aE hM rfl (fun hc55 hM => ?_) (fun hc55 hM => ?_)
  ·refine Af <| fg _ (Sub.of (suK _ (suK _ (suC _ suN)))) ?_
   exact ⟨(x_0 == 27), hM, Ak rfl rfl⟩
  refine Ar <| rz rfl <| fg _ (Sub.of (suK _ (suK _ (suC _ suN)))) ?_
  exact ⟨(x_0 == 28), hM, Ak rfl rfl⟩
 clear hM; rintro t l ⟨x11_, hM, ⟨T, rfl⟩, rfl⟩
 unfold Kx at hM
 refine aB hM rfl (fun hc40 hM => ?_) (fun hc40 hM => ?_)
 ·refine Ai <| kB hM fun r42 hr43 hM => rc _ (cF Ip) (GA N 16 _ hr43) <| r_W (vA #[vI 1, vI 4]) rfl (An rfl rfl rfl rfl) <| ry [1, 0] rfl ?_
  cases hM
  refine Au (fun hn => Co (v0 := vT #[vA #[vI r42.1, vI r42.2], vA #[vI 1, vI 4]]) rfl (JF (Bc hn 1 rfl rfl rfl) (Bc hn 0 rfl rfl rfl)))
 refine Cr (fun tt ll => ∃ (x13_ : Bool), (Kw N x_0 x13_ = some r) ∧ Is [(2, vP b3 0), (3, vP b4 0), (5, vI x_0), (53, vB x13_)] [(b4, 360, #[vI 0, vI 0]), (b3, 360, #[vI 0, vI 0])] tt ll) ?_ ?_
 ·refine AZ rfl <| aE hM rfl (fun hc53 hM => ?_) (fun hc53 hM => ?_)
  ·refine Af <| fg _ (Sub.of (suK _ (suK _ suN))) ?_
   exact ⟨(x_0 == 31), hM, Ak rfl rfl⟩
  refine Ar <| rz rfl <| fg _ (Sub.of (suK _ (suK _ suN))) ?_
  exact ⟨(x_0 == 32), hM, Ak rfl rfl⟩
 clear hM; rintro t l ⟨x13_, hM, ⟨T, rfl⟩, rfl⟩
 unfold Kw at hM
 refine aB hM rfl (fun hc44 hM => ?_) (fun hc44 hM => ?_)
 ·refine Ai <| r_W (vA #[vI 0, vI 64]) rfl (An rfl rfl rfl rfl) <| r_W (vA #[vI 0, vI 0]) rfl (An rfl rfl rfl rfl) <| ry [1, 0] rfl ?_
  cases hM
  refine Au (fun hn => Co (v0 := vT #[vA #[vI 0, vI 64], vA #[vI 0, vI 0]]) rfl (JF (Bc hn 1 rfl rfl rfl) (Bc hn 0 rfl rfl rfl)))
 refine AZ rfl <| aE hM rfl (fun hc47 hM => ?_) (fun hc47 hM => ?_)
 ·refine Ai <| kB hM fun r49 hr50 hM => rc _ (cF Ip) (GA N 32 _ hr50) <| r_W (vA #[vI 0, vI 64]) rfl (An rfl rfl rfl rfl) <| ry [1, 0] rfl ?_
  cases hM
  refine Au (fun hn => Co (v0 := vT #[vA #[vI r49.1, vI r49.2], vA #[vI 0, vI 64]]) rfl (JF (Bc hn 1 rfl rfl rfl) (Bc hn 0 rfl rfl rfl)))
 refine Af <| hK5 _ _ ?_
 refine Ai <| r_W (vA #[vI 0, vI 0]) rfl (An rfl rfl rfl rfl) <| r_W (vA #[vI 0, vI 0]) rfl (An rfl rfl rfl rfl) <| ry [1, 0] rfl ?_
 cases hM
 refine Au (fun hn => Co (v0 := vT #[vA #[vI 0, vI 0], vA #[vI 0, vI 0]]) rfl (JF (Bc hn 1 rfl rfl rfl) (Bc hn 0 rfl rfl rfl)))
end Go.Proofs.YthafnifhhblkbaaGreatDoor
