import Derived.Test.YtjmdbbnnpmmpiaaGreatDoorBb
namespace Go.Proofs.YtjmdbbnnpmmpiaaGreatDoor
open Go Go.RowKit Go.Eng _root_.Go.Proofs.Tryz
set_option maxRecDepth 100000
set_option maxHeartbeats 8000000
abbrev MG (b : Nat) (x0 : Value) : List Bl := [(b, 81, #[x0])]
abbrev Uw (b : Nat) (x0 : Value) : List Bl := [(b, 23, #[x0])]
abbrev Lb (b : Nat) (x0 : List UInt8) (x1 : Int) (x2 : Int) : List Bl := [(b, 84, #[vS x0, vI x1, vI x2])]
abbrev JJ (b : Nat) (x0 : List UInt8) (x1 : Int) : List Bl := [(b, 50, #[vS x0, vI x1])]
abbrev Nq (b : Nat) (x0 : Value) : List Bl := [(b, 194, #[x0])]
abbrev Qo (b : Nat) (x0 : List UInt8) (x1 : Value) (x2 : Value) (x3 : Value) (x4 : Int) : List Bl := [(b, 64, #[vS x0, x1, x2, x3, vI x4])]
abbrev WU (b : Nat) (x0 : Int) (x1 : Int) : List Bl := [(b, 164, #[vI x0, vI x1])]
abbrev FT (b : Nat) (x0 : Value) (x1 : Value) (x2 : Int) (x3 : Int) (x4 : Int) (x5 : Int) : List Bl := [(b, 48, #[x0, x1, vI x2, vI x3, vI x4, vI x5])]
abbrev Cx (b : Nat) (x0 : List UInt8) (x1 : Value) (x2 : Int) (x3 : Int) (x4 : Int) (x5 : Int) : List Bl := [(b, 48, #[vS x0, x1, vI x2, vI x3, vI x4, vI x5])]
abbrev Uu (b : Nat) (x0 : Value) : List Bl := [(b, 61, #[x0])]
abbrev Uv (b : Nat) (x0 : Int) : List Bl := [(b, 3, #[vI x0])]
def Cr (N : Nat) (c : Al) : Option (Int × Int) := (EX N c.2.1).bind fun r4 => (EY N c.2.1 16 r4).bind fun r11 => some (r11.1, r11.2)
theorem NJ (N : Nat) (c : Al) (r) (hM : Cr N c = some r) (ro : Ro) (cv : AP) (hc : Bun35R ro cv c) : Does prog 64 #[vA (Ac c cv)] ro [] (pV (vT #[vI r.1, vI r.2])) := by
 unfold Cr at hM
 refine Aq follows func64 rfl 16 rfl _ fz1 (fun base0_ => ?_)
 refine Ad <| r_a (92, (Ac c cv)) rfl rfl rfl (fun b2 => ?_) (.inr rfl)
 refine r_R [vI 0, vI 0] rfl <| Aa <| AL [(some 8, false)] (conG prog [(8, fun _ _ v_ L_ U_ => ∀ u0_, EX N c.2.1 = some u0_ → (p1 (fun s_ => s_) 9 encS u0_) v_ L_ U_)]) <| r_R [vP b2 0, vP b2 1] rfl <| rl cv.1 0 ?_
 obtain ⟨r4, hr5, hM⟩ := Ab hM
 refine Iy (Ls := [[(b2, 92, (Ac c cv))]]) (fun s6 => s6) 9 encS r4 111 _ rfl rfl rfl (cF al) (fun o w z_ => NA N c.2.1 _ hr5 z_.view cv.1 (RdN.mono z_.ro_cell hc.1)) (AF hr5) (fun s6 S7 H8 => ?_)
 refine r_a (81, #[nS]) rfl rfl rfl (fun b9 => ?_) (.inr rfl)
 refine r_s (List.flatten [(MG b9 s6), [(b2, 92, (Ac c cv))], S7]) 0 _ _ _ _ _ (#[s6]) rfl rfl rfl (Du rfl (Sl.shp H8)) (.ofS rfl rfl (Ao (Shp.one (Sl.shp H8)) Bi)) rfl rfl <| Aa <| AL [(some 13, false)] (conG prog [(13, cV (EY N c.2.1 16 r4) fun u0_ => vT #[vI u0_.1, vI u0_.2])]) <| r_R [vP b2 0, vP b2 1] rfl <| rl cv.1 1 <| r_W (vF 114 #[] #[vP b9 0]) rfl (DV rfl) ?_
 obtain ⟨r11, hr12, hM⟩ := Ab hM
 refine rg (vT #[vI r11.1, vI r11.2]) (cF aj) (fun o w z_ => NC N c.2.1 16 r4 _ hr12 z_.view cv.1 (RdN.mono z_.ro_cell hc.1) b9 s6 ((AN H8 (Aw (Ls := [(MG b9 s6), [(b2, 92, (Ac c cv))], S7]) (k := 2) rfl rfl)) o w z_) (Bq 0 rfl rfl o w z_)) (AF hr12) <| r_R [vI r11.1, vI r11.2, vI r11.1, vI r11.2] rfl <| Aa ?_
 cases hM
 exact aR eV2
def CO (_ : Nat) (i : Int) (c1_ : List (List UInt8 × Int × Int)) : Option (List UInt8) := ck (0 ≤ i ∧ i < (c1_.length : Int)) (some ((c1_[i.toNat]!).1))
theorem Ks (N : Nat) (i : Int) (c1_ : List (List UInt8 × Int × Int)) (r) (hM : CO N i c1_ = some r) (ro : Ro) (bc1_ : Nat) (c1_v : Value) (hc1_ : Rd enc_84 ro c1_v c1_) (hbc1_ : Blk ro bc1_ [c1_v]) : Does prog 238 #[vI i, vP bc1_ 0] ro [] (pV (vS r)) := by
 unfold CO at hM
 refine Aq follows func238 rfl 9 rfl _ fz2 (fun base0_ => ?_)
 refine Ad <| r_V (Value.string (⟨#[]⟩)) rfl <| Aa <| Ad <| CR c1_v (vs := [c1_v]) (o := 0) rfl rfl (AK hbc1_) rfl <| r_V (vI i) rfl ?_
 obtain ⟨ck3, hM⟩ := Ae hM
 refine r_W (elA c1_v (i.toNat * 3)) rfl (AD (An rfl rfl rfl (Rd.shp hc1_) ck3)) <| r_W (elA c1_v (i.toNat * 3 + 0)) rfl (AD (AH rfl rfl rfl rfl rfl rfl (Rd.shp hc1_) (AY ck3))) <| Bw (vS ((c1_[i.toNat]!).1)) (En := enc_84) (c1_[i.toNat]!) (i.toNat) 0 rfl rfl (Av hc1_) (AA ck3) rfl <| r_V (vS ((c1_[i.toNat]!).1)) rfl <| Aa ?_
 cases hM
 exact aR eV1
def BW (N : Nat) (count : Int) (at0_ : List (List UInt8 × Int × Int)) : Nat → List (List UInt8) → Int → Option (List (List UInt8))
  | 0, _, _ => none
  | n9 + 1, s1_, x2_ => if x2_ < count then (CO N x2_ at0_).bind fun r15 => ck (0 ≤ x2_ ∧ x2_ < (s1_.length : Int)) (ck (-9223372036854775808 ≤ (x2_ + 1) ∧ (x2_ + 1) ≤ 9223372036854775807) ((BW N count at0_ n9) ((s1_).set (x2_.toNat) r15) (x2_ + 1))) else some s1_
def FD (N : Nat) (count : Int) (at0_ : List (List UInt8 × Int × Int)) : Option (List (List UInt8)) := ck (0 ≤ count ∧ count ≤ 8796093022208) (BW N count at0_ N (List.replicate count.toNat ([])) 0)
theorem Ox (N : Nat) (count : Int) (at0_ : List (List UInt8 × Int × Int)) (r) (hM : FD N count at0_ = some r) (ro : Ro) (bat0_ : Nat) (at0_v : Value) (hat0_ : Rd enc_84 ro at0_v at0_) (hbat0_ : Blk ro bat0_ [at0_v]) : Does prog 237 #[vI count, vF 238 #[] #[vP bat0_ 0]] ro [] (p1 (fun s_ => s_) 9 encS r) := by
 unfold FD at hM
 refine Aq follows func237 rfl 21 rfl _ fz2 (fun base0_ => ?_)
 refine Ad <| r_V nS rfl <| Aa <| AL [(some 8, false)] (conG prog [(8, fun _ _ v_ L_ U_ => (p1 (fun v => v) 9 encS (List.replicate count.toNat ([]))) v_ L_ U_)]) <| r_V (vI count) rfl ?_
 obtain ⟨ck3, hM⟩ := Ae hM
 refine MW (Ls := []) 9 encS ([]) count rfl rfl rfl rfl rfl rfl rfl rfl rfl rfl 8796093022208 rfl ck3 (fun _ _ _ _ _ => Iff.rfl) (fun s4 S5 H6 => ?_)
 refine r_V s4 rfl <| Aa <| Ai fun K7 hK7 => Ad <| r_R [vI count, vI 0] rfl <| Aa <| Ap <| BF _ (Sub.pick [S5] [0] rfl) <| AS (fun tt ll nn => ∃ (n9 : Nat) (s1_ : List (List UInt8)) (x2_ : Int), (BW N count at0_ n9 s1_ x2_ = some r) ∧ ∃ (Ss1_ : List Bl), Sl 9 encS s4 s1_ Ss1_ ∧ Is [(1, vF 238 #[] #[vP bat0_ 0]), (5, s4), (9, vI count), (10, vI x2_)] (List.flatten [Ss1_]) tt ll ∧ nn = n9 + 1) (N + 1) ?_ ?_
 ·exact ⟨N, (List.replicate count.toNat ([])), 0, hM, S5, H6, Ak rfl rfl, rfl⟩
 clear hM; rintro t l _ ⟨n9, s1_, x2_, hM, Ss1_, hs1_, ⟨⟨T, rfl⟩, rfl⟩, rfl⟩
 rcases n9 with _ | n9
 ·exact absurd hM (by simp [BW])
 rw [BW] at hM
 refine Ad <| r_V (vB (decide (x2_ < count))) rfl <| Aa <| Ai fun K11 hK11 => Af _ rfl (fun hc12 => ?_) (fun hc12 => ?_)
 ·replace hM := iD hc12 hM
  refine Ah <| hK11 _ _ ?_
  refine Ai fun K13 hK13 => Ap <| Ad <| r_R [vI x2_, vI x2_] rfl <| Aa <| BB [(some 17, false)] (conG prog [(17, cV (CO N x2_ at0_) fun u0_ => vS u0_)]) <| r_R [s4, vI x2_, vF 238 #[] #[vP bat0_ 0], vI x2_] rfl ?_
  obtain ⟨r15, hr16, hM⟩ := Ab hM
  refine rg (vS r15) (AX (caps := [vP bat0_ 0]) rfl YJ rfl) (fun o w z_ => Ks N x2_ at0_ _ hr16 z_.view bat0_ at0_v ((Av hat0_) o w z_) (AK hbat0_ o w z_)) (AF hr16) ?_
  obtain ⟨ck17, hM⟩ := Ae hM
  refine r_W (elA s4 (x2_.toNat * 1)) rfl (AD (An rfl rfl rfl (Sl.shp hs1_) ck17)) <| MV (Ls := [Ss1_]) 0 (En := encS) (s1_[x2_.toNat]!) r15 (x2_.toNat) 0 rfl rfl rfl hs1_ (AA ck17) rfl rfl rfl (Gr rfl) rfl (fun S18 H19 => ?_)
  refine Aa <| hK13 _ _ ?_
  refine Ax ?_
  obtain ⟨ck20, hM⟩ := Ae hM
  refine r_X (vI (x2_ + 1)) rfl (AR rfl ck20.1 ck20.2) rfl <| r_V (vI (x2_ + 1)) rfl <| Aa <| fg _ (Sub.pick [S18] [0] rfl) ?_
  exact ⟨n9 + 1, by omega, n9, (s1_).set (x2_.toNat) r15, (x2_ + 1), hM, S18, H19, Ak rfl rfl, rfl⟩
 replace hM := iF hc12 hM
 refine AM <| hK7 _ _ ?_
 refine Ad <| r_R [s4, s4] rfl <| Aa ?_
 cases hM
 refine AW (fun hn => Ex (v0 := s4) hs1_ (Cv (Sub.pick [Ss1_] [0] rfl)) rfl (Cy rfl))
def Ez (N : Nat) (l' : List (List UInt8 × Int × Int)) : Option (List (List UInt8)) := (FD N (l'.length : Int) l').bind fun r4 => some r4
theorem Ow (N : Nat) (l' : List (List UInt8 × Int × Int)) (r) (hM : Ez N l' = some r) (ro : Ro) (l'v : Value) (hl' : Rd enc_84 ro l'v l') : Does prog 169 #[l'v] ro [] (p1 (fun s_ => s_) 9 encS r) := by
 unfold Ez at hM
 refine Aq follows func169 rfl 7 rfl _ fz1 (fun base0_ => ?_)
 refine Ad <| r_a (23, #[l'v]) rfl rfl (HW rfl (Rd.shp hl')) (fun b2 => ?_) (.inr rfl)
 refine r_V nS rfl <| Aa <| AL [(some 6, false)] (conG prog [(6, fun _ _ v_ L_ U_ => ∀ u0_, FD N (l'.length : Int) l' = some u0_ → (p1 (fun s_ => s_) 9 encS u0_) v_ L_ U_)]) <| rl l'v 0 <| r_W (vI (l'.length : Int)) rfl (Aj rfl rfl rfl (Rd.shp hl')) <| r_W (vF 238 #[] #[vP b2 0]) rfl (DV rfl) ?_
 obtain ⟨r4, hr5, hM⟩ := Ab hM
 refine Iy (Ls := [(Uw b2 l'v)]) (fun s6 => s6) 9 encS r4 237 _ rfl rfl rfl (cF Sy) (fun o w z_ => Ox N (l'.length : Int) l' _ hr5 z_.view b2 l'v ((Av hl') o w z_) (Bq 0 rfl rfl o w z_)) (AF hr5) (fun s6 S7 H8 => ?_)
 refine r_V s6 rfl <| Aa ?_
 cases hM
 refine AW (fun hn => Ex (v0 := s6) H8 (Cv (Sub.pick [(Uw b2 l'v), S7] [1] rfl)) rfl (Cy rfl))
def Ff (N : Nat) (_ : List UInt8) (_ : Int) (x_2 : Int) : Option Bool := (BV N x_2 0 4).bind fun r4 => some r4
theorem KI (N : Nat) (x_0 : List UInt8) (x_1 x_2 : Int) (r) (hM : Ff N x_0 x_1 x_2 = some r) : Gives prog 171 #[vA #[vS x_0, vI x_1, vI x_2]] (vB r) := by
 unfold Ff at hM
 refine AC follows func171 rfl 6 rfl _ fz1 (fun base0_ => ?_)
 refine Ad <| r_a (84, #[vS x_0, vI x_1, vI x_2]) rfl rfl rfl (fun b2 => ?_) (.inr rfl)
 refine r_V (vB false) rfl <| Aa <| Ad <| r_V (vP b2 2) rfl <| rl (vI x_2) 0 ?_
 obtain ⟨r4, hr5, hM⟩ := Ab hM
 refine rc (vB r4) (cF FO) (Dv N x_2 0 4 _ hr5) <| r_V (vB r4) rfl <| Aa ?_
 cases hM
 exact aR eE1
def EO (N : Nat) (x_0 : List UInt8) (x_1 : Int) (x_2 : Int) : Option Int := (Ff N x_0 x_1 x_2).bind fun r5 => if r5 = true then some (max x_2 1) else some 0
theorem Jk (N : Nat) (x_0 : List UInt8) (x_1 x_2 r : Int) (hM : EO N x_0 x_1 x_2 = some r) : Gives prog 229 #[vA #[vS x_0, vI x_1, vI x_2]] (vI r) := by
 unfold EO at hM
 refine AC follows func229 rfl 9 rfl _ fz1 (fun base0_ => ?_)
 refine Ad <| r_a (84, #[vS x_0, vI x_1, vI x_2]) rfl rfl rfl (fun b2 => ?_) (.inr rfl)
 refine r_V (vI 0) rfl <| Aa <| Ai fun K3 hK3 => Ad <| rl (vA #[vS x_0, vI x_1, vI x_2]) 0 ?_
 obtain ⟨r5, hr6, hM⟩ := Ab hM
 refine rc (vB r5) (cF SG) (KI N x_0 x_1 x_2 _ hr6) <| r_V (vB (!(r5))) rfl <| Aa <| Af _ rfl (fun hc7 => ?_) (fun hc7 => ?_)
 ·replace hM := ifn (Bool.eq_false_iff.1 (CZ hc7)) hM
  refine Ad <| r_V (vI 0) rfl <| Aa ?_
  cases hM
  exact aR eE1
 replace hM := ifp (Da hc7) hM
 refine Ah <| hK3 _ _ ?_
 refine Ad <| r_V (vP b2 2) rfl <| rl (vI x_2) 0 <| r_W (vI (max x_2 1)) rfl (eE rfl rfl) <| r_V (vI (max x_2 1)) rfl <| Aa ?_
 cases hM
 exact aR eE1
def EP (N : Nat) (l' : List (List UInt8 × Int × Int)) : Nat → Int → Int → Option Int
  | 0, _, _ => none
  | n5 + 1, n1_, x2_ => if x2_ < (l'.length : Int) then ck (0 ≤ x2_ ∧ x2_ < (l'.length : Int)) ((EO N ((l'[x2_.toNat]!).1) ((l'[x2_.toNat]!).2.1) ((l'[x2_.toNat]!).2.2)).bind fun r13 => ck (-9223372036854775808 ≤ (n1_ + r13) ∧ (n1_ + r13) ≤ 9223372036854775807) (ck (-9223372036854775808 ≤ (x2_ + 1) ∧ (x2_ + 1) ≤ 9223372036854775807) ((EP N l' n5) (n1_ + r13) (x2_ + 1)))) else some n1_
def GE (N : Nat) (l' : List (List UInt8 × Int × Int)) : Option Int := EP N l' N 0 0
theorem Pn (N : Nat) (l' : List (List UInt8 × Int × Int)) (r) (hM : GE N l' = some r) (ro : Ro) (l'v : Value) (hl' : Rd enc_84 ro l'v l') : Does prog 172 #[l'v] ro [] (pV (vI r)) := by
 unfold GE at hM
 refine Aq follows func172 rfl 18 rfl _ fz1 (fun base0_ => ?_)
 refine Ad <| r_V (vI 0) rfl <| Aa <| Ad <| r_V (vI 0) rfl <| Aa <| Ai fun K3 hK3 => Ad <| r_V l'v rfl <| r_W (vI (l'.length : Int)) rfl (Aj rfl rfl rfl (Rd.shp hl')) <| r_V (vI 0) rfl <| Aa <| Ap <| AS (fun tt ll nn => ∃ (n5 : Nat) (n1_ : Int) (x2_ : Int), (EP N l' n5 n1_ x2_ = some r) ∧ Is [(3, vI n1_), (6, l'v), (7, vI (l'.length : Int)), (8, vI x2_)] [] tt ll ∧ nn = n5 + 1) (N + 1) ?_ ?_
 ·exact ⟨N, 0, 0, hM, Ak rfl rfl, rfl⟩
 clear hM; rintro t l _ ⟨n5, n1_, x2_, hM, ⟨⟨T, rfl⟩, rfl⟩, rfl⟩
 rcases n5 with _ | n5
 ·exact absurd hM (by simp [EP])
 rw [EP] at hM
 refine Ad <| r_V (vB (decide (x2_ < (l'.length : Int)))) rfl <| Aa <| Ai fun K7 hK7 => Af _ rfl (fun hc8 => ?_) (fun hc8 => ?_)
 ·replace hM := iD hc8 hM
  refine Ah <| hK7 _ _ ?_
  refine Ai fun K9 hK9 => Ap <| Ad ?_
  obtain ⟨ck11, hM⟩ := Ae hM
  refine r_W (elA l'v (x2_.toNat * 3)) rfl (AD (An rfl rfl rfl (Rd.shp hl') ck11)) <| Bw (vA #[vS ((l'[x2_.toNat]!).1), vI ((l'[x2_.toNat]!).2.1), vI ((l'[x2_.toNat]!).2.2)]) (En := enc_84) (l'[x2_.toNat]!) (x2_.toNat) 0 rfl rfl (Av hl') (AA ck11) rfl <| r_a (84, #[Value.string (⟨#[]⟩), vI 0, vI 0]) rfl rfl rfl (fun b12 => ?_) (.inr rfl)
  refine r_s (Lb b12 ((l'[x2_.toNat]!).1) ((l'[x2_.toNat]!).2.1) ((l'[x2_.toNat]!).2.2)) 0 _ _ _ _ _ (#[vS ((l'[x2_.toNat]!).1), vI ((l'[x2_.toNat]!).2.1), vI ((l'[x2_.toNat]!).2.2)]) rfl rfl rfl rfl (.of rfl rfl) rfl rfl <| Aa <| Ax <| r_V (vI n1_) rfl <| rl (vA #[vS ((l'[x2_.toNat]!).1), vI ((l'[x2_.toNat]!).2.1), vI ((l'[x2_.toNat]!).2.2)]) 0 ?_
  obtain ⟨r13, hr14, hM⟩ := Ab hM
  refine rc (vI r13) (cF Oe) (Jk N ((l'[x2_.toNat]!).1) ((l'[x2_.toNat]!).2.1) ((l'[x2_.toNat]!).2.2) _ hr14) ?_
  obtain ⟨ck15, hM⟩ := Ae hM
  refine r_X (vI (n1_ + r13)) rfl (AR rfl ck15.1 ck15.2) rfl <| r_V (vI (n1_ + r13)) rfl <| Aa <| hK9 _ _ ?_
  refine Ax ?_
  obtain ⟨ck16, hM⟩ := Ae hM
  refine r_X (vI (x2_ + 1)) rfl (AR rfl ck16.1 ck16.2) rfl <| r_V (vI (x2_ + 1)) rfl <| Aa <| fg _ (Sub.of (suC _ suN)) ?_
  exact ⟨n5 + 1, by omega, n5, (n1_ + r13), (x2_ + 1), hM, Ak rfl rfl, rfl⟩
 replace hM := iF hc8 hM
 refine AM <| hK3 _ _ ?_
 refine Ad <| r_R [vI n1_, vI n1_] rfl <| Aa ?_
 cases hM
 exact aR eV1
def EQ (N : Nat) (headers : List ((List UInt8) × (List (List UInt8 × Int)) × Int × Int × Int × Int)) (l' : List (List UInt8 × Int × Int)) (r7 : List (List UInt8)) : Nat → Int → Option Int
  | 0, _ => none
  | n14 + 1, x1_ => if x1_ < (l'.length : Int) then ck (0 ≤ x1_ ∧ x1_ < (l'.length : Int)) ((Ea N r7 x1_).bind fun r24 => if (r24 : Int) ≠ 0 then some r24 else ck ((-9223372036854775808 ≤ ((headers.length : Int) - 1) ∧ ((headers.length : Int) - 1) ≤ 9223372036854775807)) ((BV N ((l'[x1_.toNat]!).2.1) 0 ((headers.length : Int) - 1)).bind fun r31 => if r31 = true then (Ff N ((l'[x1_.toNat]!).1) ((l'[x1_.toNat]!).2.1) ((l'[x1_.toNat]!).2.2)).bind fun r36 => if r36 = true then ck (-9223372036854775808 ≤ (x1_ + 1) ∧ (x1_ + 1) ≤ 9223372036854775807) ((EQ N headers l' r7 n14) (x1_ + 1)) else some 7 else some 5)) else (GE N l').bind fun r43 => if r43 > 32 then some 8 else some 0
def GF (N : Nat) (headers : List ((List UInt8) × (List (List UInt8 × Int)) × Int × Int × Int × Int)) (l' : List (List UInt8 × Int × Int)) : Option Int := if (l'.length : Int) > 16 then some 2 else (Ez N l').bind fun r7 => EQ N headers l' r7 N 0
theorem UU (N : Nat) (headers : List ((List UInt8) × (List (List UInt8 × Int)) × Int × Int × Int × Int)) (l' : List (List UInt8 × Int × Int)) (r) (hM : GF N headers l' = some r) (ro : Ro) (headersv : Value) (hheaders : RdN encr_48 ro headersv headers) (l'v : Value) (hl' : Rd enc_84 ro l'v l') : Does prog 117 #[headersv, l'v] ro [] (pV (vI r)) := by
 unfold GF at hM
 refine Aq follows func117 rfl 43 rfl _ fz2 (fun base0_ => ?_)
 refine Ad <| r_V (vI 0) rfl <| Aa <| Ai fun K2 hK2 => Ad <| r_V l'v rfl <| r_W (vI (l'.length : Int)) rfl (Aj rfl rfl rfl (Rd.shp hl')) <| r_V (vB (decide ((l'.length : Int) > 16))) rfl <| Aa <| Af _ rfl (fun hc4 => ?_) (fun hc4 => ?_)
 ·replace hM := iD hc4 hM
  refine Ad <| r_V (vI 2) rfl <| Aa ?_
  cases hM
  exact aR eV1
 replace hM := iF hc4 hM
 refine Ah <| hK2 _ _ ?_
 refine AL [(some 13, false)] (conG prog [(13, fun _ _ v_ L_ U_ => ∀ u0_, Ez N l' = some u0_ → (p1 (fun s_ => s_) 9 encS u0_) v_ L_ U_)]) <| r_V l'v rfl ?_
 obtain ⟨r7, hr8, hM⟩ := Ab hM
 refine Iy (Ls := []) (fun s9 => s9) 9 encS r7 169 _ rfl rfl rfl (cF ZA) (fun o w z_ => Ow N l' _ hr8 z_.view l'v ((Av hl') o w z_)) (AF hr8) (fun s9 S10 H11 => ?_)
 refine r_V s9 rfl <| Aa <| Ai fun K12 hK12 => Ad <| r_V l'v rfl <| r_W (vI (l'.length : Int)) rfl (Aj rfl rfl rfl (Rd.shp hl')) <| r_V (vI 0) rfl <| Aa <| Ap <| BF _ (Sub.pick [S10] [0] rfl) <| AS (fun tt ll nn => ∃ (n14 : Nat) (x1_ : Int), (EQ N headers l' r7 n14 x1_ = some r) ∧ Is [(0, headersv), (1, l'v), (5, s9), (14, l'v), (15, vI (l'.length : Int)), (16, vI x1_)] (List.flatten [S10]) tt ll ∧ nn = n14 + 1) (N + 1) ?_ ?_
 ·exact ⟨N, 0, hM, Ak rfl rfl, rfl⟩
 clear hM; rintro t l _ ⟨n14, x1_, hM, ⟨⟨T, rfl⟩, rfl⟩, rfl⟩
 rcases n14 with _ | n14
 ·exact absurd hM (by simp [EQ])
 rw [EQ] at hM
 refine Ad <| r_V (vB (decide (x1_ < (l'.length : Int)))) rfl <| Aa <| Ai fun K16 hK16 => Af _ rfl (fun hc17 => ?_) (fun hc17 => ?_)
 ·replace hM := iD hc17 hM
  refine Ah <| hK16 _ _ ?_
  refine Ai fun K18 hK18 => Ap <| Ad <| r_V (vI x1_) rfl ?_
  obtain ⟨ck20, hM⟩ := Ae hM
  refine r_W (elA l'v (x1_.toNat * 3)) rfl (AD (An rfl rfl rfl (Rd.shp hl') ck20)) <| Bw (vA #[vS ((l'[x1_.toNat]!).1), vI ((l'[x1_.toNat]!).2.1), vI ((l'[x1_.toNat]!).2.2)]) (En := enc_84) (l'[x1_.toNat]!) (x1_.toNat) 0 rfl rfl (Av hl') (AA ck20) rfl <| r_a (84, #[Value.string (⟨#[]⟩), vI 0, vI 0]) rfl rfl rfl (fun b21 => ?_) (.inr rfl)
  refine r_V (vI x1_) rfl <| r_s (List.flatten [(Lb b21 ((l'[x1_.toNat]!).1) ((l'[x1_.toNat]!).2.1) ((l'[x1_.toNat]!).2.2)), S10]) 0 _ _ _ _ _ (#[vS ((l'[x1_.toNat]!).1), vI ((l'[x1_.toNat]!).2.1), vI ((l'[x1_.toNat]!).2.2)]) rfl rfl rfl rfl (.of rfl rfl) rfl rfl <| Aa <| Ai fun K22 hK22 => AL [(some 23, false)] (conG prog [(23, cV (Ea N r7 x1_) fun u0_ => vI u0_)]) <| r_R [s9, vI x1_] rfl ?_
  obtain ⟨r24, hr25, hM⟩ := Ab hM
  refine rg (vI r24) (cF SH) (fun o w z_ => LY N r7 x1_ _ hr25 z_.view s9 ((AN H11 (Aw (Ls := [(Lb b21 ((l'[x1_.toNat]!).1) ((l'[x1_.toNat]!).2.1) ((l'[x1_.toNat]!).2.2)), S10]) (k := 1) rfl rfl)) o w z_)) (AF hr25) <| r_V (vI r24) rfl <| Aa <| Ad <| r_R [vI r24, vB (r24 != 0)] rfl <| Aa <| Af _ rfl (fun hc27 => ?_) (fun hc27 => ?_)
  ·replace hM := iN hc27 hM
   refine Ad <| r_R [vI r24, vI r24] rfl <| Aa ?_
   cases hM
   exact aR eV1
  replace hM := iM hc27 hM
  refine Ah <| hK22 _ _ ?_
  refine Ap <| Ad <| r_V (vP b21 1) rfl <| rl (vI ((l'[x1_.toNat]!).2.1)) 0 <| r_V headersv rfl <| r_W (vI (headers.length : Int)) rfl (Aj rfl rfl rfl (RdN.shp hheaders)) ?_
  obtain ⟨ck30, hM⟩ := Ae hM
  refine r_X (vI ((headers.length : Int) - 1)) rfl (AR rfl ck30.1 ck30.2) rfl ?_
  obtain ⟨r31, hr32, hM⟩ := Ab hM
  refine rc (vB r31) (cF FO) (Dv N ((l'[x1_.toNat]!).2.1) 0 ((headers.length : Int) - 1) _ hr32) <| r_R [vB (!(r31)), vB (!(r31))] rfl <| Aa <| Af _ rfl (fun hc33 => ?_) (fun hc33 => ?_)
  ·replace hM := ifn (Bool.eq_false_iff.1 (CZ hc33)) hM
   refine Ad <| r_V (vI 5) rfl <| Aa <| Cd [(4, vI 5)] rfl (fun T => ?_)
   cases hM
   exact aR eV1
  replace hM := ifp (Da hc33) hM
  refine Ad <| rl (vA #[vS ((l'[x1_.toNat]!).1), vI ((l'[x1_.toNat]!).2.1), vI ((l'[x1_.toNat]!).2.2)]) 0 ?_
  obtain ⟨r36, hr37, hM⟩ := Ab hM
  refine rc (vB r36) (cF SG) (KI N ((l'[x1_.toNat]!).1) ((l'[x1_.toNat]!).2.1) ((l'[x1_.toNat]!).2.2) _ hr37) <| r_R [vB (!(r36)), vB (!(r36))] rfl <| Aa <| Af _ rfl (fun hc38 => ?_) (fun hc38 => ?_)
  ·replace hM := ifn (Bool.eq_false_iff.1 (CZ hc38)) hM
   refine Ad <| r_V (vI 7) rfl <| Aa <| Cd [(4, vI 7)] rfl (fun T => ?_)
   cases hM
   exact aR eV1
  replace hM := ifp (Da hc38) hM
  refine Ah <| hK18 _ _ ?_
  refine Ax ?_
  obtain ⟨ck40, hM⟩ := Ae hM
  refine r_X (vI (x1_ + 1)) rfl (AR rfl ck40.1 ck40.2) rfl <| r_V (vI (x1_ + 1)) rfl <| Aa <| fg _ (Sub.pick [(Lb b21 ((l'[x1_.toNat]!).1) ((l'[x1_.toNat]!).2.1) ((l'[x1_.toNat]!).2.2)), S10] [1] rfl) ?_
  exact ⟨n14 + 1, by omega, n14, (x1_ + 1), hM, Ak rfl rfl, rfl⟩
 replace hM := iF hc17 hM
 refine AM <| hK12 _ _ ?_
 refine Ai fun K41 hK41 => AL [(some 41, false)] (conG prog [(41, cV (GE N l') fun u0_ => vI u0_)]) <| r_V l'v rfl ?_
 obtain ⟨r43, hr44, hM⟩ := Ab hM
 refine rg (vI r43) (cF SF) (fun o w z_ => Pn N l' _ hr44 z_.view l'v ((Av hl') o w z_)) (AF hr44) <| r_V (vB (decide (r43 > 32))) rfl <| Aa <| Af _ rfl (fun hc45 => ?_) (fun hc45 => ?_)
 ·replace hM := iD hc45 hM
  refine Ad <| r_V (vI 8) rfl <| Aa ?_
  cases hM
  exact aR eV1
 replace hM := iF hc45 hM
 refine Ah <| hK41 _ _ ?_
 refine Ad <| r_V (vI 0) rfl <| Aa ?_
 cases hM
 exact aR eV1
def Ds (N : Nat) (c : Al) : Option (Int × Int) := (GF N c.2.1 c.2.2.1).bind fun r4 => some (0, r4)
theorem QC (N : Nat) (c : Al) (r) (hM : Ds N c = some r) (ro : Ro) (cv : AP) (hc : Bun35R ro cv c) : Does prog 65 #[vA (Ac c cv)] ro [] (pV (vT #[vI r.1, vI r.2])) := by
 unfold Ds at hM
 refine Aq follows func65 rfl 11 rfl _ fz1 (fun base0_ => ?_)
 refine Ad <| r_a (92, (Ac c cv)) rfl rfl rfl (fun b2 => ?_) (.inr rfl)
 refine r_R [vI 0, vI 0] rfl <| Aa <| AL [(some 10, false)] (conG prog [(10, cV (GF N c.2.1 c.2.2.1) fun u0_ => vI u0_)]) <| r_R [vP b2 0, vP b2 1] rfl <| rl cv.1 0 <| r_R [vP b2 0, vP b2 2] rfl <| rl cv.2.1 0 ?_
 obtain ⟨r4, hr5, hM⟩ := Ab hM
 refine rg (vI r4) (cF ag) (fun o w z_ => UU N c.2.1 c.2.2.1 _ hr5 z_.view cv.1 (RdN.mono z_.ro_cell hc.1) cv.2.1 ((Av hc.2.1) o w z_)) (AF hr5) <| r_R [vI 0, vI r4] rfl <| Aa ?_
 cases hM
 exact aR eV2
def Jw (_ : Nat) (f_0 : List UInt8) (_ : Int) : Option (List UInt8) := some f_0
theorem RG (N : Nat) (f_0 : List UInt8) (f_1 : Int) (r) (hM : Jw N f_0 f_1 = some r) : Gives prog 119 #[vA #[vS f_0, vI f_1]] (vS r) := by
 unfold Jw at hM
 refine AC follows func119 rfl 5 rfl _ fz1 (fun base0_ => ?_)
 refine Ad <| r_a (50, #[vS f_0, vI f_1]) rfl rfl rfl (fun b2 => ?_) (.inr rfl)
 refine r_V (Value.string (⟨#[]⟩)) rfl <| Aa <| Ad <| r_V (vP b2 0) rfl <| rl (vS f_0) 0 <| r_V (vS f_0) rfl <| Aa ?_
 cases hM
 exact aR eE1
def DO (N : Nat) (l' : List (List UInt8 × Int)) : Nat → List (List UInt8) → Int → Option (List (List UInt8))
  | 0, _, _ => none
  | n9 + 1, s1_, x2_ => if x2_ < (l'.length : Int) then ck (0 ≤ x2_ ∧ x2_ < (l'.length : Int)) ((Jw N ((l'[x2_.toNat]!).1) ((l'[x2_.toNat]!).2)).bind fun r17 => ck (0 ≤ x2_ ∧ x2_ < (s1_.length : Int)) (ck (-9223372036854775808 ≤ (x2_ + 1) ∧ (x2_ + 1) ≤ 9223372036854775807) ((DO N l' n9) ((s1_).set (x2_.toNat) r17) (x2_ + 1)))) else some s1_
def GZ (N : Nat) (l' : List (List UInt8 × Int)) : Option (List (List UInt8)) := ck (0 ≤ (l'.length : Int) ∧ (l'.length : Int) ≤ 8796093022208) (DO N l' N ((List.replicate ((l'.length : Int)).toNat ([]))) 0)
theorem OR (N : Nat) (l' : List (List UInt8 × Int)) (r) (hM : GZ N l' = some r) (ro : Ro) (l'v : Value) (hl' : Rd enc_50 ro l'v l') : Does prog 173 #[l'v, vF 119 #[] #[]] ro [] (p1 (fun s_ => s_) 9 encS r) := by
 unfold GZ at hM
 refine Aq follows func173 rfl 26 rfl _ fz2 (fun base0_ => ?_)
 refine Ad <| r_V nS rfl <| Aa <| AL [(some 10, false)] (conG prog [(10, fun _ _ v_ L_ U_ => (p1 (fun v => v) 9 encS (List.replicate ((l'.length : Int)).toNat ([]))) v_ L_ U_)]) <| r_V l'v rfl <| r_W (vI (l'.length : Int)) rfl (Aj rfl rfl rfl (Rd.shp hl')) ?_
 obtain ⟨ck3, hM⟩ := Ae hM
 refine MW (Ls := []) 9 encS ([]) (l'.length : Int) rfl rfl rfl rfl rfl rfl rfl rfl rfl rfl 8796093022208 rfl ck3 (fun _ _ _ _ _ => Iff.rfl) (fun s4 S5 H6 => ?_)
 refine r_V s4 rfl <| Aa <| Ai fun K7 hK7 => Ad <| r_V l'v rfl <| r_W (vI (l'.length : Int)) rfl (Aj rfl rfl rfl (Rd.shp hl')) <| r_V (vI 0) rfl <| Aa <| Ap <| BF _ (Sub.pick [S5] [0] rfl) <| AS (fun tt ll nn => ∃ (n9 : Nat) (s1_ : List (List UInt8)) (x2_ : Int), (DO N l' n9 s1_ x2_ = some r) ∧ ∃ (Ss1_ : List Bl), Sl 9 encS s4 s1_ Ss1_ ∧ Is [(1, vF 119 #[] #[]), (5, s4), (11, l'v), (12, vI (l'.length : Int)), (13, vI x2_)] (List.flatten [Ss1_]) tt ll ∧ nn = n9 + 1) (N + 1) ?_ ?_
 ·exact ⟨N, (List.replicate ((l'.length : Int)).toNat ([])), 0, hM, S5, H6, Ak rfl rfl, rfl⟩
 clear hM; rintro t l _ ⟨n9, s1_, x2_, hM, Ss1_, hs1_, ⟨⟨T, rfl⟩, rfl⟩, rfl⟩
 rcases n9 with _ | n9
 ·exact absurd hM (by simp [DO])
 rw [DO] at hM
 refine Ad <| r_V (vB (decide (x2_ < (l'.length : Int)))) rfl <| Aa <| Ai fun K11 hK11 => Af _ rfl (fun hc12 => ?_) (fun hc12 => ?_)
 ·replace hM := iD hc12 hM
  refine Ah <| hK11 _ _ ?_
  refine Ai fun K13 hK13 => Ap <| Ad <| r_V (vI x2_) rfl ?_
  obtain ⟨ck15, hM⟩ := Ae hM
  refine r_W (elA l'v (x2_.toNat * 2)) rfl (AD (An rfl rfl rfl (Rd.shp hl') ck15)) <| Bw (vA #[vS ((l'[x2_.toNat]!).1), vI ((l'[x2_.toNat]!).2)]) (En := enc_50) (l'[x2_.toNat]!) (x2_.toNat) 0 rfl rfl (Av hl') (AA ck15) rfl <| r_a (50, #[Value.string (⟨#[]⟩), vI 0]) rfl rfl rfl (fun b16 => ?_) (.inr rfl)
  refine r_V (vI x2_) rfl <| r_s (List.flatten [(JJ b16 ((l'[x2_.toNat]!).1) ((l'[x2_.toNat]!).2)), Ss1_]) 0 _ _ _ _ _ (#[vS ((l'[x2_.toNat]!).1), vI ((l'[x2_.toNat]!).2)]) rfl rfl rfl rfl (.of rfl rfl) rfl rfl <| Aa <| Ax <| r_R [s4, vI x2_, vF 119 #[] #[]] rfl <| rl (vA #[vS ((l'[x2_.toNat]!).1), vI ((l'[x2_.toNat]!).2)]) 0 ?_
  obtain ⟨r17, hr18, hM⟩ := Ab hM
  refine rc (vS r17) (AX (caps := []) rfl ad rfl) (RG N ((l'[x2_.toNat]!).1) ((l'[x2_.toNat]!).2) _ hr18) ?_
  obtain ⟨ck19, hM⟩ := Ae hM
  refine r_W (elA s4 (x2_.toNat * 1)) rfl (AD (An rfl rfl rfl (Sl.shp hs1_) ck19)) <| MV (Ls := [(JJ b16 ((l'[x2_.toNat]!).1) ((l'[x2_.toNat]!).2)), Ss1_]) 1 (En := encS) (s1_[x2_.toNat]!) r17 (x2_.toNat) 0 rfl rfl rfl hs1_ (AA ck19) rfl rfl rfl (Gr rfl) rfl (fun S20 H21 => ?_)
  refine Aa <| hK13 _ _ ?_
  refine Ax ?_
  obtain ⟨ck22, hM⟩ := Ae hM
  refine r_X (vI (x2_ + 1)) rfl (AR rfl ck22.1 ck22.2) rfl <| r_V (vI (x2_ + 1)) rfl <| Aa <| fg _ (Sub.pick [(JJ b16 ((l'[x2_.toNat]!).1) ((l'[x2_.toNat]!).2)), S20] [1] rfl) ?_
  exact ⟨n9 + 1, by omega, n9, (s1_).set (x2_.toNat) r17, (x2_ + 1), hM, S20, H21, Ak rfl rfl, rfl⟩
 replace hM := iF hc12 hM
 refine AM <| hK7 _ _ ?_
 refine Ad <| r_R [s4, s4] rfl <| Aa ?_
 cases hM
 refine AW (fun hn => Ex (v0 := s4) hs1_ (Cv (Sub.pick [Ss1_] [0] rfl)) rfl (Cy rfl))
def Bf (N : Nat) (s : List UInt8) : Option Bool := (Ef N s).bind fun r3 => if r3 = true then (Gm N s ([46] : List UInt8)).bind fun r6 => some (!(r6)) else some false
theorem GJ (N : Nat) (s : List UInt8) (r) (hM : Bf N s = some r) : Gives prog 176 #[vS s] (vB r) := by
 unfold Bf at hM
 refine AC follows func176 rfl 10 rfl _ fz1 (fun base0_ => ?_)
 refine Ad <| r_V (vB false) rfl <| Aa <| Ai fun K2 hK2 => Ax <| r_V (vS s) rfl ?_
 obtain ⟨r3, hr4, hM⟩ := Ab hM
 refine rc (vB r3) (cF Ol) (Kx N s _ hr4) <| r_V (vB r3) rfl ?_
 rcases hg5 : r3 with _ | _
 ·replace hM := iB hg5 hM
  refine r_R [none, none, none, vB false, vB false] rfl <| Aa <| hK2 _ _ ?_
  cases hM
  exact aR eE1
 replace hM := ifp hg5 hM
 refine r_R [vS s] rfl <| r_y rfl ?_
 obtain ⟨r6, hr7, hM⟩ := Ab hM
 refine rc (vB r6) (cF SA) (KJ N s ([46] : List UInt8) _ hr7) <| r_R [vB (!(r6)), vB (!(r6)), vB (!(r6))] rfl <| Aa <| hK2 _ _ ?_
 cases hM
 exact aR eE1
def CE (N : Nat) (w : Int) : Option Int := (Az N w 1 128).bind fun r3 => (Ag N r3 9).bind fun r5 => some r5
theorem IW (N : Nat) (w r : Int) (hM : CE N w = some r) : Gives prog 121 #[vI w] (vI r) := by
 unfold CE at hM
 refine AC follows func121 rfl 6 rfl _ fz1 (fun base0_ => ?_)
 refine Ad <| r_V (vI 0) rfl <| Aa <| Ad <| r_V (vI w) rfl ?_
 obtain ⟨r3, hr4, hM⟩ := Ab hM
 refine rc (vB r3) (cF BP) (AI N w 1 128 _ hr4) ?_
 obtain ⟨r5, hr6, hM⟩ := Ab hM
 refine rc (vI r5) (cF AJ) (AB N r3 9 _ hr6) <| r_V (vI r5) rfl <| Aa ?_
 cases hM
 exact aR eE1
def Hr (N : Nat) (_ : List UInt8) (f_1 : Int) : Option Int := (CE N f_1).bind fun r4 => some r4
theorem RF (N : Nat) (f_0 : List UInt8) (f_1 r : Int) (hM : Hr N f_0 f_1 = some r) : Gives prog 120 #[vA #[vS f_0, vI f_1]] (vI r) := by
 unfold Hr at hM
 refine AC follows func120 rfl 6 rfl _ fz1 (fun base0_ => ?_)
 refine Ad <| r_a (50, #[vS f_0, vI f_1]) rfl rfl rfl (fun b2 => ?_) (.inr rfl)
 refine r_V (vI 0) rfl <| Aa <| Ad <| r_V (vP b2 1) rfl <| rl (vI f_1) 0 ?_
 obtain ⟨r4, hr5, hM⟩ := Ab hM
 refine rc (vI r4) (cF Ok) (IW N f_1 _ hr5) <| r_V (vI r4) rfl <| Aa ?_
 cases hM
 exact aR eE1
def Ev (N : Nat) (i : Int) (x_0 : List UInt8) (x_1 : Int) (c2_ : List (List UInt8)) : Option Int := ck (0 ≤ i ∧ i < (c2_.length : Int)) ((Bf N (c2_[i.toNat]!)).bind fun r5 => (Ag N r5 4).bind fun r7 => (Ay N c2_ i).bind fun r9 => (Hr N x_0 x_1).bind fun r11 => (As N ([r7, r9, r11])).bind fun r16 => some r16)
theorem Mn (N : Nat) (i : Int) (x_0 : List UInt8) (x_1 : Int) (c2_ : List (List UInt8)) (r) (hM : Ev N i x_0 x_1 c2_ = some r) (ro : Ro) (bc2_ : Nat) (c2_v : Value) (hc2_ : Rd encS ro c2_v c2_) (hbc2_ : Blk ro bc2_ [c2_v]) (bc3_ : Nat) (hbc3_ : Blk ro bc3_ [vF 120 #[] #[]]) : Does prog 175 #[vI i, vA #[vS x_0, vI x_1], vP bc2_ 0, vP bc3_ 0] ro [] (pV (vI r)) := by
 unfold Ev at hM
 refine Aq follows func175 rfl 21 rfl _ fz4 (fun base0_ => ?_)
 refine Ad <| r_a (50, #[vS x_0, vI x_1]) rfl rfl rfl (fun b2 => ?_) (.inr rfl)
 refine r_V (vI 0) rfl <| Aa <| Ai fun K3 hK3 => Ck [(some 15, false), (some 19, false), (some 20, false)] (conG prog [(15, cV (Ay N c2_ i) fun u0_ => vI u0_), (20, fun _ _ v_ L_ U_ => ∀ u0_, Bf N (c2_[i.toNat]!) = some u0_ → ∀ u1_, Ag N u0_ 4 = some u1_ → ∀ u2_, Ay N c2_ i = some u2_ → ∀ u3_, Hr N x_0 x_1 = some u3_ → ∀ u4_, As N ([u1_, u2_, u3_]) = some u4_ → (pV (vI u4_)) v_ L_ U_)]) [] (by decide +kernel) (fun hn => Be) <| CR c2_v (vs := [c2_v]) (o := 0) rfl rfl (AK hbc2_) rfl <| r_V (vI i) rfl ?_
 obtain ⟨ck4, hM⟩ := Ae hM
 refine r_W (elA c2_v (i.toNat * 1)) rfl (AD (An rfl rfl rfl (Rd.shp hc2_) ck4)) <| Bw (vS (c2_[i.toNat]!)) (En := encS) (c2_[i.toNat]!) (i.toNat) 0 rfl rfl (Av hc2_) (AA ck4) rfl ?_
 obtain ⟨r5, hr6, hM⟩ := Ab hM
 refine rc (vB r5) (cF HT) (GJ N (c2_[i.toNat]!) _ hr6) ?_
 obtain ⟨r7, hr8, hM⟩ := Ab hM
 refine rc (vI r7) (cF AJ) (AB N r5 4 _ hr8) <| CR c2_v (vs := [c2_v]) (o := 0) rfl rfl (AK hbc2_) rfl <| r_V (vI i) rfl ?_
 obtain ⟨r9, hr10, hM⟩ := Ab hM
 refine rg (vI r9) (cF Hu) (fun o w z_ => Dn N c2_ i _ hr10 z_.view c2_v ((Av hc2_) o w z_)) (AF hr10) <| CR (vF 120 #[] #[]) (vs := [vF 120 #[] #[]]) (o := 0) rfl rfl (AK hbc3_) rfl <| rl (vA #[vS x_0, vI x_1]) 0 ?_
 obtain ⟨r11, hr12, hM⟩ := Ab hM
 refine rc (vI r11) (AX (caps := []) rfl ab rfl) (RF N x_0 x_1 _ hr12) ?_
 refine Dj (cs0 := [(15, cV (Ay N c2_ i) fun u0_ => vI u0_), (20, fun _ _ v_ L_ U_ => ∀ u0_, Bf N (c2_[i.toNat]!) = some u0_ → ∀ u1_, Ag N u0_ 4 = some u1_ → ∀ u2_, Ay N c2_ i = some u2_ → ∀ u3_, Hr N x_0 x_1 = some u3_ → ∀ u4_, As N ([u1_, u2_, u3_]) = some u4_ → (pV (vI u4_)) v_ L_ U_)]) (Ls := [(JJ b2 x_0 x_1)]) 38 BK [r7, r9, r11] [vI r7, vI r9, vI r11] [vI 0, vI 0, vI 0] rfl rfl rfl rfl rfl rfl rfl (by kernel_rfl) (by kernel_rfl) rfl rfl rfl (fun s13 S14 H15 => ?_)
 obtain ⟨r16, hr17, hM⟩ := Ab hM
 refine rg (vI r16) (cF Br) (fun o w z_ => Bb N ([r7, r9, r11]) _ hr17 z_.view s13 ((AN H15 (Aw (Ls := [(JJ b2 x_0 x_1), S14]) (k := 1) rfl rfl)) o w z_)) (fun _ _ v_ L_ U_ => ⟨fun h_ => h_ _ hr6 _ hr8 _ hr10 _ hr12 _ hr17, fun h_ => by intro _ e_; cases Option.some.inj (e_.symm.trans hr6); intro _ e_; cases Option.some.inj (e_.symm.trans hr8); intro _ e_; cases Option.some.inj (e_.symm.trans hr10); intro _ e_; cases Option.some.inj (e_.symm.trans hr12); intro _ e_; cases Option.some.inj (e_.symm.trans hr17); exact h_⟩) ?_
 refine r_V (vI r16) rfl <| Aa <| hK3 _ _ ?_
 cases hM
 exact aR eV1
def DS (N : Nat) (l' : List (List UInt8 × Int)) (ask0_ : List (List UInt8)) : Nat → Int → Option (Int × Int)
  | 0, _ => none
  | n8 + 1, x1_ => if x1_ < (l'.length : Int) then ck (0 ≤ x1_ ∧ x1_ < (l'.length : Int)) ((Ev N x1_ ((l'[x1_.toNat]!).1) ((l'[x1_.toNat]!).2) ask0_).bind fun r17 => if (r17 : Int) ≠ 0 then some (x1_, r17) else ck (-9223372036854775808 ≤ (x1_ + 1) ∧ (x1_ + 1) ≤ 9223372036854775807) ((DS N l' ask0_ n8) (x1_ + 1))) else some (0, 0)
def FK (N : Nat) (l' : List (List UInt8 × Int)) (most : Int) (ask0_ : List (List UInt8)) : Option (Int × Int) := if (l'.length : Int) > most then some (0, 2) else DS N l' ask0_ N 0
theorem OV (N : Nat) (l' : List (List UInt8 × Int)) (most : Int) (ask0_ : List (List UInt8)) (r) (hM : FK N l' most ask0_ = some r) (ro : Ro) (l'v : Value) (hl' : Rd enc_50 ro l'v l') (bask0_ : Nat) (ask0_v : Value) (hask0_ : Rd encS ro ask0_v ask0_) (hbask0_ : Blk ro bask0_ [ask0_v]) (bask1_ : Nat) (hbask1_ : Blk ro bask1_ [vF 120 #[] #[]]) : Does prog 174 #[l'v, vI most, vF 175 #[] #[vP bask0_ 0, vP bask1_ 0]] ro [] (pV (vT #[vI r.1, vI r.2])) := by
 unfold FK at hM
 refine Aq follows func174 rfl 31 rfl _ fz3 (fun base0_ => ?_)
 refine Ad <| r_R [vI 0, vI 0] rfl <| Aa <| Ai fun K2 hK2 => Ad <| r_V l'v rfl <| r_W (vI (l'.length : Int)) rfl (Aj rfl rfl rfl (Rd.shp hl')) <| r_R [vI most, vB (decide ((l'.length : Int) > most))] rfl <| Aa <| Af _ rfl (fun hc4 => ?_) (fun hc4 => ?_)
 ·replace hM := iD hc4 hM
  refine Ad <| r_R [vI 0, vI 2] rfl <| Aa ?_
  cases hM
  exact aR eV2
 replace hM := iF hc4 hM
 refine Ah <| hK2 _ _ ?_
 refine Ai fun K6 hK6 => Ad <| r_V l'v rfl <| r_W (vI (l'.length : Int)) rfl (Aj rfl rfl rfl (Rd.shp hl')) <| r_V (vI 0) rfl <| Aa <| Ap <| AS (fun tt ll nn => ∃ (n8 : Nat) (x1_ : Int), (DS N l' ask0_ n8 x1_ = some r) ∧ Is [(2, vF 175 #[] #[vP bask0_ 0, vP bask1_ 0]), (15, l'v), (16, vI (l'.length : Int)), (17, vI x1_)] [] tt ll ∧ nn = n8 + 1) (N + 1) ?_ ?_
 ·exact ⟨N, 0, hM, Ak rfl rfl, rfl⟩
 clear hM; rintro t l _ ⟨n8, x1_, hM, ⟨⟨T, rfl⟩, rfl⟩, rfl⟩
 rcases n8 with _ | n8
 ·exact absurd hM (by simp [DS])
 rw [DS] at hM
 refine Ad <| r_V (vB (decide (x1_ < (l'.length : Int)))) rfl <| Aa <| Ai fun K10 hK10 => Af _ rfl (fun hc11 => ?_) (fun hc11 => ?_)
 ·replace hM := iD hc11 hM
  refine Ah <| hK10 _ _ ?_
  refine Ai fun K12 hK12 => Ap <| Ad <| r_V (vI x1_) rfl ?_
  obtain ⟨ck14, hM⟩ := Ae hM
  refine r_W (elA l'v (x1_.toNat * 2)) rfl (AD (An rfl rfl rfl (Rd.shp hl') ck14)) <| Bw (vA #[vS ((l'[x1_.toNat]!).1), vI ((l'[x1_.toNat]!).2)]) (En := enc_50) (l'[x1_.toNat]!) (x1_.toNat) 0 rfl rfl (Av hl') (AA ck14) rfl <| r_a (50, #[Value.string (⟨#[]⟩), vI 0]) rfl rfl rfl (fun b15 => ?_) (.inr rfl)
  refine r_V (vI x1_) rfl <| r_s (JJ b15 ((l'[x1_.toNat]!).1) ((l'[x1_.toNat]!).2)) 0 _ _ _ _ _ (#[vS ((l'[x1_.toNat]!).1), vI ((l'[x1_.toNat]!).2)]) rfl rfl rfl rfl (.of rfl rfl) rfl rfl <| Aa <| AL [(some 25, false)] (conG prog [(25, cV (Ev N x1_ ((l'[x1_.toNat]!).1) ((l'[x1_.toNat]!).2) ask0_) fun u0_ => vI u0_)]) <| r_R [vF 175 #[] #[vP bask0_ 0, vP bask1_ 0], vI x1_] rfl <| rl (vA #[vS ((l'[x1_.toNat]!).1), vI ((l'[x1_.toNat]!).2)]) 0 ?_
  obtain ⟨r17, hr18, hM⟩ := Ab hM
  refine rg (vI r17) (AX (caps := [vP bask0_ 0, vP bask1_ 0]) rfl Zx rfl) (fun o w z_ => Mn N x1_ ((l'[x1_.toNat]!).1) ((l'[x1_.toNat]!).2) ask0_ _ hr18 z_.view bask0_ ask0_v ((Av hask0_) o w z_) (AK hbask0_ o w z_) bask1_ (AK hbask1_ o w z_)) (AF hr18) <| r_V (vI r17) rfl <| Aa <| Ad <| r_R [vI r17, vB (r17 != 0)] rfl <| Aa <| Af _ rfl (fun hc20 => ?_) (fun hc20 => ?_)
  ·replace hM := iN hc20 hM
   refine Ad <| r_R [vI x1_, vI r17, vI x1_, vI r17] rfl <| Aa ?_
   cases hM
   exact aR eV2
  replace hM := iM hc20 hM
  refine Ah <| hK12 _ _ ?_
  refine Ax ?_
  obtain ⟨ck22, hM⟩ := Ae hM
  refine r_X (vI (x1_ + 1)) rfl (AR rfl ck22.1 ck22.2) rfl <| r_V (vI (x1_ + 1)) rfl <| Aa <| fg _ (Sub.of (suC _ suN)) ?_
  exact ⟨n8 + 1, by omega, n8, (x1_ + 1), hM, Ak rfl rfl, rfl⟩
 replace hM := iF hc11 hM
 refine AM <| hK6 _ _ ?_
 refine Ad <| r_R [vI 0, vI 0] rfl <| Aa ?_
 cases hM
 exact aR eV2
def GV (N : Nat) (l' : List (List UInt8 × Int)) (most : Int) : Option (Int × Int) := (GZ N l').bind fun r4 => (FK N l' most r4).bind fun r11 => some (r11.1, r11.2)
theorem ON (N : Nat) (l' : List (List UInt8 × Int)) (most : Int) (r) (hM : GV N l' most = some r) (ro : Ro) (l'v : Value) (hl' : Rd enc_50 ro l'v l') : Does prog 118 #[l'v, vI most, vF 119 #[] #[], vF 120 #[] #[]] ro [] (pV (vT #[vI r.1, vI r.2])) := by
 unfold GV at hM
 refine Aq follows func118 rfl 20 rfl _ fz4 (fun base0_ => ?_)
 refine Ad <| r_a (194, #[vF 120 #[] #[]]) rfl rfl rfl (fun b2 => ?_) (.inr rfl)
 refine r_R [vI 0, vI 0] rfl <| Aa <| AL [(some 13, false)] (conG prog [(13, fun _ _ v_ L_ U_ => ∀ u0_, GZ N l' = some u0_ → (p1 (fun s_ => s_) 9 encS u0_) v_ L_ U_)]) <| r_R [l'v, vF 119 #[] #[]] rfl ?_
 obtain ⟨r4, hr5, hM⟩ := Ab hM
 refine Iy (Ls := [(Nq b2 (vF 120 #[] #[]))]) (fun s6 => s6) 9 encS r4 173 _ rfl rfl rfl (cF Zz) (fun o w z_ => OR N l' _ hr5 z_.view l'v ((Av hl') o w z_)) (AF hr5) (fun s6 S7 H8 => ?_)
 refine r_a (81, #[nS]) rfl rfl rfl (fun b9 => ?_) (.inr rfl)
 refine r_s (List.flatten [(MG b9 s6), (Nq b2 (vF 120 #[] #[])), S7]) 0 _ _ _ _ _ (#[s6]) rfl rfl rfl (Du rfl (Sl.shp H8)) (.ofS rfl rfl (Ao (Shp.one (Sl.shp H8)) Bi)) rfl rfl <| Aa <| AL [(some 17, false)] (conG prog [(17, cV (FK N l' most r4) fun u0_ => vT #[vI u0_.1, vI u0_.2])]) <| r_R [l'v, vI most] rfl <| r_W (vF 175 #[] #[vP b9 0, vP b2 0]) rfl (DV rfl) ?_
 obtain ⟨r11, hr12, hM⟩ := Ab hM
 refine rg (vT #[vI r11.1, vI r11.2]) (cF Zy) (fun o w z_ => OV N l' most r4 _ hr12 z_.view l'v ((Av hl') o w z_) b9 s6 ((AN H8 (Aw (Ls := [(MG b9 s6), (Nq b2 (vF 120 #[] #[])), S7]) (k := 2) rfl rfl)) o w z_) (Bq 0 rfl rfl o w z_) b2 (Bq 1 rfl rfl o w z_)) (AF hr12) <| r_R [vI r11.1, vI r11.2, vI r11.1, vI r11.2] rfl <| Aa ?_
 cases hM
 exact aR eV2
def Eh (N : Nat) (c : Al) : Option (Int × Int) := (GV N c.2.2.2.1 16).bind fun r4 => some (r4.1, r4.2)
theorem QA (N : Nat) (c : Al) (r) (hM : Eh N c = some r) (ro : Ro) (cv : AP) (hc : Bun35R ro cv c) : Does prog 66 #[vA (Ac c cv)] ro [] (pV (vT #[vI r.1, vI r.2])) := by
 unfold Eh at hM
 refine Aq follows func66 rfl 10 rfl _ fz1 (fun base0_ => ?_)
 refine Ad <| r_a (92, (Ac c cv)) rfl rfl rfl (fun b2 => ?_) (.inr rfl)
 refine r_R [vI 0, vI 0] rfl <| Aa <| AL [(some 7, false)] (conG prog [(7, cV (GV N c.2.2.2.1 16) fun u0_ => vT #[vI u0_.1, vI u0_.2])]) <| r_R [vP b2 0, vP b2 3] rfl <| rl cv.2.2.1 0 ?_
 obtain ⟨r4, hr5, hM⟩ := Ab hM
 refine rg (vT #[vI r4.1, vI r4.2]) (cF ae) (fun o w z_ => ON N c.2.2.2.1 16 _ hr5 z_.view cv.2.2.1 ((Av hc.2.2.1) o w z_)) (AF hr5) <| r_R [vI r4.1, vI r4.2, vI r4.1, vI r4.2] rfl <| Aa ?_
 cases hM
 exact aR eV2
def FY (_ : Nat) (s_0 : List UInt8) (_ : List (Int × Int)) (_ : List (Int × Int × Int)) (_ : List (Int × BitVec 128 × Int × BitVec 128 × Int)) (_ : Int) : Option (List UInt8) := some s_0
theorem Ms (N : Nat) (s_0 : List UInt8) (s_1 : List (Int × Int)) (s_2 : List (Int × Int × Int)) (s_3 : List (Int × BitVec 128 × Int × BitVec 128 × Int)) (s_4 : Int) (r) (hM : FY N s_0 s_1 s_2 s_3 s_4 = some r) (ro : Ro) (s_1v : Value) (_hs_1 : Rd enc_164 ro s_1v s_1) (s_2v : Value) (_hs_2 : Rd enc_168 ro s_2v s_2) (s_3v : Value) (_hs_3 : Rd enc_66 ro s_3v s_3) : Does prog 123 #[vA #[vS s_0, s_1v, s_2v, s_3v, vI s_4]] ro [] (pV (vS r)) := by
 unfold FY at hM
 refine Aq follows func123 rfl 5 rfl _ fz1 (fun base0_ => ?_)
 refine Ad <| r_a (64, #[vS s_0, s_1v, s_2v, s_3v, vI s_4]) rfl rfl rfl (fun b2 => ?_) (.inr rfl)
 refine r_V (Value.string (⟨#[]⟩)) rfl <| Aa <| Ad <| r_V (vP b2 0) rfl <| rl (vS s_0) 0 <| r_V (vS s_0) rfl <| Aa ?_
 cases hM
 exact aR eV1
def DM (N : Nat) (l' : List ((List UInt8) × (List (Int × Int)) × (List (Int × Int × Int)) × (List (Int × BitVec 128 × Int × BitVec 128 × Int)) × Int)) : Nat → List (List UInt8) → Int → Option (List (List UInt8))
  | 0, _, _ => none
  | n9 + 1, s1_, x2_ => if x2_ < (l'.length : Int) then ck (0 ≤ x2_ ∧ x2_ < (l'.length : Int)) ((FY N (l'[x2_.toNat]!.1) (l'[x2_.toNat]!.2.1) (l'[x2_.toNat]!.2.2.1) (l'[x2_.toNat]!.2.2.2.1) (l'[x2_.toNat]!.2.2.2.2)).bind fun r24 => ck (0 ≤ x2_ ∧ x2_ < (s1_.length : Int)) (ck (-9223372036854775808 ≤ (x2_ + 1) ∧ (x2_ + 1) ≤ 9223372036854775807) ((DM N l' n9) ((s1_).set (x2_.toNat) r24) (x2_ + 1)))) else some s1_
def GX (N : Nat) (l' : List ((List UInt8) × (List (Int × Int)) × (List (Int × Int × Int)) × (List (Int × BitVec 128 × Int × BitVec 128 × Int)) × Int)) : Option (List (List UInt8)) := ck (0 ≤ (l'.length : Int) ∧ (l'.length : Int) ≤ 8796093022208) (DM N l' N ((List.replicate ((l'.length : Int)).toNat ([]))) 0)
theorem OP (N : Nat) (l' : List ((List UInt8) × (List (Int × Int)) × (List (Int × Int × Int)) × (List (Int × BitVec 128 × Int × BitVec 128 × Int)) × Int)) (r) (hM : GX N l' = some r) (ro : Ro) (l'v : Value) (hl' : RdN encr_64 ro l'v l') : Does prog 177 #[l'v, vF 123 #[] #[]] ro [] (p1 (fun s_ => s_) 9 encS r) := by
 unfold GX at hM
 refine Aq follows func177 rfl 26 rfl _ fz2 (fun base0_ => ?_)
 refine Ad <| r_V nS rfl <| Aa <| AL [(some 10, false)] (conG prog [(10, fun _ _ v_ L_ U_ => (p1 (fun v => v) 9 encS (List.replicate ((l'.length : Int)).toNat ([]))) v_ L_ U_)]) <| r_V l'v rfl <| r_W (vI (l'.length : Int)) rfl (Aj rfl rfl rfl (RdN.shp hl')) ?_
 obtain ⟨ck3, hM⟩ := Ae hM
 refine MW (Ls := []) 9 encS ([]) (l'.length : Int) rfl rfl rfl rfl rfl rfl rfl rfl rfl rfl 8796093022208 rfl ck3 (fun _ _ _ _ _ => Iff.rfl) (fun s4 S5 H6 => ?_)
 refine r_V s4 rfl <| Aa <| Ai fun K7 hK7 => Ad <| r_V l'v rfl <| r_W (vI (l'.length : Int)) rfl (Aj rfl rfl rfl (RdN.shp hl')) <| r_V (vI 0) rfl <| Aa <| Ap <| BF _ (Sub.pick [S5] [0] rfl) <| AS (fun tt ll nn => ∃ (n9 : Nat) (s1_ : List (List UInt8)) (x2_ : Int), (DM N l' n9 s1_ x2_ = some r) ∧ ∃ (Ss1_ : List Bl), Sl 9 encS s4 s1_ Ss1_ ∧ Is [(1, vF 123 #[] #[]), (5, s4), (11, l'v), (12, vI (l'.length : Int)), (13, vI x2_)] (List.flatten [Ss1_]) tt ll ∧ nn = n9 + 1) (N + 1) ?_ ?_
 ·exact ⟨N, (List.replicate ((l'.length : Int)).toNat ([])), 0, hM, S5, H6, Ak rfl rfl, rfl⟩
 clear hM; rintro t l _ ⟨n9, s1_, x2_, hM, Ss1_, hs1_, ⟨⟨T, rfl⟩, rfl⟩, rfl⟩
 rcases n9 with _ | n9
 ·exact absurd hM (by simp [DM])
 rw [DM] at hM
 refine Ad <| r_V (vB (decide (x2_ < (l'.length : Int)))) rfl <| Aa <| Ai fun K11 hK11 => Af _ rfl (fun hc12 => ?_) (fun hc12 => ?_)
 ·replace hM := iD hc12 hM
  refine Ah <| hK11 _ _ ?_
  refine Ai fun K13 hK13 => Ap <| Ad <| r_V (vI x2_) rfl ?_
  obtain ⟨ck15, hM⟩ := Ae hM
  obtain ⟨_, ⟨s16, s17, s18, hs19, hs20, hs21, rfl⟩, hat22⟩ := RdN.at (E := encr_64) hl' (AA ck15)
  refine r_W (elA l'v (x2_.toNat * 5)) rfl (AD (An rfl rfl rfl (RdN.shp hl') ck15)) <| Eo (vA #[vS (l'[x2_.toNat]!.1), s16, s17, s18, vI (l'[x2_.toNat]!.2.2.2.2)]) (vs := [vS (l'[x2_.toNat]!.1), s16, s17, s18, vI (l'[x2_.toNat]!.2.2.2.2)]) (x2_.toNat * 5) 0 rfl rfl (fun o w z_ => At.mono z_.ro_cell hat22) rfl <| r_a (64, #[Value.string (⟨#[]⟩), nS, nS, nS, vI 0]) rfl rfl rfl (fun b23 => ?_) (.inr rfl)
  refine r_V (vI x2_) rfl <| r_s (List.flatten [(Qo b23 (l'[x2_.toNat]!.1) s16 s17 s18 (l'[x2_.toNat]!.2.2.2.2)), Ss1_]) 0 _ _ _ _ _ (#[vS (l'[x2_.toNat]!.1), s16, s17, s18, vI (l'[x2_.toNat]!.2.2.2.2)]) rfl rfl rfl rfl (.ofS rfl rfl (Ao rfl (Ao (Shp.one (Rd.shp hs19)) (Ao (Shp.one (Rd.shp hs20)) (Ao (Shp.one (Rd.shp hs21)) (Ao rfl Bi)))))) rfl rfl <| Aa ?_
  refine BB [(some 22, false)] (conG prog [(22, cV (FY N (l'[x2_.toNat]!.1) (l'[x2_.toNat]!.2.1) (l'[x2_.toNat]!.2.2.1) (l'[x2_.toNat]!.2.2.2.1) (l'[x2_.toNat]!.2.2.2.2)) fun u0_ => vS u0_)]) <| r_R [s4, vI x2_, vF 123 #[] #[]] rfl <| rl (vA #[vS (l'[x2_.toNat]!.1), s16, s17, s18, vI (l'[x2_.toNat]!.2.2.2.2)]) 0 ?_
  obtain ⟨r24, hr25, hM⟩ := Ab hM
  refine rg (vS r24) (AX (caps := []) rfl ZZ rfl) (fun o w z_ => Ms N (l'[x2_.toNat]!.1) (l'[x2_.toNat]!.2.1) (l'[x2_.toNat]!.2.2.1) (l'[x2_.toNat]!.2.2.2.1) (l'[x2_.toNat]!.2.2.2.2) _ hr25 z_.view s16 ((Av hs19) o w z_) s17 ((Av hs20) o w z_) s18 ((Av hs21) o w z_)) (AF hr25) ?_
  obtain ⟨ck26, hM⟩ := Ae hM
  refine r_W (elA s4 (x2_.toNat * 1)) rfl (AD (An rfl rfl rfl (Sl.shp hs1_) ck26)) <| MV (Ls := [(Qo b23 (l'[x2_.toNat]!.1) s16 s17 s18 (l'[x2_.toNat]!.2.2.2.2)), Ss1_]) 1 (En := encS) (s1_[x2_.toNat]!) r24 (x2_.toNat) 0 rfl rfl rfl hs1_ (AA ck26) rfl rfl rfl (Gr rfl) rfl (fun S27 H28 => ?_)
  refine Aa <| hK13 _ _ ?_
  refine Ax ?_
  obtain ⟨ck29, hM⟩ := Ae hM
  refine r_X (vI (x2_ + 1)) rfl (AR rfl ck29.1 ck29.2) rfl <| r_V (vI (x2_ + 1)) rfl <| Aa <| fg _ (Sub.pick [(Qo b23 (l'[x2_.toNat]!.1) s16 s17 s18 (l'[x2_.toNat]!.2.2.2.2)), S27] [1] rfl) ?_
  exact ⟨n9 + 1, by omega, n9, (s1_).set (x2_.toNat) r24, (x2_ + 1), hM, S27, H28, Ak rfl rfl, rfl⟩
 replace hM := iF hc12 hM
 refine AM <| hK7 _ _ ?_
 refine Ad <| r_R [s4, s4] rfl <| Aa ?_
 cases hM
 refine AW (fun hn => Ex (v0 := s4) hs1_ (Cv (Sub.pick [Ss1_] [0] rfl)) rfl (Cy rfl))
def HZ (N : Nat) (l' : List (List UInt8 × Int × Int)) : Nat → Int → Int → Option (Int × Int × Bool)
  | 0, _, _ => none
  | n8 + 1, slot1_, x2_ => if x2_ < (l'.length : Int) then ck (0 ≤ x2_ ∧ x2_ < (l'.length : Int)) ((EO N ((l'[x2_.toNat]!).1) ((l'[x2_.toNat]!).2.1) ((l'[x2_.toNat]!).2.2)).bind fun r17 => if slot1_ < r17 then some (x2_, slot1_, true) else ck (-9223372036854775808 ≤ (slot1_ - r17) ∧ (slot1_ - r17) ≤ 9223372036854775807) (ck (-9223372036854775808 ≤ (x2_ + 1) ∧ (x2_ + 1) ≤ 9223372036854775807) ((HZ N l' n8) (slot1_ - r17) (x2_ + 1)))) else some (0, 0, false)
def Ip (N : Nat) (l' : List (List UInt8 × Int × Int)) (slot : Int) : Option (Int × Int × Bool) := if slot < 0 then some (0, 0, false) else HZ N l' N slot 0
theorem Tf (N : Nat) (l' : List (List UInt8 × Int × Int)) (slot : Int) (r) (hM : Ip N l' slot = some r) (ro : Ro) (l'v : Value) (hl' : Rd enc_84 ro l'v l') : Does prog 158 #[l'v, vI slot] ro [] (pV (vT #[vI r.1, vI r.2.1, vB r.2.2])) := by
 unfold Ip at hM
 refine Aq follows func158 rfl 30 rfl _ fz2 (fun base0_ => ?_)
 refine Ad <| r_R [vI 0, vI 0, vB false] rfl <| Aa <| Ai fun K2 hK2 => Ad <| r_R [vI slot, vB (decide (slot < 0))] rfl <| Aa <| Af _ rfl (fun hc4 => ?_) (fun hc4 => ?_)
 ·replace hM := iD hc4 hM
  refine Ad <| r_R [vI 0, vI 0, vB false] rfl <| Aa ?_
  cases hM
  exact aR eV3
 replace hM := iF hc4 hM
 refine Ah <| hK2 _ _ ?_
 refine Ai fun K6 hK6 => Ad <| r_V l'v rfl <| r_W (vI (l'.length : Int)) rfl (Aj rfl rfl rfl (Rd.shp hl')) <| r_V (vI 0) rfl <| Aa <| Ap <| AS (fun tt ll nn => ∃ (n8 : Nat) (slot1_ : Int) (x2_ : Int), (HZ N l' n8 slot1_ x2_ = some r) ∧ Is [(1, vI slot1_), (12, l'v), (13, vI (l'.length : Int)), (14, vI x2_)] [] tt ll ∧ nn = n8 + 1) (N + 1) ?_ ?_
 ·exact ⟨N, slot, 0, hM, Ak rfl rfl, rfl⟩
 clear hM; rintro t l _ ⟨n8, slot1_, x2_, hM, ⟨⟨T, rfl⟩, rfl⟩, rfl⟩
 rcases n8 with _ | n8
 ·exact absurd hM (by simp [HZ])
 rw [HZ] at hM
 refine Ad <| r_V (vB (decide (x2_ < (l'.length : Int)))) rfl <| Aa <| Ai fun K10 hK10 => Af _ rfl (fun hc11 => ?_) (fun hc11 => ?_)
 ·replace hM := iD hc11 hM
  refine Ah <| hK10 _ _ ?_
  refine Ai fun K12 hK12 => Ap <| Ad <| r_V (vI x2_) rfl ?_
  obtain ⟨ck14, hM⟩ := Ae hM
  refine r_W (elA l'v (x2_.toNat * 3)) rfl (AD (An rfl rfl rfl (Rd.shp hl') ck14)) <| Bw (vA #[vS ((l'[x2_.toNat]!).1), vI ((l'[x2_.toNat]!).2.1), vI ((l'[x2_.toNat]!).2.2)]) (En := enc_84) (l'[x2_.toNat]!) (x2_.toNat) 0 rfl rfl (Av hl') (AA ck14) rfl <| r_a (84, #[Value.string (⟨#[]⟩), vI 0, vI 0]) rfl rfl rfl (fun b15 => ?_) (.inr rfl)
  refine r_V (vI x2_) rfl <| r_s (Lb b15 ((l'[x2_.toNat]!).1) ((l'[x2_.toNat]!).2.1) ((l'[x2_.toNat]!).2.2)) 0 _ _ _ _ _ (#[vS ((l'[x2_.toNat]!).1), vI ((l'[x2_.toNat]!).2.1), vI ((l'[x2_.toNat]!).2.2)]) rfl rfl rfl rfl (.of rfl rfl) rfl rfl <| Aa <| Ad <| rl (vA #[vS ((l'[x2_.toNat]!).1), vI ((l'[x2_.toNat]!).2.1), vI ((l'[x2_.toNat]!).2.2)]) 0 ?_
  obtain ⟨r17, hr18, hM⟩ := Ab hM
  refine rc (vI r17) (cF Oe) (Jk N ((l'[x2_.toNat]!).1) ((l'[x2_.toNat]!).2.1) ((l'[x2_.toNat]!).2.2) _ hr18) <| r_V (vI r17) rfl <| Aa <| Ai fun K19 hK19 => Ad <| r_R [vI slot1_, vI r17, vB (decide (slot1_ < r17))] rfl <| Aa <| Af _ rfl (fun hc21 => ?_) (fun hc21 => ?_)
  ·replace hM := iD hc21 hM
   refine Ad <| r_R [vI x2_, vI slot1_, vI x2_, vI slot1_, vB true] rfl <| Aa ?_
   cases hM
   exact aR eV3
  replace hM := iF hc21 hM
  refine Ah <| hK19 _ _ ?_
  refine Ax <| r_R [vI slot1_, vI r17] rfl ?_
  obtain ⟨ck23, hM⟩ := Ae hM
  refine r_X (vI (slot1_ - r17)) rfl (AR rfl ck23.1 ck23.2) rfl <| r_V (vI (slot1_ - r17)) rfl <| Aa <| hK12 _ _ ?_
  refine Ax ?_
  obtain ⟨ck24, hM⟩ := Ae hM
  refine r_X (vI (x2_ + 1)) rfl (AR rfl ck24.1 ck24.2) rfl <| r_V (vI (x2_ + 1)) rfl <| Aa <| fg _ (Sub.of (suC _ suN)) ?_
  exact ⟨n8 + 1, by omega, n8, (slot1_ - r17), (x2_ + 1), hM, Ak rfl rfl, rfl⟩
 replace hM := iF hc11 hM
 refine AM <| hK6 _ _ ?_
 refine Ad <| r_R [vI 0, vI 0, vB false] rfl <| Aa ?_
 cases hM
 exact aR eV3
def IP (N : Nat) (l' : List (List UInt8 × Int × Int)) (i : Int) : Option (Int × Bool) := ck (0 ≤ i ∧ i ≤ (l'.length : Int)) ((GE N (((l').take (i.toNat)).drop 0)).bind fun r4 => some (r4, true))
def HE (N : Nat) (l' : List (List UInt8 × Int × Int)) (i : Int) : Option (Int × Bool) := ck ((-9223372036854775808 ≤ ((l'.length : Int) - 1) ∧ ((l'.length : Int) - 1) ≤ 9223372036854775807)) ((BV N i 0 ((l'.length : Int) - 1)).bind fun r8 => if r8 = true then ck (0 ≤ i ∧ i < (l'.length : Int)) ((EO N ((l'[i.toNat]!).1) ((l'[i.toNat]!).2.1) ((l'[i.toNat]!).2.2)).bind fun r12 => if r12 = 0 then some (0, false) else IP N l' i ) else some (0, false))
theorem UV (N : Nat) (l' : List (List UInt8 × Int × Int)) (i : Int) (r) (hM : HE N l' i = some r) (ro : Ro) (l'v : Value) (hl' : Rd enc_84 ro l'v l') : Does prog 278 #[l'v, vI i] ro [] (pV (vT #[vI r.1, vB r.2])) := by
 unfold HE at hM
 refine Aq follows func278 rfl 24 rfl _ fz2 (fun base0_ => ?_)
 refine Ad <| r_R [vI 0, vB false] rfl <| Aa <| Bm (fun tt ll => (IP N l' i  = some r) ∧ Is [(0, l'v), (1, vI i)] [] tt ll) ?_ ?_
 ·refine Ai fun K6 hK6 => Ax <| r_R [vI i, l'v] rfl <| r_W (vI (l'.length : Int)) rfl (Aj rfl rfl rfl (Rd.shp hl')) ?_
  obtain ⟨ck7, hM⟩ := Ae hM
  refine r_X (vI ((l'.length : Int) - 1)) rfl (AR rfl ck7.1 ck7.2) rfl ?_
  obtain ⟨r8, hr9, hM⟩ := Ab hM
  refine rc (vB r8) (cF FO) (Dv N i 0 ((l'.length : Int) - 1) _ hr9) <| r_R [vB (!(r8)), vB (!(r8))] rfl ?_
  rcases hg10 : (!(r8)) with _ | _
  ·replace hM := ifp (Da hg10) hM
   refine r_R [l'v, vI i] rfl <| r_y rfl ?_
   obtain ⟨ck11, hM⟩ := Ae hM
   refine r_W (elA l'v (i.toNat * 3)) rfl (AD (An rfl rfl rfl (Rd.shp hl') ck11)) <| r_y rfl <| Bw (vA #[vS ((l'[i.toNat]!).1), vI ((l'[i.toNat]!).2.1), vI ((l'[i.toNat]!).2.2)]) (En := enc_84) (l'[i.toNat]!) (i.toNat) 0 rfl rfl (Av hl') (AA ck11) rfl <| r_y rfl ?_
   obtain ⟨r12, hr13, hM⟩ := Ab hM
   refine rc (vI r12) (cF Oe) (Jk N ((l'[i.toNat]!).1) ((l'[i.toNat]!).2.1) ((l'[i.toNat]!).2.2) _ hr13) <| r_R [vB (r12 == 0), vB (r12 == 0)] rfl <| Aa <| hK6 _ _ ?_
   refine Af _ rfl (fun hc14 => ?_) (fun hc14 => ?_)
   ·replace hM := iE hc14 hM
    refine Ad <| r_R [vI 0, vB false] rfl <| Aa ?_
    cases hM
    exact aR eV2
   replace hM := iG hc14 hM
   refine Ah <| fg _ (Sub.of suN) ?_
   exact ⟨hM, Ak rfl rfl⟩
  replace hM := ifn (Bool.eq_false_iff.1 (CZ hg10)) hM
  refine r_R [none, none, none, none, none, none, vB true] rfl <| Aa <| hK6 _ _ ?_
  refine Af true rfl (fun _ => ?_) (fun h_ => nomatch h_)
  refine Ad <| r_R [vI 0, vB false] rfl <| Aa ?_
  cases hM
  exact aR eV2
 clear hM; rintro t l ⟨hM, ⟨T, rfl⟩, rfl⟩
 unfold IP at hM
 refine AL [(some 23, false)] (conG prog [(23, cV (GE N (((l').take (i.toNat)).drop 0)) fun u0_ => vI u0_)]) <| r_R [l'v, vI i] rfl ?_
 obtain ⟨ck3, hM⟩ := Ae hM
 refine r_W (EJ l'v 0 (i.toNat) 3) rfl (AD (GK rfl rfl rfl rfl (Rd.shp hl') ck3)) ?_
 obtain ⟨r4, hr5, hM⟩ := Ab hM
 refine rg (vI r4) (cF SF) (fun o w z_ => Pn N (((l').take (i.toNat)).drop 0) _ hr5 z_.view (EJ l'v 0 (i.toNat) 3) ((Ly (Av hl') (Nat.zero_le _) (HC ck3.2)) o w z_)) (AF hr5) <| r_R [vI r4, vB true] rfl <| Aa ?_
 cases hM
 exact aR eV2
def FU (m : Al) (inst : Int) (r4 : Int × Bool) : Option (Int × Int × Bool) := ck (0 ≤ inst ∧ inst < (m.2.2.1.length : Int)) (some (r4.1, ((m.2.2.1)[inst.toNat]!).2.2, true))
def Cp (N : Nat) (m : Al) (inst : Int) : Option (Int × Int × Bool) := (HE N m.2.2.1 inst).bind fun r4 => if r4.2 = true then ck (0 ≤ inst ∧ inst < (m.2.2.1.length : Int)) (if (((m.2.2.1)[inst.toNat]!).2.2 : Int) = 0 then some (0, 0, false) else FU m inst r4 ) else some (0, 0, false)
theorem Js (N : Nat) (m : Al) (inst : Int) (r) (hM : Cp N m inst = some r) (ro : Ro) (mv : AP) (hm : Bun35R ro mv m) : Does prog 239 #[vA (Ac m mv), vI inst] ro [] (pV (vT #[vI r.1, vI r.2.1, vB r.2.2])) := by
 unfold Cp at hM
 refine Aq follows func239 rfl 34 rfl _ fz2 (fun base0_ => ?_)
 refine Ad <| r_a (35, (Ac m mv)) rfl rfl rfl (fun b2 => ?_) (.inr rfl)
 refine r_R [vI 0, vI 0, vB false] rfl <| Aa <| AL [(some 13, false)] (conG prog [(13, cV (HE N m.2.2.1 inst) fun u0_ => vT #[vI u0_.1, vB u0_.2])]) <| r_V (vP b2 2) rfl <| rl mv.2.1 0 <| r_V (vI inst) rfl ?_
 obtain ⟨r4, hr5, hM⟩ := Ab hM
 refine rg (vT #[vI r4.1, vB r4.2]) (cF Yk) (fun o w z_ => UV N m.2.2.1 inst _ hr5 z_.view mv.2.1 ((Av hm.2.1) o w z_)) (AF hr5) <| r_R [vT #[vI r4.1, vB r4.2], vI r4.1, vB r4.2, vI r4.1, vB r4.2] rfl <| Aa <| Bm (fun tt ll => (FU m inst r4  = some r) ∧ Is [(1, vI inst), (2, vP b2 0), (7, vI r4.1)] [(b2, 35, (Ac m mv))] tt ll) ?_ ?_
 ·refine Ai fun K8 hK8 => Ax <| r_R [vB r4.2, vB (!(r4.2)), vB (!(r4.2))] rfl ?_
  rcases hg9 : (!(r4.2)) with _ | _
  ·replace hM := ifp (Da hg9) hM
   refine r_R [vP b2 2] rfl <| r_y rfl <| rl mv.2.1 0 <| r_R [vI inst] rfl <| r_y rfl ?_
   obtain ⟨ck10, hM⟩ := Ae hM
   refine r_W (elA mv.2.1 (inst.toNat * 3)) rfl (AD (An rfl rfl rfl (Rd.shp hm.2.1) ck10)) <| r_y rfl <| r_W (elA mv.2.1 (inst.toNat * 3 + 2)) rfl (AD (AH rfl rfl rfl rfl rfl rfl (Rd.shp hm.2.1) (AY ck10))) <| r_y rfl <| Bw (vI (((m.2.2.1)[inst.toNat]!).2.2)) (En := enc_84) ((m.2.2.1)[inst.toNat]!) (inst.toNat) 2 rfl rfl (Av hm.2.1) (AA ck10) rfl <| r_R [vB (((((m.2.2.1)[inst.toNat]!).2.2 : Int) == 0)), vB (((((m.2.2.1)[inst.toNat]!).2.2 : Int) == 0))] rfl <| Aa <| hK8 _ _ ?_
   refine Af _ rfl (fun hc11 => ?_) (fun hc11 => ?_)
   ·replace hM := iE hc11 hM
    refine Ad <| r_R [vI 0, vI 0, vB false] rfl <| Aa ?_
    cases hM
    exact aR eV3
   replace hM := iG hc11 hM
   refine Ah <| fg _ (Sub.of (suK _ suN)) ?_
   exact ⟨hM, Ak rfl rfl⟩
  replace hM := ifn (Bool.eq_false_iff.1 (CZ hg9)) hM
  refine r_R [none, none, none, none, none, none, none, vB true] rfl <| Aa <| hK8 _ _ ?_
  refine Af true rfl (fun _ => ?_) (fun h_ => nomatch h_)
  refine Ad <| r_R [vI 0, vI 0, vB false] rfl <| Aa ?_
  cases hM
  exact aR eV3
 clear hM; rintro t l ⟨hM, ⟨T, rfl⟩, rfl⟩
 unfold FU at hM
 refine Ai fun K6 hK6 => Ge [] (by decide +kernel) (fun hn => Be) <| r_R [vI r4.1, vP b2 2] rfl <| rl mv.2.1 0 <| r_V (vI inst) rfl ?_
 obtain ⟨ck7, hM⟩ := Ae hM
 refine r_W (elA mv.2.1 (inst.toNat * 3)) rfl (AD (An rfl rfl rfl (Rd.shp hm.2.1) ck7)) <| r_W (elA mv.2.1 (inst.toNat * 3 + 2)) rfl (AD (AH rfl rfl rfl rfl rfl rfl (Rd.shp hm.2.1) (AY ck7))) <| Bw (vI (((m.2.2.1)[inst.toNat]!).2.2)) (En := enc_84) ((m.2.2.1)[inst.toNat]!) (inst.toNat) 2 rfl rfl (Av hm.2.1) (AA ck7) rfl <| r_R [vI r4.1, vI (((m.2.2.1)[inst.toNat]!).2.2), vB true] rfl <| Aa <| hK6 _ _ ?_
 cases hM
 exact aR eV3
def Gd (N : Nat) (c : Al) (_ : Int) (x_0 : Int) (x_1 : Int) : Option Int := if x_0 = 0 then (Ip N c.2.2.1 x_1).bind fun r9 => if r9.2.2 = true then ck (0 ≤ r9.1 ∧ r9.1 < (c.2.2.1.length : Int)) ((Ag N ((((c.2.2.1)[(r9.1).toNat]!).2.2 : Int) == 0) 5).bind fun r16 => some r16) else (Ag N false 5).bind fun r13 => some r13 else if x_0 = 1 then (Cp N c x_1).bind fun r21 => (Ag N r21.2.2 5).bind fun r24 => some r24 else if x_0 = 2 then (Az N x_1 1 64).bind fun r29 => (Ag N r29 7).bind fun r31 => some r31 else some 10
theorem Tt (N : Nat) (c : Al) (x x_0 x_1 r : Int) (hM : Gd N c x x_0 x_1 = some r) (ro : Ro) (cv : AP) (hc : Bun35R ro cv c) : Does prog 181 #[vA (Ac c cv), vI x, vA #[vI x_0, vI x_1]] ro [] (pV (vI r)) := by
 unfold Gd at hM
 refine Aq follows func181 rfl 58 rfl _ fz3 (fun base0_ => ?_)
 refine Ad <| r_a (92, (Ac c cv)) rfl rfl rfl (fun b2 => ?_) (.inr rfl)
 refine r_a (164, #[vI x_0, vI x_1]) rfl rfl rfl (fun b3 => ?_) (.inr rfl)
 refine r_V (vI 0) rfl <| Aa <| Ai fun K4 hK4 => Ad <| r_V (vP b3 0) rfl <| rl (vI x_0) 0 <| Aa <| Ap <| Ad <| r_R [vB (x_0 == 0), vB (x_0 == 0)] rfl <| Aa <| Af _ rfl (fun hc7 => ?_) (fun hc7 => ?_)
 ·replace hM := iE hc7 hM
  refine AL [(some 23, false)] (conG prog [(23, cV (Ip N c.2.2.1 x_1) fun u0_ => vT #[vI u0_.1, vI u0_.2.1, vB u0_.2.2])]) <| r_R [vP b2 0, vP b2 2] rfl <| rl cv.2.1 1 <| r_V (vP b3 1) rfl <| rl (vI x_1) 0 ?_
  obtain ⟨r9, hr10, hM⟩ := Ab hM
  refine rg (vT #[vI r9.1, vI r9.2.1, vB r9.2.2]) (cF Og) (fun o w z_ => Tf N c.2.2.1 x_1 _ hr10 z_.view cv.2.1 ((Av hc.2.1) o w z_)) (AF hr10) <| r_R [vT #[vI r9.1, vI r9.2.1, vB r9.2.2], vI r9.1, vI r9.2.1, vB r9.2.2, vI r9.1, vI r9.2.1, vB r9.2.2] rfl <| Aa <| Ai fun K11 hK11 => Ax <| r_R [vB r9.2.2, vB r9.2.2] rfl ?_
  rcases hg12 : r9.2.2 with _ | _
  ·replace hM := iB hg12 hM
   refine r_R [none, none, none, none, none, none, none, none, vB false] rfl ?_
   obtain ⟨r13, hr14, hM⟩ := Ab hM
   refine rc (vI r13) (cF AJ) (AB N false 5 _ hr14) <| r_V (vI r13) rfl <| Aa <| hK11 _ _ ?_
   refine Cd [(6, vI r13)] rfl (fun T => ?_)
   cases hM
   exact aR eV1
  replace hM := ifp hg12 hM
  refine r_R [vP b2 0, vP b2 2] rfl <| r_y rfl <| rl cv.2.1 1 <| r_R [vI r9.1] rfl <| r_y rfl ?_
  obtain ⟨ck15, hM⟩ := Ae hM
  refine r_W (elA cv.2.1 ((r9.1).toNat * 3)) rfl (AD (An rfl rfl rfl (Rd.shp hc.2.1) ck15)) <| r_y rfl <| r_W (elA cv.2.1 ((r9.1).toNat * 3 + 2)) rfl (AD (AH rfl rfl rfl rfl rfl rfl (Rd.shp hc.2.1) (AY ck15))) <| r_y rfl <| Bw (vI (((c.2.2.1)[(r9.1).toNat]!).2.2)) (En := enc_84) ((c.2.2.1)[(r9.1).toNat]!) ((r9.1).toNat) 2 rfl rfl (Av hc.2.1) (AA ck15) rfl <| r_R [vB (((((c.2.2.1)[(r9.1).toNat]!).2.2 : Int) == 0)), vB (((((c.2.2.1)[(r9.1).toNat]!).2.2 : Int) == 0))] rfl ?_
  obtain ⟨r16, hr17, hM⟩ := Ab hM
  refine rc (vI r16) (cF AJ) (AB N ((((c.2.2.1)[(r9.1).toNat]!).2.2 : Int) == 0) 5 _ hr17) <| r_V (vI r16) rfl <| Aa <| hK11 _ _ ?_
  refine Cd [(6, vI r16)] rfl (fun T => ?_)
  cases hM
  exact aR eV1
 replace hM := iG hc7 hM
 refine Ad <| r_R [vB (x_0 == 1), vB (x_0 == 1)] rfl <| Aa <| Af _ rfl (fun hc19 => ?_) (fun hc19 => ?_)
 ·replace hM := iE hc19 hM
  refine AL [(some 46, false)] (conG prog [(46, cV (Cp N c x_1) fun u0_ => vT #[vI u0_.1, vI u0_.2.1, vB u0_.2.2])]) <| r_V (vP b2 0) rfl <| rl (vA (Ac c cv)) 1 <| r_V (vP b3 1) rfl <| rl (vI x_1) 0 ?_
  obtain ⟨r21, hr22, hM⟩ := Ab hM
  refine rg (vT #[vI r21.1, vI r21.2.1, vB r21.2.2]) (cF Sx) (fun o w z_ => Js N c x_1 _ hr22 z_.view cv (Bun35R.mono z_.ro_cell hc)) (AF hr22) <| r_R [vT #[vI r21.1, vI r21.2.1, vB r21.2.2], vI r21.1, vI r21.2.1, vB r21.2.2, vI r21.1, vI r21.2.1, vB r21.2.2] rfl <| Aa <| Ad <| r_V (vB r21.2.2) rfl ?_
  obtain ⟨r24, hr25, hM⟩ := Ab hM
  refine rc (vI r24) (cF AJ) (AB N r21.2.2 5 _ hr25) <| r_V (vI r24) rfl <| Aa ?_
  cases hM
  exact aR eV1
 replace hM := iG hc19 hM
 refine Ad <| r_R [vB (x_0 == 2), vB (x_0 == 2)] rfl <| Aa <| Af _ rfl (fun hc27 => ?_) (fun hc27 => ?_)
 ·replace hM := iE hc27 hM
  refine Ad <| r_V (vP b3 1) rfl <| rl (vI x_1) 0 ?_
  obtain ⟨r29, hr30, hM⟩ := Ab hM
  refine rc (vB r29) (cF BP) (AI N x_1 1 64 _ hr30) ?_
  obtain ⟨r31, hr32, hM⟩ := Ab hM
  refine rc (vI r31) (cF AJ) (AB N r29 7 _ hr32) <| r_V (vI r31) rfl <| Aa ?_
  cases hM
  exact aR eV1
 replace hM := iG hc27 hM
 refine Ah <| hK4 _ _ ?_
 refine Ad <| r_V (vI 10) rfl <| Aa ?_
 cases hM
 exact aR eV1
def Fy (N : Nat) (l' : List (Int × Int)) (ask0_ : Al) : Nat → Int → Option (Int × Int)
  | 0, _ => none
  | n8 + 1, x1_ => if x1_ < (l'.length : Int) then ck (0 ≤ x1_ ∧ x1_ < (l'.length : Int)) ((Gd N ask0_ x1_ ((l'[x1_.toNat]!).1) ((l'[x1_.toNat]!).2)).bind fun r17 => if (r17 : Int) ≠ 0 then some (x1_, r17) else ck (-9223372036854775808 ≤ (x1_ + 1) ∧ (x1_ + 1) ≤ 9223372036854775807) ((Fy N l' ask0_ n8) (x1_ + 1))) else some (0, 0)
def Hq (N : Nat) (l' : List (Int × Int)) (most : Int) (ask0_ : Al) : Option (Int × Int) := if (l'.length : Int) > most then some (0, 2) else Fy N l' ask0_ N 0
theorem RD (N : Nat) (l' : List (Int × Int)) (most : Int) (ask0_ : Al) (r) (hM : Hq N l' most ask0_ = some r) (ro : Ro) (l'v : Value) (hl' : Rd enc_164 ro l'v l') (ask0_v : AP) (hask0_ : Bun35R ro ask0_v ask0_) : Does prog 180 #[l'v, vI most, vF 181 #[vA (Ac ask0_ ask0_v)] #[]] ro [] (pV (vT #[vI r.1, vI r.2])) := by
 unfold Hq at hM
 refine Aq follows func180 rfl 31 rfl _ fz3 (fun base0_ => ?_)
 refine Ad <| r_R [vI 0, vI 0] rfl <| Aa <| Ai fun K2 hK2 => Ad <| r_V l'v rfl <| r_W (vI (l'.length : Int)) rfl (Aj rfl rfl rfl (Rd.shp hl')) <| r_R [vI most, vB (decide ((l'.length : Int) > most))] rfl <| Aa <| Af _ rfl (fun hc4 => ?_) (fun hc4 => ?_)
 ·replace hM := iD hc4 hM
  refine Ad <| r_R [vI 0, vI 2] rfl <| Aa ?_
  cases hM
  exact aR eV2
 replace hM := iF hc4 hM
 refine Ah <| hK2 _ _ ?_
 refine Ai fun K6 hK6 => Ad <| r_V l'v rfl <| r_W (vI (l'.length : Int)) rfl (Aj rfl rfl rfl (Rd.shp hl')) <| r_V (vI 0) rfl <| Aa <| Ap <| AS (fun tt ll nn => ∃ (n8 : Nat) (x1_ : Int), (Fy N l' ask0_ n8 x1_ = some r) ∧ Is [(2, vF 181 #[vA (Ac ask0_ ask0_v)] #[]), (15, l'v), (16, vI (l'.length : Int)), (17, vI x1_)] [] tt ll ∧ nn = n8 + 1) (N + 1) ?_ ?_
 ·exact ⟨N, 0, hM, Ak rfl rfl, rfl⟩
 clear hM; rintro t l _ ⟨n8, x1_, hM, ⟨⟨T, rfl⟩, rfl⟩, rfl⟩
 rcases n8 with _ | n8
 ·exact absurd hM (by simp [Fy])
 rw [Fy] at hM
 refine Ad <| r_V (vB (decide (x1_ < (l'.length : Int)))) rfl <| Aa <| Ai fun K10 hK10 => Af _ rfl (fun hc11 => ?_) (fun hc11 => ?_)
 ·replace hM := iD hc11 hM
  refine Ah <| hK10 _ _ ?_
  refine Ai fun K12 hK12 => Ap <| Ad <| r_V (vI x1_) rfl ?_
  obtain ⟨ck14, hM⟩ := Ae hM
  refine r_W (elA l'v (x1_.toNat * 2)) rfl (AD (An rfl rfl rfl (Rd.shp hl') ck14)) <| Bw (vA #[vI ((l'[x1_.toNat]!).1), vI ((l'[x1_.toNat]!).2)]) (En := enc_164) (l'[x1_.toNat]!) (x1_.toNat) 0 rfl rfl (Av hl') (AA ck14) rfl <| r_a (164, #[vI 0, vI 0]) rfl rfl rfl (fun b15 => ?_) (.inr rfl)
  refine r_V (vI x1_) rfl <| r_s (WU b15 ((l'[x1_.toNat]!).1) ((l'[x1_.toNat]!).2)) 0 _ _ _ _ _ (#[vI ((l'[x1_.toNat]!).1), vI ((l'[x1_.toNat]!).2)]) rfl rfl rfl rfl (.of rfl rfl) rfl rfl <| Aa <| AL [(some 25, false)] (conG prog [(25, cV (Gd N ask0_ x1_ ((l'[x1_.toNat]!).1) ((l'[x1_.toNat]!).2)) fun u0_ => vI u0_)]) <| r_R [vF 181 #[vA (Ac ask0_ ask0_v)] #[], vI x1_] rfl <| rl (vA #[vI ((l'[x1_.toNat]!).1), vI ((l'[x1_.toNat]!).2)]) 0 ?_
  obtain ⟨r17, hr18, hM⟩ := Ab hM
  refine rg (vI r17) (Ca (bd := [vA (Ac ask0_ ask0_v)]) (caps := []) rfl Zs rfl) (fun o w z_ => Tt N ask0_ x1_ ((l'[x1_.toNat]!).1) ((l'[x1_.toNat]!).2) _ hr18 z_.view ask0_v (Bun35R.mono z_.ro_cell hask0_)) (AF hr18) <| r_V (vI r17) rfl <| Aa <| Ad <| r_R [vI r17, vB (r17 != 0)] rfl <| Aa <| Af _ rfl (fun hc20 => ?_) (fun hc20 => ?_)
  ·replace hM := iN hc20 hM
   refine Ad <| r_R [vI x1_, vI r17, vI x1_, vI r17] rfl <| Aa ?_
   cases hM
   exact aR eV2
  replace hM := iM hc20 hM
  refine Ah <| hK12 _ _ ?_
  refine Ax ?_
  obtain ⟨ck22, hM⟩ := Ae hM
  refine r_X (vI (x1_ + 1)) rfl (AR rfl ck22.1 ck22.2) rfl <| r_V (vI (x1_ + 1)) rfl <| Aa <| fg _ (Sub.of (suC _ suN)) ?_
  exact ⟨n8 + 1, by omega, n8, (x1_ + 1), hM, Ak rfl rfl, rfl⟩
 replace hM := iF hc11 hM
 refine AM <| hK6 _ _ ?_
 refine Ad <| r_R [vI 0, vI 0] rfl <| Aa ?_
 cases hM
 exact aR eV2
def JL (_ : Nat) (s : List UInt8) : Option (List UInt8) := if (s.length : Int) = 0 then some ([]) else ck (0 ≤ (s.length : Int) ∧ (s.length : Int) ≤ 140737488355328) (ck (0 ≤ (0 : Int) ∧ (0 : Int) < ((((s).take ((List.replicate ((s.length : Int)).toNat (0 : UInt8))).length ++ ((List.replicate ((s.length : Int)).toNat (0 : UInt8))).drop (s).length)).length : Int)) (ck ((((s).take ((List.replicate ((s.length : Int)).toNat (0 : UInt8))).length ++ ((List.replicate ((s.length : Int)).toNat (0 : UInt8))).drop (s).length)).length ≤ 140737488355328) (some (((s).take ((List.replicate ((s.length : Int)).toNat (0 : UInt8))).length ++ ((List.replicate ((s.length : Int)).toNat (0 : UInt8))).drop (s).length)))))
theorem Vl (N : Nat) (s r : List UInt8) (hM : JL N s = some r) : Gives prog 86 #[vS s] (vS r) := by
 unfold JL at hM
 refine AC follows func86 rfl 18 rfl _ fz1 (fun base0_ => ?_)
 refine Ad <| r_V (Value.string (⟨#[]⟩)) rfl <| Aa <| Ai fun K2 hK2 => Ad <| r_V (vS s) rfl <| r_W (vI (s.length : Int)) rfl (Il rfl rfl rfl) <| r_V (vB (((s.length : Int) == 0))) rfl <| Aa <| Af _ rfl (fun hc4 => ?_) (fun hc4 => ?_)
 ·replace hM := iE hc4 hM
  refine Ad <| r_V (Value.string (⟨#[]⟩)) rfl <| Aa ?_
  cases hM
  exact aR eE1
 replace hM := iG hc4 hM
 refine Ah <| hK2 _ _ ?_
 refine AL [(some 9, false)] (conG prog [(9, fun _ _ v_ L_ U_ => (p1 (fun v => v) 5 encY (List.replicate ((s.length : Int)).toNat (0 : UInt8))) v_ L_ U_)]) <| r_V (vS s) rfl <| r_W (vI (s.length : Int)) rfl (Il rfl rfl rfl) ?_
 obtain ⟨ck7, hM⟩ := Ae hM
 refine MW (Ls := []) 5 encY (0 : UInt8) (s.length : Int) rfl rfl rfl rfl rfl rfl rfl rfl rfl rfl 140737488355328 rfl ck7 (fun _ _ _ _ _ => Iff.rfl) (fun s8 S9 H10 => ?_)
 refine r_V s8 rfl <| Aa <| AL [(some 12, true)] (conG prog [(12, fun _ _ v_ L_ U_ => (pUp (fun v_ U_ => v_ = .int .i64 ((min (s).length ((List.replicate ((s.length : Int)).toNat (0 : UInt8))).length : Nat) : Int) ∧ Sl 5 encY s8 ((s).take ((List.replicate ((s.length : Int)).toNat (0 : UInt8))).length ++ ((List.replicate ((s.length : Int)).toNat (0 : UInt8))).drop (s).length) U_ ∧ U_.map (·.1) = S9.map (·.1))) v_ L_ U_)]) <| r_R [s8, vS s] rfl <| dt (Lo := True) (Ls := [S9]) 0 s rfl rfl rfl rfl rfl rfl H10 rfl rfl rfl (fun _ _ _ _ _ => Iff.rfl) (fun S12 H13 => ?_)
 refine Aa <| AL [(some 17, true)] (conG prog [(17, fun _ _ v_ L_ U_ => (pUp (fun v_ U_ => v_ = .string ⟨(((s).take ((List.replicate ((s.length : Int)).toNat (0 : UInt8))).length ++ ((List.replicate ((s.length : Int)).toNat (0 : UInt8))).drop (s).length)).toArray⟩ ∧ U_ = Im S12)) v_ L_ U_)]) <| r_V s8 rfl ?_
 obtain ⟨ck15, hM⟩ := Ae hM
 refine r_W (elA s8 (((0 : Int)).toNat * 1)) rfl (AD (An rfl rfl rfl (Sl.shp H13) ck15)) <| r_V s8 rfl <| r_W (vI (((((s).take ((List.replicate ((s.length : Int)).toNat (0 : UInt8))).length ++ ((List.replicate ((s.length : Int)).toNat (0 : UInt8))).drop (s).length)).length : Int))) rfl (Aj rfl rfl rfl (Sl.shp H13)) ?_
 obtain ⟨ck16, hM⟩ := Ae hM
 refine Wl (Ls := [S12]) 0 (xs := ((s).take ((List.replicate ((s.length : Int)).toNat (0 : UInt8))).length ++ ((List.replicate ((s.length : Int)).toNat (0 : UInt8))).drop (s).length)) rfl rfl rfl rfl rfl rfl (Sl.strict H13 (AY ck15)) (db s8 (Sl.strict H13 (AY ck15)) (AY ck15)) rfl (by kernel_rfl) rfl ck16 (fun _ _ _ _ _ => Iff.rfl) <| Cw (Ls := [Im S12]) (Ls' := []) [] rfl rfl <| r_V (vS (((s).take ((List.replicate ((s.length : Int)).toNat (0 : UInt8))).length ++ ((List.replicate ((s.length : Int)).toNat (0 : UInt8))).drop (s).length))) rfl <| Aa ?_
 cases hM
 exact aR eE1
def HF (N : Nat) (s : List UInt8) : Option (List UInt8) := (JL N s).bind fun r3 => some r3
theorem Po (N : Nat) (s r : List UInt8) (hM : HF N s = some r) : Gives prog 20 #[vS s] (vS r) := by
 unfold HF at hM
 refine AC follows func20 rfl 5 rfl _ fz1 (fun base0_ => ?_)
 refine Ad <| r_V (Value.string (⟨#[]⟩)) rfl <| Aa <| Ad <| r_V (vS s) rfl ?_
 obtain ⟨r3, hr4, hM⟩ := Ab hM
 refine rc (vS r3) (cF bX) (Vl N s _ hr4) <| r_V (vS r3) rfl <| Aa ?_
 cases hM
 exact aR eE1
def Bj (_ : Nat) (s : List (List UInt8 × Int)) : Option (List (List UInt8 × Int)) := ck ((([] : List (List UInt8 × Int))).length + (s).length ≤ 5864062014805) (some (([] : List (List UInt8 × Int)) ++ s))
theorem Gl (N : Nat) (s r : List (List UInt8 × Int)) (hM : Bj N s = some r) (ro : Ro) (sv : Value) (hs : Rd enc_50 ro sv s) : Does prog 89 #[sv] ro [] (p1 (fun s_ => s_) 50 enc_50 r) := by
 unfold Bj at hM
 refine Aq follows func89 rfl 8 rfl _ fz1 (fun base0_ => ?_)
 refine Ad <| r_V nS rfl <| Aa <| Ai fun K2 hK2 => Ai fun K3 hK3 => Ax <| r_V sv rfl ?_
 rcases bj (Rd.shp hs) with ⟨hz4, hl5⟩ | hne6
 ·obtain rfl := hz4; obtain rfl := List.eq_nil_of_length_eq_zero hl5
  replace hM : (some ([])) = some r := (by first | exact hM | (simp at hM ⊢; exact hM))
  refine r_V (.bool true) rfl <| Aa <| hK3 _ _ ?_
  refine Af true rfl (fun _ => ?_) (fun h_ => nomatch h_)
  refine Ad <| r_V nS rfl <| Aa ?_
  cases hM
  refine AW (fun hn => Ex (v0 := nS) Sl.nil (Sub.nil _) rfl (Cy rfl))
 refine r_W (.bool false) rfl (Vq rfl rfl rfl (Rd.shp hs) hne6) <| Aa <| hK3 _ _ ?_
 refine Af false rfl (fun h_ => nomatch h_) (fun _ => ?_)
 refine Ah <| hK2 _ _ ?_
 refine AL [(some 5, false), (some 7, true)] (conG prog []) <| Dj (cs0 := []) (Ls := []) 50 enc_50 ([] : List (List UInt8 × Int)) [] [] rfl rfl rfl rfl rfl rfl rfl (by kernel_rfl) (by kernel_rfl) rfl rfl rfl (fun s8 S9 H10 => ?_)
 refine r_V sv rfl ?_
 obtain ⟨ck11, hM⟩ := Ae hM
 refine HJ (cs0 := []) (Ls := [S9]) 0 (En := enc_50) rfl rfl rfl rfl rfl H10 rfl (Av hs) rfl rfl rfl rfl rfl (HV ck11 rfl) (HU ck11 rfl) rfl (fun s12 S13 H14 => ?_)
 refine r_V s12 rfl <| Aa ?_
 cases hM
 refine AW (fun hn => Ex (v0 := s12) H14 (Cv (Sub.pick [S13] [0] rfl)) rfl (Cy rfl))
def CI (N : Nat) (h_2 : Int) (h_3 : Int) (h_4 : Int) (h_5 : Int) (r5 : List UInt8) (r8 : List (List UInt8 × Int)) : Nat → Int → List (List UInt8 × Int) → Option ((List UInt8) × (List (List UInt8 × Int)) × Int × Int × Int × Int)
  | 0, _, _ => none
  | n15 + 1, x1_, s2_ => if x1_ < (r8.length : Int) then ck (0 ≤ x1_ ∧ x1_ < (s2_.length : Int)) ((HF N ((s2_[x1_.toNat]!).1)).bind fun r22 => ck (0 ≤ x1_ ∧ x1_ < (s2_.length : Int)) (ck (-9223372036854775808 ≤ (x1_ + 1) ∧ (x1_ + 1) ≤ 9223372036854775807) ((CI N h_2 h_3 h_4 h_5 r5 r8 n15) (x1_ + 1) ((s2_).set (x1_.toNat) (r22, (s2_[x1_.toNat]!).2))))) else some (r5, s2_, h_2, h_3, h_4, h_5)
def Fh (N : Nat) (h_0 : List UInt8) (h_1 : List (List UInt8 × Int)) (h_2 : Int) (h_3 : Int) (h_4 : Int) (h_5 : Int) : Option ((List UInt8) × (List (List UInt8 × Int)) × Int × Int × Int × Int) := (HF N h_0).bind fun r5 => (Bj N h_1).bind fun r8 => CI N h_2 h_3 h_4 h_5 r5 r8 N 0 r8
theorem PW (N : Nat) (h_0 : List UInt8) (h_1 : List (List UInt8 × Int)) (h_2 : Int) (h_3 : Int) (h_4 : Int) (h_5 : Int) (r) (hM : Fh N h_0 h_1 h_2 h_3 h_4 h_5 = some r) (ro : Ro) (h_1v : Value) (hh_1 : Rd enc_50 ro h_1v h_1) : Does prog 160 #[vA #[vS h_0, h_1v, vI h_2, vI h_3, vI h_4, vI h_5]] ro [] (p1 (fun s_ => vA #[vS r.1, s_, vI r.2.2.1, vI r.2.2.2.1, vI r.2.2.2.2.1, vI r.2.2.2.2.2]) 50 enc_50 r.2.1) := by
 unfold Fh at hM
 refine Aq follows func160 rfl 32 rfl _ fz1 (fun base0_ => ?_)
 refine Ad <| r_a (48, #[vS h_0, h_1v, vI h_2, vI h_3, vI h_4, vI h_5]) rfl rfl rfl (fun b2 => ?_) (.inr rfl)
 refine r_a (48, #[Value.string (⟨#[]⟩), nS, vI 0, vI 0, vI 0, vI 0]) rfl rfl rfl (fun b3 => ?_) (.inr rfl)
 refine Aa <| Ad <| r_V (vP b2 0) rfl <| rl (vS h_0) 1 ?_
 obtain ⟨r5, hr6, hM⟩ := Ab hM
 refine rc (vS r5) (cF UK) (Po N h_0 _ hr6) <| r_V (vP b2 0) rfl <| r_s [(b3, 48, #[Value.string (⟨#[]⟩), nS, vI 0, vI 0, vI 0, vI 0]), (b2, 48, #[vS r5, h_1v, vI h_2, vI h_3, vI h_4, vI h_5])] 1 _ _ _ _ _ (#[vS r5, h_1v, vI h_2, vI h_3, vI h_4, vI h_5]) rfl rfl rfl rfl (.of rfl rfl) rfl rfl <| Aa <| AL [(some 10, false)] (conG prog [(10, fun _ _ v_ L_ U_ => ∀ u0_, Bj N h_1 = some u0_ → (p1 (fun s_ => s_) 50 enc_50 u0_) v_ L_ U_)]) <| r_V (vP b2 1) rfl <| rl h_1v 1 ?_
 obtain ⟨r8, hr9, hM⟩ := Ab hM
 refine Iy (Ls := [(FT b3 (Value.string (⟨#[]⟩)) nS 0 0 0 0), (Cx b2 r5 h_1v h_2 h_3 h_4 h_5)]) (fun s10 => s10) 50 enc_50 r8 89 _ rfl rfl rfl (cF bW) (fun o w z_ => Gl N h_1 _ hr9 z_.view h_1v ((Av hh_1) o w z_)) (AF hr9) (fun s10 S11 H12 => ?_)
 refine r_V (vP b2 1) rfl <| r_s (List.flatten [(FT b3 (Value.string (⟨#[]⟩)) nS 0 0 0 0), (Cx b2 r5 s10 h_2 h_3 h_4 h_5), S11]) 1 _ _ _ _ _ (#[vS r5, s10, vI h_2, vI h_3, vI h_4, vI h_5]) rfl rfl rfl (Du rfl (Sl.shp H12)) (.ofS rfl rfl (Ao (Shp.one (Sl.shp H12)) Bi)) rfl rfl <| Aa <| Ai fun K13 hK13 => Ad <| r_V (vP b2 1) rfl <| rl s10 1 <| r_W (vI (r8.length : Int)) rfl (Aj rfl rfl rfl (Sl.shp H12)) <| r_V (vI 0) rfl <| Aa <| Ap ?_
 refine BF _ (Sub.pick [(FT b3 (Value.string (⟨#[]⟩)) nS 0 0 0 0), (Cx b2 r5 s10 h_2 h_3 h_4 h_5), S11] [0, 1, 2] rfl) <| AS (fun tt ll nn => ∃ (n15 : Nat) (x1_ : Int) (s2_ : List (List UInt8 × Int)), (CI N h_2 h_3 h_4 h_5 r5 r8 n15 x1_ s2_ = some r) ∧ ∃ (Ss2_ : List Bl), Sl 50 enc_50 s10 s2_ Ss2_ ∧ Is [(1, vP b2 0), (2, vP b3 0), (14, vI (r8.length : Int)), (15, vI x1_)] (List.flatten [(FT b3 (Value.string (⟨#[]⟩)) nS 0 0 0 0), (Cx b2 r5 s10 h_2 h_3 h_4 h_5), Ss2_]) tt ll ∧ nn = n15 + 1) (N + 1) ?_ ?_
 ·exact ⟨N, 0, r8, hM, S11, H12, Ak rfl rfl, rfl⟩
 clear hM; rintro t l _ ⟨n15, x1_, s2_, hM, Ss2_, hs2_, ⟨⟨T, rfl⟩, rfl⟩, rfl⟩
 rcases n15 with _ | n15
 ·exact absurd hM (by simp [CI])
 rw [CI] at hM
 refine Ad <| r_V (vB (decide (x1_ < (r8.length : Int)))) rfl <| Aa <| Ai fun K17 hK17 => Af _ rfl (fun hc18 => ?_) (fun hc18 => ?_)
 ·replace hM := iD hc18 hM
  refine Ah <| hK17 _ _ ?_
  refine Ai fun K19 hK19 => Ap <| Ad <| r_R [vI x1_, vI x1_] rfl <| Aa <| Ge [] (by decide +kernel) (fun hn => Be) <| r_V (vP b2 1) rfl <| rl s10 1 <| r_R [vI x1_, vP b2 1] rfl <| rl s10 1 <| r_V (vI x1_) rfl ?_
  obtain ⟨ck21, hM⟩ := Ae hM
  refine r_W (elA s10 (x1_.toNat * 2)) rfl (AD (An rfl rfl rfl (Sl.shp hs2_) ck21)) <| r_W (elA s10 (x1_.toNat * 2 + 0)) rfl (AD (AH rfl rfl rfl rfl rfl rfl (Sl.shp hs2_) (AY ck21))) <| Bw (vS ((s2_[x1_.toNat]!).1)) (En := enc_50) (s2_[x1_.toNat]!) (x1_.toNat) 0 rfl rfl (AN hs2_ (Aw (Ls := [(FT b3 (Value.string (⟨#[]⟩)) nS 0 0 0 0), (Cx b2 r5 s10 h_2 h_3 h_4 h_5), Ss2_]) (k := 2) rfl rfl)) (AA ck21) rfl ?_
  obtain ⟨r22, hr23, hM⟩ := Ab hM
  refine rc (vS r22) (cF UK) (Po N ((s2_[x1_.toNat]!).1) _ hr23) ?_
  obtain ⟨ck24, hM⟩ := Ae hM
  refine r_W (elA s10 (x1_.toNat * 2)) rfl (AD (An rfl rfl rfl (Sl.shp hs2_) ck24)) <| r_W (elA s10 (x1_.toNat * 2 + 0)) rfl (AD (AH rfl rfl rfl rfl rfl rfl (Sl.shp hs2_) (AY ck24))) <| MV (Ls := [(FT b3 (Value.string (⟨#[]⟩)) nS 0 0 0 0), (Cx b2 r5 s10 h_2 h_3 h_4 h_5), Ss2_]) 2 (En := enc_50) (s2_[x1_.toNat]!) (r22, (s2_[x1_.toNat]!).2) (x1_.toNat) 0 rfl rfl rfl hs2_ (AA ck24) rfl rfl rfl (Gr rfl) rfl (fun S25 H26 => ?_)
  refine Aa <| hK19 _ _ ?_
  refine Ax ?_
  obtain ⟨ck27, hM⟩ := Ae hM
  refine r_X (vI (x1_ + 1)) rfl (AR rfl ck27.1 ck27.2) rfl <| r_V (vI (x1_ + 1)) rfl <| Aa <| fg _ (Sub.pick [(FT b3 (Value.string (⟨#[]⟩)) nS 0 0 0 0), (Cx b2 r5 s10 h_2 h_3 h_4 h_5), S25] [0, 1, 2] rfl) ?_
  exact ⟨n15 + 1, by omega, n15, (x1_ + 1), (s2_).set (x1_.toNat) (r22, (s2_[x1_.toNat]!).2), hM, S25, H26, Ak rfl rfl, rfl⟩
 replace hM := iF hc18 hM
 refine AM <| hK13 _ _ ?_
 refine Ad <| rl (vA #[vS r5, s10, vI h_2, vI h_3, vI h_4, vI h_5]) 1 <| r_s (List.flatten [(Cx b3 r5 s10 h_2 h_3 h_4 h_5), (Cx b2 r5 s10 h_2 h_3 h_4 h_5), Ss2_]) 0 _ _ _ _ _ (#[vS r5, s10, vI h_2, vI h_3, vI h_4, vI h_5]) rfl rfl rfl rfl (.ofS rfl rfl (Ao rfl (Ao (Shp.one (Sl.shp hs2_)) (Ao rfl (Ao rfl (Ao rfl (Ao rfl Bi))))))) rfl rfl <| Aa ?_
 cases hM
 refine AW (fun hn => Ex (v0 := vA #[vS r5, s10, vI h_2, vI h_3, vI h_4, vI h_5]) hs2_ (Cv (Sub.pick [(Cx b3 r5 s10 h_2 h_3 h_4 h_5), (Cx b2 r5 s10 h_2 h_3 h_4 h_5), Ss2_] [2] rfl)) rfl (Cy (AZ hn 0 rfl rfl rfl)))
def Ia (N : Nat) (headers : List ((List UInt8) × (List (List UInt8 × Int)) × Int × Int × Int × Int)) (l' : List (List UInt8 × Int × Int)) (r4 : Int × Int × Bool) : Option ((List UInt8) × (List (List UInt8 × Int)) × Int × Int × Int × Int × Bool) := ck (0 ≤ r4.1 ∧ r4.1 < (l'.length : Int)) (ck (0 ≤ (l'[(r4.1).toNat]!).2.1 ∧ (l'[(r4.1).toNat]!).2.1 < (headers.length : Int)) ((Fh N (headers[((l'[(r4.1).toNat]!).2.1).toNat]!.1) (headers[((l'[(r4.1).toNat]!).2.1).toNat]!.2.1) (headers[((l'[(r4.1).toNat]!).2.1).toNat]!.2.2.1) (headers[((l'[(r4.1).toNat]!).2.1).toNat]!.2.2.2.1) (headers[((l'[(r4.1).toNat]!).2.1).toNat]!.2.2.2.2.1) (headers[((l'[(r4.1).toNat]!).2.1).toNat]!.2.2.2.2.2)).bind fun r12 => some (r12.1, r12.2.1, r12.2.2.1, r12.2.2.2.1, r12.2.2.2.2.1, r12.2.2.2.2.2, true)))
def GG (N : Nat) (headers : List ((List UInt8) × (List (List UInt8 × Int)) × Int × Int × Int × Int)) (l' : List (List UInt8 × Int × Int)) (slot : Int) : Option ((List UInt8) × (List (List UInt8 × Int)) × Int × Int × Int × Int × Bool) := (Ip N l' slot).bind fun r4 => if r4.2.2 = true then ck (0 ≤ r4.1 ∧ r4.1 < (l'.length : Int)) (ck ((-9223372036854775808 ≤ ((headers.length : Int) - 1) ∧ ((headers.length : Int) - 1) ≤ 9223372036854775807)) ((BV N ((l'[(r4.1).toNat]!).2.1) 0 ((headers.length : Int) - 1)).bind fun r21 => if r21 = true then Ia N headers l' r4  else some ([], [], 0, 0, 0, 0, false))) else some ([], [], 0, 0, 0, 0, false)
theorem Th (N : Nat) (headers : List ((List UInt8) × (List (List UInt8 × Int)) × Int × Int × Int × Int)) (l' : List (List UInt8 × Int × Int)) (slot : Int) (r) (hM : GG N headers l' slot = some r) (ro : Ro) (headersv : Value) (hheaders : RdN encr_48 ro headersv headers) (l'v : Value) (hl' : Rd enc_84 ro l'v l') : Does prog 107 #[headersv, l'v, vI slot] ro [] (p1 (fun s_ => vT #[vA #[vS r.1, s_, vI r.2.2.1, vI r.2.2.2.1, vI r.2.2.2.2.1, vI r.2.2.2.2.2.1], vB r.2.2.2.2.2.2]) 50 enc_50 r.2.1) := by
 unfold GG at hM
 refine Aq follows func107 rfl 42 rfl _ fz3 (fun base0_ => ?_)
 refine Ad <| r_a (48, #[Value.string (⟨#[]⟩), nS, vI 0, vI 0, vI 0, vI 0]) rfl rfl rfl (fun b2 => ?_) (.inr rfl)
 refine r_V (vB false) rfl <| Aa <| AL [(some 14, false)] (conG prog [(14, cV (Ip N l' slot) fun u0_ => vT #[vI u0_.1, vI u0_.2.1, vB u0_.2.2])]) <| r_R [l'v, vI slot] rfl ?_
 obtain ⟨r4, hr5, hM⟩ := Ab hM
 refine rg (vT #[vI r4.1, vI r4.2.1, vB r4.2.2]) (cF Og) (fun o w z_ => Tf N l' slot _ hr5 z_.view l'v ((Av hl') o w z_)) (AF hr5) <| r_R [vT #[vI r4.1, vI r4.2.1, vB r4.2.2], vI r4.1, vI r4.2.1, vB r4.2.2, vI r4.1, vI r4.2.1, vB r4.2.2] rfl <| Aa <| Bm (fun tt ll => (Ia N headers l' r4  = some r) ∧ Is [(0, headersv), (1, l'v), (6, vP b2 0), (8, vI r4.1)] (FT b2 (Value.string (⟨#[]⟩)) nS 0 0 0 0) tt ll) ?_ ?_
 ·refine Ai fun K17 hK17 => Ax <| r_R [vB r4.2.2, vB (!(r4.2.2)), vB (!(r4.2.2))] rfl ?_
  rcases hg18 : (!(r4.2.2)) with _ | _
  ·replace hM := ifp (Da hg18) hM
   refine r_R [l'v, vI r4.1] rfl <| r_y rfl ?_
   obtain ⟨ck19, hM⟩ := Ae hM
   refine r_W (elA l'v ((r4.1).toNat * 3)) rfl (AD (An rfl rfl rfl (Rd.shp hl') ck19)) <| r_y rfl <| r_W (elA l'v ((r4.1).toNat * 3 + 1)) rfl (AD (AH rfl rfl rfl rfl rfl rfl (Rd.shp hl') (AY ck19))) <| r_y rfl <| Bw (vI ((l'[(r4.1).toNat]!).2.1)) (En := enc_84) (l'[(r4.1).toNat]!) ((r4.1).toNat) 1 rfl rfl (Av hl') (AA ck19) rfl <| r_R [headersv] rfl <| r_y rfl <| r_W (vI (headers.length : Int)) rfl (Aj rfl rfl rfl (RdN.shp hheaders)) <| r_y rfl ?_
   obtain ⟨ck20, hM⟩ := Ae hM
   refine r_X (vI ((headers.length : Int) - 1)) rfl (AR rfl ck20.1 ck20.2) rfl <| r_y rfl ?_
   obtain ⟨r21, hr22, hM⟩ := Ab hM
   refine rc (vB r21) (cF FO) (Dv N ((l'[(r4.1).toNat]!).2.1) 0 ((headers.length : Int) - 1) _ hr22) <| r_R [vB (!(r21)), vB (!(r21))] rfl <| Aa <| hK17 _ _ ?_
   refine Af _ rfl (fun hc23 => ?_) (fun hc23 => ?_)
   ·replace hM := ifn (Bool.eq_false_iff.1 (CZ hc23)) hM
    refine Ad <| r_W (vA #[Value.string (⟨#[]⟩), nS, vI 0, vI 0, vI 0, vI 0]) rfl (AE rfl rfl rfl rfl) <| r_s (FT b2 (Value.string (⟨#[]⟩)) nS 0 0 0 0) 0 _ _ _ _ _ (#[Value.string (⟨#[]⟩), nS, vI 0, vI 0, vI 0, vI 0]) rfl rfl rfl rfl (.ofS rfl rfl (Ao rfl (Ao (Shp.one (.inl ⟨rfl, rfl⟩)) (Ao rfl (Ao rfl (Ao rfl (Ao rfl Bi))))))) rfl rfl <| r_V (vB false) rfl <| Aa <| Cd [(6, vP b2 0), (7, vB false)] rfl (fun T => ?_)
    cases hM
    refine AW (fun hn => Ex (v0 := vT #[vA #[Value.string (⟨#[]⟩), nS, vI 0, vI 0, vI 0, vI 0], vB false]) Sl.nil (Sub.nil _) rfl (Iw (AZ hn 0 rfl rfl rfl) rfl))
   replace hM := ifp (Da hc23) hM
   refine Ah <| fg _ (Sub.of (suK _ suN)) ?_
   exact ⟨hM, Ak rfl rfl⟩
  replace hM := ifn (Bool.eq_false_iff.1 (CZ hg18)) hM
  refine r_R [none, none, none, none, none, none, none, none, none, none, vB true] rfl <| Aa <| hK17 _ _ ?_
  refine Af true rfl (fun _ => ?_) (fun h_ => nomatch h_)
  refine Ad <| r_W (vA #[Value.string (⟨#[]⟩), nS, vI 0, vI 0, vI 0, vI 0]) rfl (AE rfl rfl rfl rfl) <| r_s (FT b2 (Value.string (⟨#[]⟩)) nS 0 0 0 0) 0 _ _ _ _ _ (#[Value.string (⟨#[]⟩), nS, vI 0, vI 0, vI 0, vI 0]) rfl rfl rfl rfl (.ofS rfl rfl (Ao rfl (Ao (Shp.one (.inl ⟨rfl, rfl⟩)) (Ao rfl (Ao rfl (Ao rfl (Ao rfl Bi))))))) rfl rfl <| r_V (vB false) rfl <| Aa <| Cd [(6, vP b2 0), (7, vB false)] rfl (fun T => ?_)
  cases hM
  refine AW (fun hn => Ex (v0 := vT #[vA #[Value.string (⟨#[]⟩), nS, vI 0, vI 0, vI 0, vI 0], vB false]) Sl.nil (Sub.nil _) rfl (Iw (AZ hn 0 rfl rfl rfl) rfl))
 clear hM; rintro t l ⟨hM, ⟨T, rfl⟩, rfl⟩
 unfold Ia at hM
 refine AL [(some 41, false)] (conG prog [(41, fun _ _ v_ L_ U_ => ∀ u0_, Fh N (headers[((l'[(r4.1).toNat]!).2.1).toNat]!.1) (headers[((l'[(r4.1).toNat]!).2.1).toNat]!.2.1) (headers[((l'[(r4.1).toNat]!).2.1).toNat]!.2.2.1) (headers[((l'[(r4.1).toNat]!).2.1).toNat]!.2.2.2.1) (headers[((l'[(r4.1).toNat]!).2.1).toNat]!.2.2.2.2.1) (headers[((l'[(r4.1).toNat]!).2.1).toNat]!.2.2.2.2.2) = some u0_ → (p1 (fun s_ => vA #[vS u0_.1, s_, vI u0_.2.2.1, vI u0_.2.2.2.1, vI u0_.2.2.2.2.1, vI u0_.2.2.2.2.2]) 50 enc_50 u0_.2.1) v_ L_ U_)]) <| r_R [headersv, l'v, vI r4.1] rfl ?_
 obtain ⟨ck7, hM⟩ := Ae hM
 refine r_W (elA l'v ((r4.1).toNat * 3)) rfl (AD (An rfl rfl rfl (Rd.shp hl') ck7)) <| r_W (elA l'v ((r4.1).toNat * 3 + 1)) rfl (AD (AH rfl rfl rfl rfl rfl rfl (Rd.shp hl') (AY ck7))) <| Bw (vI ((l'[(r4.1).toNat]!).2.1)) (En := enc_84) (l'[(r4.1).toNat]!) ((r4.1).toNat) 1 rfl rfl (Av hl') (AA ck7) rfl ?_
 obtain ⟨ck8, hM⟩ := Ae hM
 obtain ⟨_, ⟨s9, hs10, rfl⟩, hat11⟩ := RdN.at (E := encr_48) hheaders (AA ck8)
 refine r_W (elA headersv (((l'[(r4.1).toNat]!).2.1).toNat * 6)) rfl (AD (An rfl rfl rfl (RdN.shp hheaders) ck8)) ?_
 refine Eo (vA #[vS (headers[((l'[(r4.1).toNat]!).2.1).toNat]!.1), s9, vI (headers[((l'[(r4.1).toNat]!).2.1).toNat]!.2.2.1), vI (headers[((l'[(r4.1).toNat]!).2.1).toNat]!.2.2.2.1), vI (headers[((l'[(r4.1).toNat]!).2.1).toNat]!.2.2.2.2.1), vI (headers[((l'[(r4.1).toNat]!).2.1).toNat]!.2.2.2.2.2)]) (vs := [vS (headers[((l'[(r4.1).toNat]!).2.1).toNat]!.1), s9, vI (headers[((l'[(r4.1).toNat]!).2.1).toNat]!.2.2.1), vI (headers[((l'[(r4.1).toNat]!).2.1).toNat]!.2.2.2.1), vI (headers[((l'[(r4.1).toNat]!).2.1).toNat]!.2.2.2.2.1), vI (headers[((l'[(r4.1).toNat]!).2.1).toNat]!.2.2.2.2.2)]) (((l'[(r4.1).toNat]!).2.1).toNat * 6) 0 rfl rfl (fun o w z_ => At.mono z_.ro_cell hat11) rfl ?_
 obtain ⟨r12, hr13, hM⟩ := Ab hM
 refine Iy (Ls := [(FT b2 (Value.string (⟨#[]⟩)) nS 0 0 0 0)]) (fun s14 => vA #[vS r12.1, s14, vI r12.2.2.1, vI r12.2.2.2.1, vI r12.2.2.2.2.1, vI r12.2.2.2.2.2]) 50 enc_50 r12.2.1 160 _ rfl rfl rfl (cF ZG) (fun o w z_ => PW N (headers[((l'[(r4.1).toNat]!).2.1).toNat]!.1) (headers[((l'[(r4.1).toNat]!).2.1).toNat]!.2.1) (headers[((l'[(r4.1).toNat]!).2.1).toNat]!.2.2.1) (headers[((l'[(r4.1).toNat]!).2.1).toNat]!.2.2.2.1) (headers[((l'[(r4.1).toNat]!).2.1).toNat]!.2.2.2.2.1) (headers[((l'[(r4.1).toNat]!).2.1).toNat]!.2.2.2.2.2) _ hr13 z_.view s9 ((Av hs10) o w z_)) (AF hr13) (fun s14 S15 H16 => ?_)
 refine r_s (List.flatten [(Cx b2 r12.1 s14 r12.2.2.1 r12.2.2.2.1 r12.2.2.2.2.1 r12.2.2.2.2.2), S15]) 0 _ _ _ _ _ (#[vS r12.1, s14, vI r12.2.2.1, vI r12.2.2.2.1, vI r12.2.2.2.2.1, vI r12.2.2.2.2.2]) rfl rfl rfl rfl (.ofS rfl rfl (Ao rfl (Ao (Shp.one (Sl.shp H16)) (Ao rfl (Ao rfl (Ao rfl (Ao rfl Bi))))))) rfl rfl <| r_V (vB true) rfl <| Aa ?_
 cases hM
 refine AW (fun hn => Ex (v0 := vT #[vA #[vS r12.1, s14, vI r12.2.2.1, vI r12.2.2.2.1, vI r12.2.2.2.2.1, vI r12.2.2.2.2.2], vB true]) H16 (Cv (Sub.pick [(Cx b2 r12.1 s14 r12.2.2.1 r12.2.2.2.1 r12.2.2.2.2.1 r12.2.2.2.2.2), S15] [1] rfl)) rfl (Iw (AZ hn 0 rfl rfl rfl) rfl))
def Ec (N : Nat) (m : Al) (slot : Int) : Option ((List UInt8) × (List (List UInt8 × Int)) × Int × Int × Int × Int × Bool) := (GG N m.2.1 m.2.2.1 slot).bind fun r5 => some (r5.1, r5.2.1, r5.2.2.1, r5.2.2.2.1, r5.2.2.2.2.1, r5.2.2.2.2.2.1, r5.2.2.2.2.2.2)
theorem Mc (N : Nat) (m : Al) (slot : Int) (r) (hM : Ec N m slot = some r) (ro : Ro) (mv : AP) (hm : Bun35R ro mv m) : Does prog 60 #[vA (Ac m mv), vI slot] ro [] (p1 (fun s_ => vT #[vA #[vS r.1, s_, vI r.2.2.1, vI r.2.2.2.1, vI r.2.2.2.2.1, vI r.2.2.2.2.2.1], vB r.2.2.2.2.2.2]) 50 enc_50 r.2.1) := by
 unfold Ec at hM
 refine Aq follows func60 rfl 14 rfl _ fz2 (fun base0_ => ?_)
 refine Ad <| r_a (35, (Ac m mv)) rfl rfl rfl (fun b2 => ?_) (.inr rfl)
 refine r_a (48, #[Value.string (⟨#[]⟩), nS, vI 0, vI 0, vI 0, vI 0]) rfl rfl rfl (fun b3 => ?_) (.inr rfl)
 refine r_V (vB false) rfl <| Aa <| AL [(some 11, false)] (conG prog [(11, fun _ _ v_ L_ U_ => ∀ u0_, GG N m.2.1 m.2.2.1 slot = some u0_ → (p1 (fun s_ => vT #[vA #[vS u0_.1, s_, vI u0_.2.2.1, vI u0_.2.2.2.1, vI u0_.2.2.2.2.1, vI u0_.2.2.2.2.2.1], vB u0_.2.2.2.2.2.2]) 50 enc_50 u0_.2.1) v_ L_ U_)]) <| r_V (vP b2 1) rfl <| rl mv.1 1 <| r_V (vP b2 2) rfl <| rl mv.2.1 1 <| r_V (vI slot) rfl ?_
 obtain ⟨r5, hr6, hM⟩ := Ab hM
 refine Iy (Ls := [(FT b3 (Value.string (⟨#[]⟩)) nS 0 0 0 0), [(b2, 35, (Ac m mv))]]) (fun s7 => vT #[vA #[vS r5.1, s7, vI r5.2.2.1, vI r5.2.2.2.1, vI r5.2.2.2.2.1, vI r5.2.2.2.2.2.1], vB r5.2.2.2.2.2.2]) 50 enc_50 r5.2.1 107 _ rfl rfl rfl (cF am) (fun o w z_ => Th N m.2.1 m.2.2.1 slot _ hr6 z_.view mv.1 (RdN.mono z_.ro_cell hm.1) mv.2.1 ((Av hm.2.1) o w z_)) (AF hr6) (fun s7 S8 H9 => ?_)
 refine r_R [vA #[vS r5.1, s7, vI r5.2.2.1, vI r5.2.2.2.1, vI r5.2.2.2.2.1, vI r5.2.2.2.2.2.1], vB r5.2.2.2.2.2.2] rfl <| r_s (List.flatten [(Cx b3 r5.1 s7 r5.2.2.1 r5.2.2.2.1 r5.2.2.2.2.1 r5.2.2.2.2.2.1), [(b2, 35, (Ac m mv))], S8]) 0 _ _ _ _ _ (#[vS r5.1, s7, vI r5.2.2.1, vI r5.2.2.2.1, vI r5.2.2.2.2.1, vI r5.2.2.2.2.2.1]) rfl rfl rfl rfl (.ofS rfl rfl (Ao rfl (Ao (Shp.one (Sl.shp H9)) (Ao rfl (Ao rfl (Ao rfl (Ao rfl Bi))))))) rfl rfl <| r_V (vB r5.2.2.2.2.2.2) rfl <| Aa ?_
 cases hM
 refine AW (fun hn => Ex (v0 := vT #[vA #[vS r5.1, s7, vI r5.2.2.1, vI r5.2.2.2.1, vI r5.2.2.2.2.1, vI r5.2.2.2.2.2.1], vB r5.2.2.2.2.2.2]) H9 (Cv (Sub.pick [(Cx b3 r5.1 s7 r5.2.2.1 r5.2.2.2.1 r5.2.2.2.2.1 r5.2.2.2.2.2.1), [(b2, 35, (Ac m mv))], S8] [2] rfl)) rfl (Iw (AZ hn 0 rfl rfl rfl) rfl))
def EW (N : Nat) (l' : List (List UInt8 × Int)) (i : Int) : Option Bool := ck ((-9223372036854775808 ≤ ((l'.length : Int) - 1) ∧ ((l'.length : Int) - 1) ≤ 9223372036854775807)) ((Az N i 0 ((l'.length : Int) - 1)).bind fun r4 => some r4)
theorem Ny (N : Nat) (l' : List (List UInt8 × Int)) (i : Int) (r) (hM : EW N l' i = some r) (ro : Ro) (l'v : Value) (hl' : Rd enc_50 ro l'v l') : Does prog 61 #[l'v, vI i] ro [] (pV (vB r)) := by
 unfold EW at hM
 refine Aq follows func61 rfl 10 rfl _ fz2 (fun base0_ => ?_)
 refine Ad <| r_V (vB false) rfl <| Aa <| Ad <| r_R [vI i, l'v] rfl <| r_W (vI (l'.length : Int)) rfl (Aj rfl rfl rfl (Rd.shp hl')) ?_
 obtain ⟨ck3, hM⟩ := Ae hM
 refine r_X (vI ((l'.length : Int) - 1)) rfl (AR rfl ck3.1 ck3.2) rfl ?_
 obtain ⟨r4, hr5, hM⟩ := Ab hM
 refine rc (vB r4) (cF BP) (AI N i 0 ((l'.length : Int) - 1) _ hr5) <| r_V (vB r4) rfl <| Aa ?_
 cases hM
 exact aR eV1
def GR (f : Int) (r4 : (List UInt8) × (List (List UInt8 × Int)) × Int × Int × Int × Int × Bool) : Option (Int × Bool) := ck (0 ≤ f ∧ f < (r4.2.1.length : Int)) (some (((r4.2.1)[f.toNat]!).2, true))
def Bu (N : Nat) (m : Al) (slot : Int) (f : Int) : Option (Int × Bool) := (Ec N m slot).bind fun r4 => if r4.2.2.2.2.2.2 = true then (EW N r4.2.1 f).bind fun r14 => if r14 = true then GR f r4  else some (0, false) else some (0, false)
theorem Hy (N : Nat) (m : Al) (slot f : Int) (r) (hM : Bu N m slot f = some r) (ro : Ro) (mv : AP) (hm : Bun35R ro mv m) : Does prog 13 #[vA (Ac m mv), vI slot, vI f] ro [] (pV (vT #[vI r.1, vB r.2])) := by
 unfold Bu at hM
 refine Aq follows func13 rfl 31 rfl _ fz3 (fun base0_ => ?_)
 refine Ad <| r_a (35, (Ac m mv)) rfl rfl rfl (fun b2 => ?_) (.inr rfl)
 refine r_R [vI 0, vB false] rfl <| Aa <| AL [(some 13, false)] (conG prog [(13, fun _ _ v_ L_ U_ => ∀ u0_, Ec N m slot = some u0_ → (p1 (fun s_ => vT #[vA #[vS u0_.1, s_, vI u0_.2.2.1, vI u0_.2.2.2.1, vI u0_.2.2.2.2.1, vI u0_.2.2.2.2.2.1], vB u0_.2.2.2.2.2.2]) 50 enc_50 u0_.2.1) v_ L_ U_)]) <| rl (vA (Ac m mv)) 0 <| r_V (vI slot) rfl ?_
 obtain ⟨r4, hr5, hM⟩ := Ab hM
 refine Iy (Ls := [[(b2, 35, (Ac m mv))]]) (fun s6 => vT #[vA #[vS r4.1, s6, vI r4.2.2.1, vI r4.2.2.2.1, vI r4.2.2.2.2.1, vI r4.2.2.2.2.2.1], vB r4.2.2.2.2.2.2]) 50 enc_50 r4.2.1 60 _ rfl rfl rfl (cF UJ) (fun o w z_ => Mc N m slot _ hr5 z_.view mv (Bun35R.mono z_.ro_cell hm)) (AF hr5) (fun s6 S7 H8 => ?_)
 refine r_R [vT #[vA #[vS r4.1, s6, vI r4.2.2.1, vI r4.2.2.2.1, vI r4.2.2.2.2.1, vI r4.2.2.2.2.2.1], vB r4.2.2.2.2.2.2], vA #[vS r4.1, s6, vI r4.2.2.1, vI r4.2.2.2.1, vI r4.2.2.2.2.1, vI r4.2.2.2.2.2.1], vB r4.2.2.2.2.2.2] rfl <| r_a (48, #[Value.string (⟨#[]⟩), nS, vI 0, vI 0, vI 0, vI 0]) rfl rfl rfl (fun b9 => ?_) (.inr rfl)
 refine r_s (List.flatten [(Cx b9 r4.1 s6 r4.2.2.1 r4.2.2.2.1 r4.2.2.2.2.1 r4.2.2.2.2.2.1), [(b2, 35, (Ac m mv))], S7]) 0 _ _ _ _ _ (#[vS r4.1, s6, vI r4.2.2.1, vI r4.2.2.2.1, vI r4.2.2.2.2.1, vI r4.2.2.2.2.2.1]) rfl rfl rfl rfl (.ofS rfl rfl (Ao rfl (Ao (Shp.one (Sl.shp H8)) (Ao rfl (Ao rfl (Ao rfl (Ao rfl Bi))))))) rfl rfl <| r_V (vB r4.2.2.2.2.2.2) rfl <| Aa <| Bm (fun tt ll => (GR f r4  = some r) ∧ Is [(2, vI f), (8, vP b9 0)] (List.flatten [(Cx b9 r4.1 s6 r4.2.2.1 r4.2.2.2.1 r4.2.2.2.2.1 r4.2.2.2.2.2.1), S7]) tt ll) ?_ ?_
 ·refine Ai fun K12 hK12 => BB [(some 22, false)] (conG prog [(22, cV (EW N r4.2.1 f) fun u0_ => vB u0_)]) <| r_R [vB r4.2.2.2.2.2.2, vB (!(r4.2.2.2.2.2.2)), vB (!(r4.2.2.2.2.2.2))] rfl ?_
  rcases hg13 : (!(r4.2.2.2.2.2.2)) with _ | _
  ·replace hM := ifp (Da hg13) hM
   refine r_R [vP b9 1] rfl <| r_y rfl <| rl s6 0 <| r_R [vI f] rfl <| r_y rfl ?_
   obtain ⟨r14, hr15, hM⟩ := Ab hM
   refine rg (vB r14) (cF cr) (fun o w z_ => Ny N r4.2.1 f _ hr15 z_.view s6 ((AN H8 (Aw (Ls := [(Cx b9 r4.1 s6 r4.2.2.1 r4.2.2.2.1 r4.2.2.2.2.1 r4.2.2.2.2.2.1), [(b2, 35, (Ac m mv))], S7]) (k := 2) rfl rfl)) o w z_)) (AF hr15) <| r_R [vB (!(r14)), vB (!(r14))] rfl <| Aa <| hK12 _ _ ?_
   refine Af _ rfl (fun hc16 => ?_) (fun hc16 => ?_)
   ·replace hM := ifn (Bool.eq_false_iff.1 (CZ hc16)) hM
    refine Ad <| r_R [vI 0, vB false] rfl <| Aa ?_
    cases hM
    exact aR eV2
   replace hM := ifp (Da hc16) hM
   refine Ah <| fg _ (Sub.pick [(Cx b9 r4.1 s6 r4.2.2.1 r4.2.2.2.1 r4.2.2.2.2.1 r4.2.2.2.2.2.1), [(b2, 35, (Ac m mv))], S7] [0, 2] rfl) ?_
   exact ⟨hM, Ak rfl rfl⟩
  replace hM := ifn (Bool.eq_false_iff.1 (CZ hg13)) hM
  refine r_R [none, none, none, none, none, vB true] rfl <| Aa <| hK12 _ _ ?_
  refine Af true rfl (fun _ => ?_) (fun h_ => nomatch h_)
  refine Ad <| r_R [vI 0, vB false] rfl <| Aa ?_
  cases hM
  exact aR eV2
 clear hM; rintro t l ⟨hM, ⟨T, rfl⟩, rfl⟩
 unfold GR at hM
 refine Ad <| r_V (vP b9 1) rfl <| rl s6 0 <| r_V (vI f) rfl ?_
 obtain ⟨ck11, hM⟩ := Ae hM
 refine r_W (elA s6 (f.toNat * 2)) rfl (AD (An rfl rfl rfl (Sl.shp H8) ck11)) <| r_W (elA s6 (f.toNat * 2 + 1)) rfl (AD (AH rfl rfl rfl rfl rfl rfl (Sl.shp H8) (AY ck11))) <| Bw (vI (((r4.2.1)[f.toNat]!).2)) (En := enc_50) ((r4.2.1)[f.toNat]!) (f.toNat) 1 rfl rfl (AN H8 (Aw (Ls := [(Cx b9 r4.1 s6 r4.2.2.1 r4.2.2.2.1 r4.2.2.2.2.1 r4.2.2.2.2.2.1), S7]) (k := 1) rfl rfl)) (AA ck11) rfl <| r_R [vI (((r4.2.1)[f.toNat]!).2), vB true] rfl <| Aa ?_
 cases hM
 exact aR eV2
def BU (N : Nat) (m : Al) (i : Int) : Option (Int × Bool) := (Az N i 0 7).bind fun r5 => if r5 = true then ck (0 ≤ i ∧ i < 8) (some ((BA[i.toNat]!), true)) else ck ((-9223372036854775808 ≤ (8 + (m.2.2.2.1.length : Int)) ∧ (8 + (m.2.2.2.1.length : Int)) ≤ 9223372036854775807)) (ck ((-9223372036854775808 ≤ ((8 + (m.2.2.2.1.length : Int)) - 1) ∧ ((8 + (m.2.2.2.1.length : Int)) - 1) ≤ 9223372036854775807)) ((Az N i 8 ((8 + (m.2.2.2.1.length : Int)) - 1)).bind fun r14 => if r14 = true then ck (-9223372036854775808 ≤ (i - 8) ∧ (i - 8) ≤ 9223372036854775807) (ck (0 ≤ (i - 8) ∧ (i - 8) < (m.2.2.2.1.length : Int)) (some (((m.2.2.2.1)[((i - 8)).toNat]!).2, true))) else some (0, false)))
theorem Jt (N : Nat) (m : Al) (i : Int) (r) (hM : BU N m i = some r) (ro : Ro) (mv : AP) (hm : Bun35R ro mv m) : DoesI prog 14 #[vA (Ac m mv), vI i] DZ ro [] (pV (vT #[vI r.1, vB r.2])) := by
 unfold BU at hM
 refine AO follows func14 rfl 27 rfl _ fz2 AT (fun base0_ => ?_)
 refine Ad <| r_a (35, (Ac m mv)) rfl rfl rfl (fun b2 => ?_) (.inr rfl)
 refine r_R [vI 0, vB false] rfl <| Aa <| Ai fun K3 hK3 => Ap <| Ad <| r_V (vI i) rfl ?_
 obtain ⟨r5, hr6, hM⟩ := Ab hM
 refine rc (vB r5) (cF BP) (AI N i 0 7 _ hr6) <| r_V (vB r5) rfl <| Aa <| Af _ rfl (fun hc7 => ?_) (fun hc7 => ?_)
 ·replace hM := ifp hc7 hM
  refine AL [(some 11, false)] (conG prog [(11, fun _ _ v_ L_ U_ => (pV (vI (BA[i.toNat]!))) v_ L_ U_)]) <| r_V (vI i) rfl ?_
  obtain ⟨ck9, hM⟩ := Ae hM
  have hx10 := fun c => AD (bJ (P := prog) (c := c) (t := 149) (b := 0) (off := 0) (k := .i64) rfl rfl rfl ck9)
  simp only [Nat.zero_add] at hx10
  have ck9n : i.toNat < 8 := by omega
  refine r_W (Value.pointer (some ⟨0, i.toNat, none⟩)) rfl (hx10 _) <| eZ (vI (BA[i.toNat]!)) rfl rfl rfl rfl rfl (fun _ h_ => JS h_ _ ck9n) (fun _ _ _ _ _ => Iff.rfl) <| r_R [vI (BA[i.toNat]!), vB true] rfl <| Aa ?_
  cases hM
  exact aR eV2
 replace hM := iB hc7 hM
 refine Ad <| r_R [vI i, vP b2 3] rfl <| rl mv.2.2.1 0 <| r_W (vI (m.2.2.2.1.length : Int)) rfl (Aj rfl rfl rfl (Rd.shp hm.2.2.1)) ?_
 obtain ⟨ck12, hM⟩ := Ae hM
 refine r_X (vI (8 + (m.2.2.2.1.length : Int))) rfl (AR rfl ck12.1 ck12.2) rfl ?_
 obtain ⟨ck13, hM⟩ := Ae hM
 refine r_X (vI (((8 + (m.2.2.2.1.length : Int)) - 1))) rfl (AR rfl ck13.1 ck13.2) rfl ?_
 obtain ⟨r14, hr15, hM⟩ := Ab hM
 refine rc (vB r14) (cF BP) (AI N i 8 ((8 + (m.2.2.2.1.length : Int)) - 1) _ hr15) <| r_V (vB r14) rfl <| Aa <| Af _ rfl (fun hc16 => ?_) (fun hc16 => ?_)
 ·replace hM := ifp hc16 hM
  refine Ad <| r_V (vP b2 3) rfl <| rl mv.2.2.1 0 <| r_V (vI i) rfl ?_
  obtain ⟨ck18, hM⟩ := Ae hM
  refine r_X (vI (i - 8)) rfl (AR rfl ck18.1 ck18.2) rfl ?_
  obtain ⟨ck19, hM⟩ := Ae hM
  refine r_W (elA mv.2.2.1 (((i - 8)).toNat * 2)) rfl (AD (An rfl rfl rfl (Rd.shp hm.2.2.1) ck19)) <| r_W (elA mv.2.2.1 (((i - 8)).toNat * 2 + 1)) rfl (AD (AH rfl rfl rfl rfl rfl rfl (Rd.shp hm.2.2.1) (AY ck19))) <| Bw (vI (((m.2.2.2.1)[((i - 8)).toNat]!).2)) (En := enc_50) ((m.2.2.2.1)[((i - 8)).toNat]!) (((i - 8)).toNat) 1 rfl rfl (Av hm.2.2.1) (AA ck19) rfl <| r_R [vI (((m.2.2.2.1)[((i - 8)).toNat]!).2), vB true] rfl <| Aa ?_
  cases hM
  exact aR eV2
 replace hM := iB hc16 hM
 refine Ah <| hK3 _ _ ?_
 refine Ad <| r_R [vI 0, vB false] rfl <| Aa ?_
 cases hM
 exact aR eV2
def BT (N : Nat) (m : Al) (k_0 : Int) (k_1 : Int) (k_2 : Int) : Option (Int × Bool) := if k_0 = 0 then (Bu N m k_1 k_2).bind fun r9 => some (r9.1, r9.2) else if k_0 = 1 then (BU N m k_1).bind fun r14 => some (r14.1, r14.2) else if k_0 = 2 then some (k_2, true) else some (0, false)
theorem IG (N : Nat) (m : Al) (k_0 k_1 k_2 : Int) (r) (hM : BT N m k_0 k_1 k_2 = some r) (ro : Ro) (mv : AP) (hm : Bun35R ro mv m) : DoesI prog 279 #[vA (Ac m mv), vA #[vI k_0, vI k_1, vI k_2]] DZ ro [] (pV (vT #[vI r.1, vB r.2])) := by
 unfold BT at hM
 refine AO follows func279 rfl 30 rfl _ fz2 AT (fun base0_ => ?_)
 refine Ad <| r_a (35, (Ac m mv)) rfl rfl rfl (fun b2 => ?_) (.inr rfl)
 refine r_a (168, #[vI k_0, vI k_1, vI k_2]) rfl rfl rfl (fun b3 => ?_) (.inr rfl)
 refine r_R [vI 0, vB false] rfl <| Aa <| Ai fun K4 hK4 => Ad <| r_V (vP b3 0) rfl <| rl (vI k_0) 0 <| Aa <| Ap <| Ad <| r_R [vB (k_0 == 0), vB (k_0 == 0)] rfl <| Aa <| Af _ rfl (fun hc7 => ?_) (fun hc7 => ?_)
 ·replace hM := iE hc7 hM
  refine AL [(some 15, false)] (conG prog [(15, cV (Bu N m k_1 k_2) fun u0_ => vT #[vI u0_.1, vB u0_.2])]) <| rl (vA (Ac m mv)) 1 <| r_V (vP b3 1) rfl <| rl (vI k_1) 0 <| r_V (vP b3 2) rfl <| rl (vI k_2) 0 ?_
  obtain ⟨r9, hr10, hM⟩ := Ab hM
  refine rg (vT #[vI r9.1, vB r9.2]) (cF MM) (fun o w z_ => (Does.inv (Hy N m k_1 k_2 _ hr10 z_.view mv (Bun35R.mono z_.ro_cell hm)) _)) (AF hr10) <| r_R [vI r9.1, vB r9.2, vI r9.1, vB r9.2] rfl <| Aa ?_
  cases hM
  exact aR eV2
 replace hM := iG hc7 hM
 refine Ad <| r_R [vB (k_0 == 1), vB (k_0 == 1)] rfl <| Aa <| Af _ rfl (fun hc12 => ?_) (fun hc12 => ?_)
 ·replace hM := iE hc12 hM
  refine AL [(some 23, false)] (conG prog [(23, cV (BU N m k_1) fun u0_ => vT #[vI u0_.1, vB u0_.2])]) <| rl (vA (Ac m mv)) 1 <| r_V (vP b3 1) rfl <| rl (vI k_1) 0 ?_
  obtain ⟨r14, hr15, hM⟩ := Ab hM
  refine rg (vT #[vI r14.1, vB r14.2]) (cF QM) (fun o w z_ => Jt N m k_1 _ hr15 z_.view mv (Bun35R.mono z_.ro_cell hm)) (AF hr15) <| r_R [vI r14.1, vB r14.2, vI r14.1, vB r14.2] rfl <| Aa ?_
  cases hM
  exact aR eV2
 replace hM := iG hc12 hM
 refine Ad <| r_R [vB (k_0 == 2), vB (k_0 == 2)] rfl <| Aa <| Af _ rfl (fun hc17 => ?_) (fun hc17 => ?_)
 ·replace hM := iE hc17 hM
  refine Ad <| r_V (vP b3 2) rfl <| rl (vI k_2) 0 <| r_R [vI k_2, vB true] rfl <| Aa ?_
  cases hM
  exact aR eV2
 replace hM := iG hc17 hM
 refine Ah <| hK4 _ _ ?_
 refine Ad <| r_R [vI 0, vB false] rfl <| Aa ?_
 cases hM
 exact aR eV2
def Ed (N : Nat) (m : Al) (l' : List (Int × Int × Int)) : Nat → Int → Int → Option (Int × Bool)
  | 0, _, _ => none
  | n6 + 1, total1_, x2_ => if x2_ < (l'.length : Int) then ck (0 ≤ x2_ ∧ x2_ < (l'.length : Int)) ((BT N m ((l'[x2_.toNat]!).1) ((l'[x2_.toNat]!).2.1) ((l'[x2_.toNat]!).2.2)).bind fun r15 => if r15.2 = true then ck (-9223372036854775808 ≤ (128 - total1_) ∧ (128 - total1_) ≤ 9223372036854775807) ((Az N r15.1 1 (128 - total1_)).bind fun r21 => if r21 = true then ck (-9223372036854775808 ≤ (total1_ + r15.1) ∧ (total1_ + r15.1) ≤ 9223372036854775807) (ck (-9223372036854775808 ≤ (x2_ + 1) ∧ (x2_ + 1) ≤ 9223372036854775807) ((Ed N m l' n6) (total1_ + r15.1) (x2_ + 1))) else some (0, false)) else some (0, false)) else some (total1_, true)
def Gb (N : Nat) (m : Al) (l' : List (Int × Int × Int)) : Option (Int × Bool) := Ed N m l' N 0 0
theorem Nt (N : Nat) (m : Al) (l' : List (Int × Int × Int)) (r) (hM : Gb N m l' = some r) (ro : Ro) (mv : AP) (hm : Bun35R ro mv m) (l'v : Value) (hl' : Rd enc_168 ro l'v l') : DoesI prog 240 #[vA (Ac m mv), l'v] DZ ro [] (pV (vT #[vI r.1, vB r.2])) := by
 unfold Gb at hM
 refine AO follows func240 rfl 37 rfl _ fz2 AT (fun base0_ => ?_)
 refine Ad <| r_a (35, (Ac m mv)) rfl rfl rfl (fun b2 => ?_) (.inr rfl)
 refine r_R [vI 0, vB false] rfl <| Aa <| Ad <| r_V (vI 0) rfl <| Aa <| Ai fun K4 hK4 => Ad <| r_V l'v rfl <| r_W (vI (l'.length : Int)) rfl (Aj rfl rfl rfl (Rd.shp hl')) <| r_V (vI 0) rfl <| Aa <| Ap <| AS (fun tt ll nn => ∃ (n6 : Nat) (total1_ : Int) (x2_ : Int), (Ed N m l' n6 total1_ x2_ = some r) ∧ Is [(2, vP b2 0), (6, vI total1_), (11, l'v), (12, vI (l'.length : Int)), (13, vI x2_)] [(b2, 35, (Ac m mv))] tt ll ∧ nn = n6 + 1) (N + 1) ?_ ?_
 ·exact ⟨N, 0, 0, hM, Ak rfl rfl, rfl⟩
 clear hM; rintro t l _ ⟨n6, total1_, x2_, hM, ⟨⟨T, rfl⟩, rfl⟩, rfl⟩
 rcases n6 with _ | n6
 ·exact absurd hM (by simp [Ed])
 rw [Ed] at hM
 refine Ad <| r_V (vB (decide (x2_ < (l'.length : Int)))) rfl <| Aa <| Ai fun K8 hK8 => Af _ rfl (fun hc9 => ?_) (fun hc9 => ?_)
 ·replace hM := iD hc9 hM
  refine Ah <| hK8 _ _ ?_
  refine Ai fun K10 hK10 => Ap <| Ad ?_
  obtain ⟨ck12, hM⟩ := Ae hM
  refine r_W (elA l'v (x2_.toNat * 3)) rfl (AD (An rfl rfl rfl (Rd.shp hl') ck12)) <| Bw (vA #[vI ((l'[x2_.toNat]!).1), vI ((l'[x2_.toNat]!).2.1), vI ((l'[x2_.toNat]!).2.2)]) (En := enc_168) (l'[x2_.toNat]!) (x2_.toNat) 0 rfl rfl (Av hl') (AA ck12) rfl <| r_a (168, #[vI 0, vI 0, vI 0]) rfl rfl rfl (fun b13 => ?_) (.inr rfl)
  refine r_s [(b13, 168, #[vI ((l'[x2_.toNat]!).1), vI ((l'[x2_.toNat]!).2.1), vI ((l'[x2_.toNat]!).2.2)]), (b2, 35, (Ac m mv))] 0 _ _ _ _ _ (#[vI ((l'[x2_.toNat]!).1), vI ((l'[x2_.toNat]!).2.1), vI ((l'[x2_.toNat]!).2.2)]) rfl rfl rfl rfl (.of rfl rfl) rfl rfl <| Aa <| AL [(some 20, false)] (conG prog [(20, cV (BT N m ((l'[x2_.toNat]!).1) ((l'[x2_.toNat]!).2.1) ((l'[x2_.toNat]!).2.2)) fun u0_ => vT #[vI u0_.1, vB u0_.2])]) <| rl (vA (Ac m mv)) 1 ?_
  refine rl (vA #[vI ((l'[x2_.toNat]!).1), vI ((l'[x2_.toNat]!).2.1), vI ((l'[x2_.toNat]!).2.2)]) 0 ?_
  obtain ⟨r15, hr16, hM⟩ := Ab hM
  refine rg (vT #[vI r15.1, vB r15.2]) (cF Sv) (fun o w z_ => IG N m ((l'[x2_.toNat]!).1) ((l'[x2_.toNat]!).2.1) ((l'[x2_.toNat]!).2.2) _ hr16 z_.view mv (Bun35R.mono z_.ro_cell hm)) (AF hr16) <| r_R [vT #[vI r15.1, vB r15.2], vI r15.1, vB r15.2, vI r15.1, vB r15.2] rfl <| Aa <| Ai fun K17 hK17 => Ai fun K18 hK18 => Ax <| r_R [vB r15.2, vB (!(r15.2)), vB (!(r15.2))] rfl ?_
  rcases hg19 : (!(r15.2)) with _ | _
  ·replace hM := ifp (Da hg19) hM
   refine r_R [vI r15.1, vI total1_] rfl <| r_y rfl ?_
   obtain ⟨ck20, hM⟩ := Ae hM
   refine r_X (vI (128 - total1_)) rfl (AR rfl ck20.1 ck20.2) rfl <| r_y rfl ?_
   obtain ⟨r21, hr22, hM⟩ := Ab hM
   refine rc (vB r21) (cF BP) (AI N r15.1 1 (128 - total1_) _ hr22) <| r_R [vB (!(r21)), vB (!(r21))] rfl <| Aa <| hK18 _ _ ?_
   refine Af _ rfl (fun hc23 => ?_) (fun hc23 => ?_)
   ·replace hM := ifn (Bool.eq_false_iff.1 (CZ hc23)) hM
    refine Ad <| r_R [vI 0, vB false] rfl <| Aa <| Cd [(4, vI 0), (5, vB false)] rfl (fun T => ?_)
    cases hM
    exact aR eV2
   replace hM := ifp (Da hc23) hM
   refine Ah <| hK17 _ _ ?_
   refine Ax <| r_R [vI total1_, vI r15.1] rfl ?_
   obtain ⟨ck25, hM⟩ := Ae hM
   refine r_X (vI (total1_ + r15.1)) rfl (AR rfl ck25.1 ck25.2) rfl <| r_V (vI (total1_ + r15.1)) rfl <| Aa <| hK10 _ _ ?_
   refine Ax ?_
   obtain ⟨ck26, hM⟩ := Ae hM
   refine r_X (vI (x2_ + 1)) rfl (AR rfl ck26.1 ck26.2) rfl <| r_V (vI (x2_ + 1)) rfl <| Aa <| fg _ (Sub.of (suC _ (suK _ suN))) ?_
   exact ⟨n6 + 1, by omega, n6, (total1_ + r15.1), (x2_ + 1), hM, Ak (by first | rfl | (simp only [hg19]; done) | (simp only [hg19]; rfl) | (simp only [Bc]; rfl)) rfl, rfl⟩
  replace hM := ifn (Bool.eq_false_iff.1 (CZ hg19)) hM
  refine r_R [none, none, none, none, none, vB true] rfl <| Aa <| hK18 _ _ ?_
  refine Af true rfl (fun _ => ?_) (fun h_ => nomatch h_)
  refine Ad <| r_R [vI 0, vB false] rfl <| Aa <| Cd [(4, vI 0), (5, vB false)] rfl (fun T => ?_)
  cases hM
  exact aR eV2
 replace hM := iF hc9 hM
 refine AM <| hK4 _ _ ?_
 refine Ad <| r_R [vI total1_, vI total1_, vB true] rfl <| Aa ?_
 cases hM
 exact aR eV2
def DB (N : Nat) (c : Al) (key : List (Int × Int × Int)) : Option Int := (Gb N c key).bind fun r5 => some r5.1
theorem Pd (N : Nat) (c : Al) (key : List (Int × Int × Int)) (r) (hM : DB N c key = some r) (ro : Ro) (cv : AP) (hc : Bun35R ro cv c) (keyv : Value) (hkey : Rd enc_168 ro keyv key) : DoesI prog 183 #[vA (Ac c cv), keyv] DZ ro [] (pO [] (oB 61 #[keyv] fun b_0 => (oB 3 #[vI r] fun b_1 => (oB 92 (Ac c cv) fun b_2 => (oE (vF 241 #[] #[vP b_0 0, vP b_1 0, vP b_2 0]) []))))) := by
 unfold DB at hM
 refine Cg follows func183 rfl 15 rfl _ fz2 AT (fun base0_ => ?_)
 refine Ad <| r_a (92, (Ac c cv)) rfl rfl rfl (fun b2 => ?_) (.inr rfl)
 refine r_a (61, #[keyv]) rfl rfl (HW rfl (Rd.shp hkey)) (fun b3 => ?_) (.inr rfl)
 refine r_V Value.nilFunc rfl <| Aa <| AL [(some 11, false)] (conG prog [(11, cV (Gb N c key) fun u0_ => vT #[vI u0_.1, vB u0_.2])]) <| r_V (vP b2 0) rfl <| rl (vA (Ac c cv)) 1 <| rl keyv 0 ?_
 obtain ⟨r5, hr6, hM⟩ := Ab hM
 refine rg (vT #[vI r5.1, vB r5.2]) (cF Sw) (fun o w z_ => Nt N c key _ hr6 z_.view cv (Bun35R.mono z_.ro_cell hc) keyv ((Av hkey) o w z_)) (AF hr6) <| r_R [vT #[vI r5.1, vB r5.2], vI r5.1, vB r5.2] rfl <| r_a (3, #[vI 0]) rfl rfl rfl (fun b7 => ?_) (.inr rfl)
 refine r_s [(b7, 3, #[vI r5.1]), (b3, 61, #[keyv]), (b2, 92, (Ac c cv))] 0 _ _ _ _ _ (#[vI r5.1]) rfl rfl rfl rfl (.of rfl rfl) rfl rfl <| r_V (vB r5.2) rfl <| Aa <| Ad <| r_W (vF 241 #[] #[vP b3 0, vP b7 0, vP b2 0]) rfl (DV rfl) <| r_V (vF 241 #[] #[vP b3 0, vP b7 0, vP b2 0]) rfl <| Aa ?_
 cases hM
 refine AW (fun hn => DW (v0 := vF 241 #[] #[vP b3 0, vP b7 0, vP b2 0]) (O := [(Uu b3 keyv), (Uv b7 r5.1), [(b2, 92, (Ac c cv))]]) (Cy rfl) (Sub.pick [(Uv b7 r5.1), (Uu b3 keyv), [(b2, 92, (Ac c cv))]] [1, 0, 2] rfl) ⟨b3, _, ⟨b7, _, ⟨b2, _, ⟨rfl, rfl⟩, rfl⟩, rfl⟩, rfl⟩)
def EM (_ : Nat) (_ : Int) (v_1 : BitVec 128) : Option (BitVec 128) := some v_1
theorem Kr (N : Nat) (v_0 : Int) (v_1 r : BitVec 128) (hM : EM N v_0 v_1 = some r) : Gives prog 243 #[vA #[vI v_0, U (hi v_1), U (lo v_1)]] (vA #[U (hi r), U (lo r)]) := by
 unfold EM at hM
 refine AC follows func243 rfl 8 rfl _ fz1 (fun base0_ => ?_)
 refine Ad <| r_a (57, #[vI v_0, U (hi v_1), U (lo v_1)]) rfl rfl rfl (fun b2 => ?_) (.inr rfl)
 refine r_a (307, #[U (0#64), U (0#64)]) rfl rfl rfl (fun b3 => ?_) (.inr rfl)
 refine Aa <| Ad <| r_V (vP b2 1) rfl <| rl (U (hi v_1)) 1 <| r_V (vP b2 2) rfl <| rl (U (lo v_1)) 1 <| r_W (vA #[U (hi v_1), U (lo v_1)]) rfl (AE rfl rfl rfl rfl) <| r_s [(b3, 307, #[U (hi v_1), U (lo v_1)]), (b2, 57, #[vI v_0, U (hi v_1), U (lo v_1)])] 0 _ _ _ _ _ (#[U (hi v_1), U (lo v_1)]) rfl rfl rfl rfl (.of rfl rfl) rfl rfl <| Aa ?_
 cases hM
 refine AW (fun hn => CY (v0 := vA #[U (hi v_1), U (lo v_1)]) rfl (Cy (AZ hn 0 rfl rfl rfl)))
end Go.Proofs.YtjmdbbnnpmmpiaaGreatDoor
