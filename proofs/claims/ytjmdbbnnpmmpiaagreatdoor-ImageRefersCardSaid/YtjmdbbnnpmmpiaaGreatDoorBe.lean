import Derived.Test.YtjmdbbnnpmmpiaaGreatDoorBd
namespace Go.Proofs.YtjmdbbnnpmmpiaaGreatDoor
open Go Go.RowKit Go.Eng _root_.Go.Proofs.Tryz
set_option maxRecDepth 100000
set_option maxHeartbeats 8000000
abbrev KX (b : Nat) (x0 : Int) (x1 : Int) (x2 : Int) (x3 : Int) (x4 : BitVec 64) (x5 : BitVec 64) : List Bl := [(b, 59, #[vI x0, vI x1, vI x2, vI x3, U x4, U x5])]
abbrev Er (b : Nat) (x0 : Int) (x1 : Int) : List Bl := [(b, 388, #[vI x0, vI x1])]
abbrev Us (b : Nat) (x0 : Value) : List Bl := [(b, 51, #[x0])]
abbrev ME (b : Nat) (x0 : Value) : List Bl := [(b, 29, #[x0])]
abbrev KY (b : Nat) (x0 : List UInt8) (x1 : Value) (x2 : Value) : List Bl := [(b, 53, #[vS x0, x1, x2])]
abbrev Nn (b : Nat) (x0 : Value) : List Bl := [(b, 200, #[x0])]
abbrev Ur (b : Nat) (x0 : Value) : List Bl := [(b, 81, #[x0])]
abbrev Ql (b : Nat) (x0 : List UInt8) (x1 : Int) (x2 : Value) (x3 : Value) (x4 : Int) (x5 : Value) (x6 : Int) : List Bl := [(b, 72, #[vS x0, vI x1, x2, x3, vI x4, x5, vI x6])]
abbrev bB (b : Nat) (x0 : Int) (x1 : BitVec 64) (x2 : BitVec 64) : List Bl := [(b, 57, #[vI x0, U x1, U x2])]
def JB (N : Nat) (x_0 : Int) (x_1 : Int) (x_2 : Int) (x_3 : Int) (x_4 : BitVec 128) : Option (Sum322 × Int) := (Lj N x_0 x_1 x_2 x_3 x_4).bind fun r5 => if (r5 : Int) ≠ 0 then some (Sum322.nil, r5) else (Jz N x_0 x_1 x_2 x_3 x_4).bind fun r11 => some (r11, 0)
theorem XB (N : Nat) (x_0 x_1 x_2 x_3 : Int) (x_4 : BitVec 128) (r) (hM : JB N x_0 x_1 x_2 x_3 x_4 = some r) : Gives prog 281 #[vA #[vI x_0, vI x_1, vI x_2, vI x_3, U (hi x_4), U (lo x_4)]] (vT #[Sum322.v r.1, vI r.2]) := by
 unfold JB at hM
 refine AC follows func281 rfl 12 rfl _ fz1 (fun base0_ => ?_)
 refine Ad <| r_a (59, #[vI x_0, vI x_1, vI x_2, vI x_3, U (hi x_4), U (lo x_4)]) rfl rfl rfl (fun b2 => ?_) (.inr rfl)
 refine r_R [Value.nilIface, vI 0] rfl <| Aa <| Ai fun K3 hK3 => Ad <| rl (vA #[vI x_0, vI x_1, vI x_2, vI x_3, U (hi x_4), U (lo x_4)]) 0 ?_
 obtain ⟨r5, hr6, hM⟩ := Ab hM
 refine rc (vI r5) (cF XZ) (bS N x_0 x_1 x_2 x_3 x_4 _ hr6) <| r_V (vI r5) rfl <| Aa <| Ad <| r_R [vI r5, vB (r5 != 0)] rfl <| Aa <| Af _ rfl (fun hc8 => ?_) (fun hc8 => ?_)
 ·replace hM := iN hc8 hM
  refine Ad <| r_R [vI r5, Value.nilIface, vI r5] rfl <| Aa ?_
  cases hM
  exact aR eE2
 replace hM := iM hc8 hM
 refine Ah <| hK3 _ _ ?_
 refine Ad <| rl (vA #[vI x_0, vI x_1, vI x_2, vI x_3, U (hi x_4), U (lo x_4)]) 0 ?_
 obtain ⟨r11, hr12, hM⟩ := Ab hM
 refine rc (Sum322.v r11) (cF XY) (Xw N x_0 x_1 x_2 x_3 x_4 _ hr12) <| r_R [Sum322.v r11, vI 0] rfl <| Aa ?_
 cases hM
 exact aR eE2
def Ht (N : Nat) (l' : List (Int × Int × Int × Int × BitVec 128)) : Nat → List Sum322 → Int → Option ((List Sum322) × Int × Int)
  | 0, _, _ => none
  | n5 + 1, steps1_, x2_ => if x2_ < (l'.length : Int) then ck (0 ≤ x2_ ∧ x2_ < (l'.length : Int)) (if x2_ = 64 then some ([], x2_, 2) else (JB N ((l'[x2_.toNat]!).1) ((l'[x2_.toNat]!).2.1) ((l'[x2_.toNat]!).2.2.1) ((l'[x2_.toNat]!).2.2.2.1) ((l'[x2_.toNat]!).2.2.2.2)).bind fun r18 => if (r18.2 : Int) ≠ 0 then some ([], x2_, r18.2) else ck ((steps1_).length + ([r18.1]).length ≤ 8796093022208) (ck (-9223372036854775808 ≤ (x2_ + 1) ∧ (x2_ + 1) ≤ 9223372036854775807) ((Ht N l' n5) (steps1_ ++ ([r18.1])) (x2_ + 1)))) else some (steps1_, (steps1_.length : Int), 0)
def JP (N : Nat) (l' : List (Int × Int × Int × Int × BitVec 128)) : Option ((List Sum322) × Int × Int) := Ht N l' N ([]) 0
theorem bT (N : Nat) (l' : List (Int × Int × Int × Int × BitVec 128)) (r) (hM : JP N l' = some r) (ro : Ro) (l'v : Value) (hl' : Rd enc_59 ro l'v l') : Does prog 251 #[l'v] ro [] (p1 (fun s_ => vT #[s_, vI r.2.1, vI r.2.2]) 322 Gh r.1) := by
 unfold JP at hM
 refine Aq follows func251 rfl 37 rfl _ fz1 (fun base0_ => ?_)
 refine Ad <| r_R [nS, vI 0, vI 0] rfl <| Aa <| Ad <| r_V nS rfl <| Aa <| Ai fun K3 hK3 => Ad <| r_V l'v rfl <| r_W (vI (l'.length : Int)) rfl (Aj rfl rfl rfl (Rd.shp hl')) <| r_V (vI 0) rfl <| Aa <| Ap <| BF _ (Sub.pickE (Ls := [[]]) (Ls0 := []) rfl [0] rfl) <| AS (fun tt ll nn => ∃ (n5 : Nat) (steps1_ : List Sum322) (x2_ : Int), (Ht N l' n5 steps1_ x2_ = some r) ∧ ∃ (vsteps1_ : Value) (Ssteps1_ : List Bl), Sl 322 Gh vsteps1_ steps1_ Ssteps1_ ∧ Is [(5, vsteps1_), (10, l'v), (11, vI (l'.length : Int)), (12, vI x2_)] (List.flatten [Ssteps1_]) tt ll ∧ nn = n5 + 1) (N + 1) ?_ ?_
 ·exact ⟨N, [], 0, hM, nS, [], Sl.nil, Ak rfl rfl, rfl⟩
 clear hM; rintro t l _ ⟨n5, steps1_, x2_, hM, vsteps1_, Ssteps1_, hsteps1_, ⟨⟨T, rfl⟩, rfl⟩, rfl⟩
 rcases n5 with _ | n5
 ·exact absurd hM (by simp [Ht])
 rw [Ht] at hM
 refine Ad <| r_V (vB (decide (x2_ < (l'.length : Int)))) rfl <| Aa <| Ai fun K7 hK7 => Af _ rfl (fun hc8 => ?_) (fun hc8 => ?_)
 ·replace hM := iD hc8 hM
  refine Ah <| hK7 _ _ ?_
  refine Ai fun K9 hK9 => Ap <| Ad <| r_V (vI x2_) rfl ?_
  obtain ⟨ck11, hM⟩ := Ae hM
  refine r_W (elA l'v (x2_.toNat * 6)) rfl (AD (An rfl rfl rfl (Rd.shp hl') ck11)) <| Bw (vA #[vI ((l'[x2_.toNat]!).1), vI ((l'[x2_.toNat]!).2.1), vI ((l'[x2_.toNat]!).2.2.1), vI ((l'[x2_.toNat]!).2.2.2.1), U (hi ((l'[x2_.toNat]!).2.2.2.2)), U (lo ((l'[x2_.toNat]!).2.2.2.2))]) (En := enc_59) (l'[x2_.toNat]!) (x2_.toNat) 0 rfl rfl (Av hl') (AA ck11) rfl <| r_a (59, #[vI 0, vI 0, vI 0, vI 0, U (0#64), U (0#64)]) rfl rfl rfl (fun b12 => ?_) (.inr rfl)
  refine r_V (vI x2_) rfl <| r_s (List.flatten [(KX b12 ((l'[x2_.toNat]!).1) ((l'[x2_.toNat]!).2.1) ((l'[x2_.toNat]!).2.2.1) ((l'[x2_.toNat]!).2.2.2.1) (hi ((l'[x2_.toNat]!).2.2.2.2)) (lo ((l'[x2_.toNat]!).2.2.2.2))), Ssteps1_]) 0 _ _ _ _ _ (#[vI ((l'[x2_.toNat]!).1), vI ((l'[x2_.toNat]!).2.1), vI ((l'[x2_.toNat]!).2.2.1), vI ((l'[x2_.toNat]!).2.2.2.1), U (hi ((l'[x2_.toNat]!).2.2.2.2)), U (lo ((l'[x2_.toNat]!).2.2.2.2))]) rfl rfl rfl rfl (.of rfl rfl) rfl rfl <| Aa <| Ai fun K13 hK13 => Ad <| r_R [vI x2_, vB (x2_ == 64)] rfl <| Aa <| Af _ rfl (fun hc15 => ?_) (fun hc15 => ?_)
  ·replace hM := iE hc15 hM
   refine Ad <| r_R [vI x2_, nS, vI x2_, vI 2] rfl <| Aa ?_
   cases hM
   refine AW (fun hn => Ex (v0 := vT #[nS, vI x2_, vI 2]) Sl.nil (Sub.nil _) rfl (aS rfl rfl rfl))
  replace hM := iG hc15 hM
  refine Ah <| hK13 _ _ ?_
  refine Ad <| rl (vA #[vI ((l'[x2_.toNat]!).1), vI ((l'[x2_.toNat]!).2.1), vI ((l'[x2_.toNat]!).2.2.1), vI ((l'[x2_.toNat]!).2.2.2.1), U (hi ((l'[x2_.toNat]!).2.2.2.2)), U (lo ((l'[x2_.toNat]!).2.2.2.2))]) 0 ?_
  obtain ⟨r18, hr19, hM⟩ := Ab hM
  refine rc (vT #[Sum322.v r18.1, vI r18.2]) (cF Yj) (XB N ((l'[x2_.toNat]!).1) ((l'[x2_.toNat]!).2.1) ((l'[x2_.toNat]!).2.2.1) ((l'[x2_.toNat]!).2.2.2.1) ((l'[x2_.toNat]!).2.2.2.2) _ hr19) <| r_R [vT #[Sum322.v r18.1, vI r18.2], Sum322.v r18.1, vI r18.2, Sum322.v r18.1, vI r18.2] rfl <| Aa <| Ai fun K20 hK20 => Ad <| r_R [vI r18.2, vB (r18.2 != 0)] rfl <| Aa <| Af _ rfl (fun hc22 => ?_) (fun hc22 => ?_)
  ·replace hM := iN hc22 hM
   refine Ad <| r_R [vI x2_, vI r18.2, nS, vI x2_, vI r18.2] rfl <| Aa ?_
   cases hM
   refine AW (fun hn => Ex (v0 := vT #[nS, vI x2_, vI r18.2]) Sl.nil (Sub.nil _) rfl (aS rfl rfl rfl))
  replace hM := iM hc22 hM
  refine Ah <| hK20 _ _ ?_
  refine BB [(some 31, false), (some 32, true)] (conG prog []) <| r_R [vsteps1_, Sum322.v r18.1] rfl <| Dj (cs0 := []) (Ls := [(KX b12 ((l'[x2_.toNat]!).1) ((l'[x2_.toNat]!).2.1) ((l'[x2_.toNat]!).2.2.1) ((l'[x2_.toNat]!).2.2.2.1) (hi ((l'[x2_.toNat]!).2.2.2.2)) (lo ((l'[x2_.toNat]!).2.2.2.2))), Ssteps1_]) 322 Gh [r18.1] [Sum322.v r18.1] [Value.nilIface] rfl rfl rfl rfl rfl rfl rfl (by kernel_rfl) ((Lg _ _ _ _ (IS (Vw (v := Sum322.v r18.1) rfl (Sum322.cells r18.1)) Qb)).trans (by kernel_rfl)) rfl rfl rfl (fun s24 S25 H26 => ?_)
  obtain ⟨ck27, hM⟩ := Ae hM
  refine HJ (cs0 := []) (Ls := [(KX b12 ((l'[x2_.toNat]!).1) ((l'[x2_.toNat]!).2.1) ((l'[x2_.toNat]!).2.2.1) ((l'[x2_.toNat]!).2.2.2.1) (hi ((l'[x2_.toNat]!).2.2.2.2)) (lo ((l'[x2_.toNat]!).2.2.2.2))), Ssteps1_, S25]) 1 (En := Gh) rfl rfl rfl rfl rfl hsteps1_ rfl (AN H26 (Aw (Ls := [(KX b12 ((l'[x2_.toNat]!).1) ((l'[x2_.toNat]!).2.1) ((l'[x2_.toNat]!).2.2.1) ((l'[x2_.toNat]!).2.2.2.1) (hi ((l'[x2_.toNat]!).2.2.2.2)) (lo ((l'[x2_.toNat]!).2.2.2.2))), Ssteps1_, S25]) (k := 2) rfl rfl)) rfl rfl rfl rfl rfl (HV ck27 rfl) (HU ck27 rfl) rfl (fun s28 S29 H30 => ?_)
  refine r_V s28 rfl <| Aa <| hK9 _ _ ?_
  refine Ax ?_
  obtain ⟨ck31, hM⟩ := Ae hM
  refine r_X (vI (x2_ + 1)) rfl (AR rfl ck31.1 ck31.2) rfl <| r_V (vI (x2_ + 1)) rfl <| Aa <| fg _ (Sub.pick [(KX b12 ((l'[x2_.toNat]!).1) ((l'[x2_.toNat]!).2.1) ((l'[x2_.toNat]!).2.2.1) ((l'[x2_.toNat]!).2.2.2.1) (hi ((l'[x2_.toNat]!).2.2.2.2)) (lo ((l'[x2_.toNat]!).2.2.2.2))), S29, S25] [1] rfl) ?_
  exact ⟨n5 + 1, by omega, n5, (steps1_ ++ ([r18.1])), (x2_ + 1), hM, s28, S29, H30, Ak rfl rfl, rfl⟩
 replace hM := iF hc8 hM
 refine AM <| hK3 _ _ ?_
 refine Ad <| r_R [vsteps1_, vsteps1_] rfl <| r_W (vI (steps1_.length : Int)) rfl (Aj rfl rfl rfl (Sl.shp hsteps1_)) <| r_R [vsteps1_, vI (steps1_.length : Int), vI 0] rfl <| Aa ?_
 cases hM
 refine AW (fun hn => Ex (v0 := vT #[vsteps1_, vI (steps1_.length : Int), vI 0]) hsteps1_ (Cv (Sub.pick [Ssteps1_] [0] rfl)) rfl (aS rfl rfl rfl))
def Ju (N : Nat) (l' : List Int) (i : Int) : Option Bool := ck ((-9223372036854775808 ≤ ((l'.length : Int) - 1) ∧ ((l'.length : Int) - 1) ≤ 9223372036854775807)) ((Az N i 0 ((l'.length : Int) - 1)).bind fun r4 => some r4)
theorem Xc (N : Nat) (l' : List Int) (i : Int) (r) (hM : Ju N l' i = some r) (ro : Ro) (l'v : Value) (hl' : Rd BK ro l'v l') : Does prog 282 #[l'v, vI i] ro [] (pV (vB r)) := by
 unfold Ju at hM
 refine Aq follows func282 rfl 10 rfl _ fz2 (fun base0_ => ?_)
 refine Ad <| r_V (vB false) rfl <| Aa <| Ad <| r_R [vI i, l'v] rfl <| r_W (vI (l'.length : Int)) rfl (Aj rfl rfl rfl (Rd.shp hl')) ?_
 obtain ⟨ck3, hM⟩ := Ae hM
 refine r_X (vI ((l'.length : Int) - 1)) rfl (AR rfl ck3.1 ck3.2) rfl ?_
 obtain ⟨r4, hr5, hM⟩ := Ab hM
 refine rc (vB r4) (cF BP) (AI N i 0 ((l'.length : Int) - 1) _ hr5) <| r_V (vB r4) rfl <| Aa ?_
 cases hM
 exact aR eV1
def Gu (N : Nat) (l' : List (List UInt8 × Int × Int)) (i : Int) : Option Bool := ck ((-9223372036854775808 ≤ ((l'.length : Int) - 1) ∧ ((l'.length : Int) - 1) ≤ 9223372036854775807)) ((Az N i 0 ((l'.length : Int) - 1)).bind fun r4 => some r4)
theorem Qs (N : Nat) (l' : List (List UInt8 × Int × Int)) (i : Int) (r) (hM : Gu N l' i = some r) (ro : Ro) (l'v : Value) (hl' : Rd enc_118 ro l'v l') : Does prog 283 #[l'v, vI i] ro [] (pV (vB r)) := by
 unfold Gu at hM
 refine Aq follows func283 rfl 10 rfl _ fz2 (fun base0_ => ?_)
 refine Ad <| r_V (vB false) rfl <| Aa <| Ad <| r_R [vI i, l'v] rfl <| r_W (vI (l'.length : Int)) rfl (Aj rfl rfl rfl (Rd.shp hl')) ?_
 obtain ⟨ck3, hM⟩ := Ae hM
 refine r_X (vI ((l'.length : Int) - 1)) rfl (AR rfl ck3.1 ck3.2) rfl ?_
 obtain ⟨r4, hr5, hM⟩ := Ab hM
 refine rc (vB r4) (cF BP) (AI N i 0 ((l'.length : Int) - 1) _ hr5) <| r_V (vB r4) rfl <| Aa ?_
 cases hM
 exact aR eV1
def DJ (N : Nat) (l' : List (List UInt8 × Int)) (i : Int) : Option Bool := ck ((-9223372036854775808 ≤ ((l'.length : Int) - 1) ∧ ((l'.length : Int) - 1) ≤ 9223372036854775807)) ((Az N i 0 ((l'.length : Int) - 1)).bind fun r4 => some r4)
theorem LJ (N : Nat) (l' : List (List UInt8 × Int)) (i : Int) (r) (hM : DJ N l' i = some r) (ro : Ro) (l'v : Value) (hl' : Rd enc_122 ro l'v l') : Does prog 284 #[l'v, vI i] ro [] (pV (vB r)) := by
 unfold DJ at hM
 refine Aq follows func284 rfl 10 rfl _ fz2 (fun base0_ => ?_)
 refine Ad <| r_V (vB false) rfl <| Aa <| Ad <| r_R [vI i, l'v] rfl <| r_W (vI (l'.length : Int)) rfl (Aj rfl rfl rfl (Rd.shp hl')) ?_
 obtain ⟨ck3, hM⟩ := Ae hM
 refine r_X (vI ((l'.length : Int) - 1)) rfl (AR rfl ck3.1 ck3.2) rfl ?_
 obtain ⟨r4, hr5, hM⟩ := Ab hM
 refine rc (vB r4) (cF BP) (AI N i 0 ((l'.length : Int) - 1) _ hr5) <| r_V (vB r4) rfl <| Aa ?_
 cases hM
 exact aR eV1
def EV (N : Nat) (l' : List (List UInt8 × Int × Int × Int)) (i : Int) : Option Bool := ck ((-9223372036854775808 ≤ ((l'.length : Int) - 1) ∧ ((l'.length : Int) - 1) ≤ 9223372036854775807)) ((Az N i 0 ((l'.length : Int) - 1)).bind fun r4 => some r4)
theorem Nx (N : Nat) (l' : List (List UInt8 × Int × Int × Int)) (i : Int) (r) (hM : EV N l' i = some r) (ro : Ro) (l'v : Value) (hl' : Rd enc_126 ro l'v l') : Does prog 285 #[l'v, vI i] ro [] (pV (vB r)) := by
 unfold EV at hM
 refine Aq follows func285 rfl 10 rfl _ fz2 (fun base0_ => ?_)
 refine Ad <| r_V (vB false) rfl <| Aa <| Ad <| r_R [vI i, l'v] rfl <| r_W (vI (l'.length : Int)) rfl (Aj rfl rfl rfl (Rd.shp hl')) ?_
 obtain ⟨ck3, hM⟩ := Ae hM
 refine r_X (vI ((l'.length : Int) - 1)) rfl (AR rfl ck3.1 ck3.2) rfl ?_
 obtain ⟨r4, hr5, hM⟩ := Ab hM
 refine rc (vB r4) (cF BP) (AI N i 0 ((l'.length : Int) - 1) _ hr5) <| r_V (vB r4) rfl <| Aa ?_
 cases hM
 exact aR eV1
def Bz (N : Nat) (m : Al) (slot : Int) : Option Bool := (Ip N m.2.2.1 slot).bind fun r4 => some r4.2.2
theorem Ir (N : Nat) (m : Al) (slot : Int) (r) (hM : Bz N m slot = some r) (ro : Ro) (mv : AP) (hm : Bun35R ro mv m) : Does prog 134 #[vA (Ac m mv), vI slot] ro [] (pV (vB r)) := by
 unfold Bz at hM
 refine Aq follows func134 rfl 17 rfl _ fz2 (fun base0_ => ?_)
 refine Ad <| r_a (35, (Ac m mv)) rfl rfl rfl (fun b2 => ?_) (.inr rfl)
 refine r_V (vB false) rfl <| Aa <| AL [(some 12, false)] (conG prog [(12, cV (Ip N m.2.2.1 slot) fun u0_ => vT #[vI u0_.1, vI u0_.2.1, vB u0_.2.2])]) <| r_V (vP b2 2) rfl <| rl mv.2.1 0 <| r_V (vI slot) rfl ?_
 obtain ⟨r4, hr5, hM⟩ := Ab hM
 refine rg (vT #[vI r4.1, vI r4.2.1, vB r4.2.2]) (cF Og) (fun o w z_ => Tf N m.2.2.1 slot _ hr5 z_.view mv.2.1 ((Av hm.2.1) o w z_)) (AF hr5) <| r_R [vT #[vI r4.1, vI r4.2.1, vB r4.2.2], vI r4.1, vI r4.2.1, vB r4.2.2, vI r4.1, vI r4.2.1, vB r4.2.2] rfl <| Aa <| Ad <| r_R [vB r4.2.2, vB r4.2.2] rfl <| Aa ?_
 cases hM
 exact aR eV1
def IH (N : Nat) (m : Al) (x_1 : Int) (x9_ : Bool) : Option Bool := if x9_ = true then (Cp N m x_1).bind fun r39 => some r39.2.2 else some true
def If (N : Nat) (m : Al) (x_0 : Int) (x_1 : Int) (x7_ : Bool) : Option Bool := if x7_ = true then (Bz N m x_1).bind fun r35 => some r35 else if x_0 = 27 then IH N m x_1 (x_0 == 27) else IH N m x_1 (x_0 == 28)
def Ig (N : Nat) (m : Al) (x_0 : Int) (x_1 : Int) (x5_ : Bool) : Option Bool := if x5_ = true then (Gu N m.2.2.2.2.2.2.2.2.2.2.2.2.1 x_1).bind fun r21 => some r21 else if x_0 = 29 then (DJ N m.2.2.2.2.2.2.2.2.2.2.2.2.2.1 x_1).bind fun r26 => some r26 else if x_0 = 30 then (EV N m.2.2.2.2.2.2.2.2.2.2.2.2.2.2.1 x_1).bind fun r31 => some r31 else if x_0 = 4 then If N m x_0 x_1 (x_0 == 4) else if x_0 = 25 then If N m x_0 x_1 (x_0 == 25) else if x_0 = 26 then If N m x_0 x_1 (x_0 == 26) else If N m x_0 x_1 (x_0 == 33)
def Ih (N : Nat) (m : Al) (params : List Int) (x_0 : Int) (x_1 : Int) (x3_ : Bool) : Option Bool := if x3_ = true then (BU N m x_1).bind fun r12 => some r12.2 else if x_0 = 3 then (Ju N params x_1).bind fun r17 => some r17 else if x_0 = 5 then Ig N m x_0 x_1 (x_0 == 5) else Ig N m x_0 x_1 (x_0 == 24)
def Ii (N : Nat) (m : Al) (params : List Int) (x_0 : Int) (x_1 : Int) (x_2 : Int) (x1_ : Bool) : Option Bool := if x1_ = true then (Bu N m x_1 x_2).bind fun r8 => some r8.2 else if x_0 = 2 then Ih N m params x_0 x_1 (x_0 == 2) else Ih N m params x_0 x_1 (x_0 == 23)
def IX (N : Nat) (m : Al) (params : List Int) (x_0 : Int) (x_1 : Int) (x_2 : Int) (_ : Int) (_ : BitVec 128) : Option Bool := if x_0 = 1 then Ii N m params x_0 x_1 x_2 (x_0 == 1) else Ii N m params x_0 x_1 x_2 (x_0 == 22)
theorem ew (N : Nat) (m : Al) (params : List Int) (x_0 x_1 x_2 x_3 : Int) (x_4 : BitVec 128) (r) (hM : IX N m params x_0 x_1 x_2 x_3 x_4 = some r) (ro : Ro) (mv : AP) (hm : Bun35R ro mv m) (paramsv : Value) (hparams : Rd BK ro paramsv params) : DoesI prog 254 #[vA (Ac m mv), paramsv, vA #[vI x_0, vI x_1, vI x_2, vI x_3, U (hi x_4), U (lo x_4)]] DZ ro [] (pV (vB r)) := by
 unfold IX at hM
 refine AO follows func254 rfl 81 rfl _ fz3 AT (fun base0_ => ?_)
 refine Ad <| r_a (35, (Ac m mv)) rfl rfl rfl (fun b2 => ?_) (.inr rfl)
 refine r_a (59, #[vI x_0, vI x_1, vI x_2, vI x_3, U (hi x_4), U (lo x_4)]) rfl rfl rfl (fun b3 => ?_) (.inr rfl)
 refine r_V (vB false) rfl <| Aa <| Ad <| r_V (vB true) rfl <| Aa <| Ai fun K5 hK5 => Ad <| r_V (vP b3 0) rfl <| rl (vI x_0) 0 <| Aa <| Ap <| Bm (fun tt ll => ∃ (x1_ : Bool), (Ii N m params x_0 x_1 x_2 x1_ = some r) ∧ Is [(1, paramsv), (3, vP b2 0), (5, vP b3 0), (7, vB true), (9, vI x_0), (10, vB x1_)] [(b3, 59, #[vI x_0, vI x_1, vI x_2, vI x_3, U (hi x_4), U (lo x_4)]), (b2, 35, (Ac m mv))] tt ll) ?_ ?_
 ·refine Ad <| r_R [vB (x_0 == 1), vB (x_0 == 1)] rfl <| Aa <| Af _ rfl (fun hc56 => ?_) (fun hc56 => ?_)
  ·replace hM := iE hc56 hM
   refine Ah <| fg _ (Sub.of (suK _ (suK _ suN))) ?_
   exact ⟨(x_0 == 1), hM, Ak rfl rfl⟩
  replace hM := iG hc56 hM
  refine Ax <| r_R [vB (x_0 == 22), vB (x_0 == 22)] rfl <| Aa <| fg _ (Sub.of (suK _ (suK _ suN))) ?_
  exact ⟨(x_0 == 22), hM, Ak rfl rfl⟩
 clear hM; rintro t l ⟨x1_, hM, ⟨T, rfl⟩, rfl⟩
 unfold Ii at hM
 refine Af _ rfl (fun hc7 => ?_) (fun hc7 => ?_)
 ·replace hM := ifp hc7 hM
  refine BB [(some 19, false)] (conG prog [(19, cV (Bu N m x_1 x_2) fun u0_ => vT #[vI u0_.1, vB u0_.2])]) <| rl (vA (Ac m mv)) 1 <| r_V (vP b3 1) rfl <| rl (vI x_1) 0 <| r_V (vP b3 2) rfl <| rl (vI x_2) 0 ?_
  obtain ⟨r8, hr9, hM⟩ := Ab hM
  refine rg (vT #[vI r8.1, vB r8.2]) (cF MM) (fun o w z_ => (Does.inv (Hy N m x_1 x_2 _ hr9 z_.view mv (Bun35R.mono z_.ro_cell hm)) _)) (AF hr9) <| r_R [vT #[vI r8.1, vB r8.2], vI r8.1, vB r8.2, vB r8.2] rfl <| Aa <| hK5 _ _ ?_
  refine Ad <| r_R [vB r8.2, vB r8.2] rfl <| Aa ?_
  cases hM
  exact aR eV1
 replace hM := iB hc7 hM
 refine Bm (fun tt ll => ∃ (x3_ : Bool), (Ih N m params x_0 x_1 x3_ = some r) ∧ Is [(1, paramsv), (3, vP b2 0), (5, vP b3 0), (7, vB true), (9, vI x_0), (22, vB x3_)] [(b3, 59, #[vI x_0, vI x_1, vI x_2, vI x_3, U (hi x_4), U (lo x_4)]), (b2, 35, (Ac m mv))] tt ll) ?_ ?_
 ·refine Ad <| r_R [vB (x_0 == 2), vB (x_0 == 2)] rfl <| Aa <| Af _ rfl (fun hc54 => ?_) (fun hc54 => ?_)
  ·replace hM := iE hc54 hM
   refine Ah <| fg _ (Sub.of (suK _ (suK _ suN))) ?_
   exact ⟨(x_0 == 2), hM, Ak rfl rfl⟩
  replace hM := iG hc54 hM
  refine Ax <| r_R [vB (x_0 == 23), vB (x_0 == 23)] rfl <| Aa <| fg _ (Sub.of (suK _ (suK _ suN))) ?_
  exact ⟨(x_0 == 23), hM, Ak rfl rfl⟩
 clear hM; rintro t l ⟨x3_, hM, ⟨T, rfl⟩, rfl⟩
 unfold Ih at hM
 refine Af _ rfl (fun hc11 => ?_) (fun hc11 => ?_)
 ·replace hM := ifp hc11 hM
  refine BB [(some 29, false)] (conG prog [(29, cV (BU N m x_1) fun u0_ => vT #[vI u0_.1, vB u0_.2])]) <| rl (vA (Ac m mv)) 1 <| r_V (vP b3 1) rfl <| rl (vI x_1) 0 ?_
  obtain ⟨r12, hr13, hM⟩ := Ab hM
  refine rg (vT #[vI r12.1, vB r12.2]) (cF QM) (fun o w z_ => Jt N m x_1 _ hr13 z_.view mv (Bun35R.mono z_.ro_cell hm)) (AF hr13) <| r_R [vT #[vI r12.1, vB r12.2], vI r12.1, vB r12.2, vB r12.2] rfl <| Aa <| hK5 _ _ ?_
  refine Ad <| r_R [vB r12.2, vB r12.2] rfl <| Aa ?_
  cases hM
  exact aR eV1
 replace hM := iB hc11 hM
 refine Ad <| r_R [vB (x_0 == 3), vB (x_0 == 3)] rfl <| Aa <| Af _ rfl (fun hc16 => ?_) (fun hc16 => ?_)
 ·replace hM := iE hc16 hM
  refine BB [(some 37, false)] (conG prog [(37, cV (Ju N params x_1) fun u0_ => vB u0_)]) <| r_R [paramsv, vP b3 1] rfl <| rl (vI x_1) 0 ?_
  obtain ⟨r17, hr18, hM⟩ := Ab hM
  refine rg (vB r17) (cF Yi) (fun o w z_ => (Does.inv (Xc N params x_1 _ hr18 z_.view paramsv ((Av hparams) o w z_)) _)) (AF hr18) <| r_V (vB r17) rfl <| Aa <| hK5 _ _ ?_
  refine Ad <| r_R [vB r17, vB r17] rfl <| Aa ?_
  cases hM
  exact aR eV1
 replace hM := iG hc16 hM
 refine Bm (fun tt ll => ∃ (x5_ : Bool), (Ig N m x_0 x_1 x5_ = some r) ∧ Is [(3, vP b2 0), (5, vP b3 0), (7, vB true), (9, vI x_0), (38, vB x5_)] [(b3, 59, #[vI x_0, vI x_1, vI x_2, vI x_3, U (hi x_4), U (lo x_4)]), (b2, 35, (Ac m mv))] tt ll) ?_ ?_
 ·refine Ad <| r_R [vB (x_0 == 5), vB (x_0 == 5)] rfl <| Aa <| Af _ rfl (fun hc52 => ?_) (fun hc52 => ?_)
  ·replace hM := iE hc52 hM
   refine Ah <| fg _ (Sub.of (suK _ (suK _ suN))) ?_
   exact ⟨(x_0 == 5), hM, Ak rfl rfl⟩
  replace hM := iG hc52 hM
  refine Ax <| r_R [vB (x_0 == 24), vB (x_0 == 24)] rfl <| Aa <| fg _ (Sub.of (suK _ (suK _ suN))) ?_
  exact ⟨(x_0 == 24), hM, Ak rfl rfl⟩
 clear hM; rintro t l ⟨x5_, hM, ⟨T, rfl⟩, rfl⟩
 unfold Ig at hM
 refine Af _ rfl (fun hc20 => ?_) (fun hc20 => ?_)
 ·replace hM := ifp hc20 hM
  refine BB [(some 45, false)] (conG prog [(45, cV (Gu N m.2.2.2.2.2.2.2.2.2.2.2.2.1 x_1) fun u0_ => vB u0_)]) <| r_V (vP b2 12) rfl <| rl mv.2.2.2.2.2.2.2.2.2.2.2.1 1 <| r_V (vP b3 1) rfl <| rl (vI x_1) 0 ?_
  obtain ⟨r21, hr22, hM⟩ := Ab hM
  refine rg (vB r21) (cF Yh) (fun o w z_ => (Does.inv (Qs N m.2.2.2.2.2.2.2.2.2.2.2.2.1 x_1 _ hr22 z_.view mv.2.2.2.2.2.2.2.2.2.2.2.1 ((Av hm.2.2.2.2.2.2.2.2.2.2.2.1) o w z_)) _)) (AF hr22) <| r_V (vB r21) rfl <| Aa <| hK5 _ _ ?_
  refine Ad <| r_R [vB r21, vB r21] rfl <| Aa ?_
  cases hM
  exact aR eV1
 replace hM := iB hc20 hM
 refine Ad <| r_R [vB (x_0 == 29), vB (x_0 == 29)] rfl <| Aa <| Af _ rfl (fun hc25 => ?_) (fun hc25 => ?_)
 ·replace hM := iE hc25 hM
  refine BB [(some 52, false)] (conG prog [(52, cV (DJ N m.2.2.2.2.2.2.2.2.2.2.2.2.2.1 x_1) fun u0_ => vB u0_)]) <| r_V (vP b2 13) rfl <| rl mv.2.2.2.2.2.2.2.2.2.2.2.2.1 1 <| r_V (vP b3 1) rfl <| rl (vI x_1) 0 ?_
  obtain ⟨r26, hr27, hM⟩ := Ab hM
  refine rg (vB r26) (cF Yg) (fun o w z_ => (Does.inv (LJ N m.2.2.2.2.2.2.2.2.2.2.2.2.2.1 x_1 _ hr27 z_.view mv.2.2.2.2.2.2.2.2.2.2.2.2.1 ((Av hm.2.2.2.2.2.2.2.2.2.2.2.2.1) o w z_)) _)) (AF hr27) <| r_V (vB r26) rfl <| Aa <| hK5 _ _ ?_
  refine Ad <| r_R [vB r26, vB r26] rfl <| Aa ?_
  cases hM
  exact aR eV1
 replace hM := iG hc25 hM
 refine Ad <| r_R [vB (x_0 == 30), vB (x_0 == 30)] rfl <| Aa <| Af _ rfl (fun hc30 => ?_) (fun hc30 => ?_)
 ·replace hM := iE hc30 hM
  refine BB [(some 59, false)] (conG prog [(59, cV (EV N m.2.2.2.2.2.2.2.2.2.2.2.2.2.2.1 x_1) fun u0_ => vB u0_)]) <| r_V (vP b2 14) rfl <| rl mv.2.2.2.2.2.2.2.2.2.2.2.2.2 1 <| r_V (vP b3 1) rfl <| rl (vI x_1) 0 ?_
  obtain ⟨r31, hr32, hM⟩ := Ab hM
  refine rg (vB r31) (cF Yf) (fun o w z_ => (Does.inv (Nx N m.2.2.2.2.2.2.2.2.2.2.2.2.2.2.1 x_1 _ hr32 z_.view mv.2.2.2.2.2.2.2.2.2.2.2.2.2 ((Av hm.2.2.2.2.2.2.2.2.2.2.2.2.2) o w z_)) _)) (AF hr32) <| r_V (vB r31) rfl <| Aa <| hK5 _ _ ?_
  refine Ad <| r_R [vB r31, vB r31] rfl <| Aa ?_
  cases hM
  exact aR eV1
 replace hM := iG hc30 hM
 refine Bm (fun tt ll => ∃ (x7_ : Bool), (If N m x_0 x_1 x7_ = some r) ∧ Is [(3, vP b2 0), (5, vP b3 0), (7, vB true), (9, vI x_0), (60, vB x7_)] [(b3, 59, #[vI x_0, vI x_1, vI x_2, vI x_3, U (hi x_4), U (lo x_4)]), (b2, 35, (Ac m mv))] tt ll) ?_ ?_
 ·refine Ad <| r_R [vB (x_0 == 4), vB (x_0 == 4)] rfl <| Aa <| Af _ rfl (fun hc46 => ?_) (fun hc46 => ?_)
  ·replace hM := iE hc46 hM
   refine Ah <| fg _ (Sub.of (suK _ (suK _ suN))) ?_
   exact ⟨(x_0 == 4), hM, Ak rfl rfl⟩
  replace hM := iG hc46 hM
  refine Ad <| r_R [vB (x_0 == 25), vB (x_0 == 25)] rfl <| Aa <| Af _ rfl (fun hc48 => ?_) (fun hc48 => ?_)
  ·replace hM := iE hc48 hM
   refine Ah <| fg _ (Sub.of (suK _ (suK _ suN))) ?_
   exact ⟨(x_0 == 25), hM, Ak rfl rfl⟩
  replace hM := iG hc48 hM
  refine Ad <| r_R [vB (x_0 == 26), vB (x_0 == 26)] rfl <| Aa <| Af _ rfl (fun hc50 => ?_) (fun hc50 => ?_)
  ·replace hM := iE hc50 hM
   refine Ah <| fg _ (Sub.of (suK _ (suK _ suN))) ?_
   exact ⟨(x_0 == 26), hM, Ak rfl rfl⟩
  replace hM := iG hc50 hM
  refine Ax <| r_R [vB (x_0 == 33), vB (x_0 == 33)] rfl <| Aa <| fg _ (Sub.of (suK _ (suK _ suN))) ?_
  exact ⟨(x_0 == 33), hM, Ak rfl rfl⟩
 clear hM; rintro t l ⟨x7_, hM, ⟨T, rfl⟩, rfl⟩
 unfold If at hM
 refine Af _ rfl (fun hc34 => ?_) (fun hc34 => ?_)
 ·replace hM := ifp hc34 hM
  refine BB [(some 68, false)] (conG prog [(68, cV (Bz N m x_1) fun u0_ => vB u0_)]) <| rl (vA (Ac m mv)) 1 <| r_V (vP b3 1) rfl <| rl (vI x_1) 0 ?_
  obtain ⟨r35, hr36, hM⟩ := Ab hM
  refine rg (vB r35) (cF Oj) (fun o w z_ => (Does.inv (Ir N m x_1 _ hr36 z_.view mv (Bun35R.mono z_.ro_cell hm)) _)) (AF hr36) <| r_V (vB r35) rfl <| Aa <| hK5 _ _ ?_
  refine Ad <| r_R [vB r35, vB r35] rfl <| Aa ?_
  cases hM
  exact aR eV1
 replace hM := iB hc34 hM
 refine Bm (fun tt ll => ∃ (x9_ : Bool), (IH N m x_1 x9_ = some r) ∧ Is [(3, vP b2 0), (5, vP b3 0), (7, vB true), (69, vB x9_)] [(b3, 59, #[vI x_0, vI x_1, vI x_2, vI x_3, U (hi x_4), U (lo x_4)]), (b2, 35, (Ac m mv))] tt ll) ?_ ?_
 ·refine Ad <| r_R [vB (x_0 == 27), vB (x_0 == 27)] rfl <| Aa <| Af _ rfl (fun hc44 => ?_) (fun hc44 => ?_)
  ·replace hM := iE hc44 hM
   refine Ah <| fg _ (Sub.of (suK _ (suK _ suN))) ?_
   exact ⟨(x_0 == 27), hM, Ak rfl rfl⟩
  replace hM := iG hc44 hM
  refine Ax <| r_R [vB (x_0 == 28), vB (x_0 == 28)] rfl <| Aa <| fg _ (Sub.of (suK _ (suK _ suN))) ?_
  exact ⟨(x_0 == 28), hM, Ak rfl rfl⟩
 clear hM; rintro t l ⟨x9_, hM, ⟨T, rfl⟩, rfl⟩
 unfold IH at hM
 refine Af _ rfl (fun hc38 => ?_) (fun hc38 => ?_)
 ·replace hM := ifp hc38 hM
  refine BB [(some 76, false)] (conG prog [(76, cV (Cp N m x_1) fun u0_ => vT #[vI u0_.1, vI u0_.2.1, vB u0_.2.2])]) <| rl (vA (Ac m mv)) 1 <| r_V (vP b3 1) rfl <| rl (vI x_1) 0 ?_
  obtain ⟨r39, hr40, hM⟩ := Ab hM
  refine rg (vT #[vI r39.1, vI r39.2.1, vB r39.2.2]) (cF Sx) (fun o w z_ => (Does.inv (Js N m x_1 _ hr40 z_.view mv (Bun35R.mono z_.ro_cell hm)) _)) (AF hr40) <| r_R [vT #[vI r39.1, vI r39.2.1, vB r39.2.2], vI r39.1, vI r39.2.1, vB r39.2.2, vB r39.2.2] rfl <| Aa <| hK5 _ _ ?_
  refine Ad <| r_R [vB r39.2.2, vB r39.2.2] rfl <| Aa ?_
  cases hM
  exact aR eV1
 replace hM := iB hc38 hM
 refine Ah <| hK5 _ _ ?_
 refine Ad <| r_R [vB true, vB true] rfl <| Aa ?_
 cases hM
 exact aR eV1
def KE (_ : Nat) (s : Sum322) : Option (Int × Bool) := Sum322.on s (some (0, false)) (fun _ _ => some (0, false)) (fun _ _ _ => some (0, false)) (fun _ _ => some (0, false)) (fun _ _ => some (0, false)) (fun _ _ => some (0, false)) (fun _ _ => some (0, false)) (fun _ _ _ => some (0, false)) (fun _ x22_1 => some (x22_1, true)) (fun _ x24_1 => some (x24_1, true)) (some (0, false)) (fun _ => some (0, false))
theorem TG (N : Nat) (s : Sum322) (r) (hM : KE N s = some r) : Gives prog 296 #[Sum322.v s] (vT #[vI r.1, vB r.2]) := by
 unfold KE at hM
 refine AC follows func296 rfl 24 rfl _ fz1 (fun base0_ => ?_)
 refine Ad <| r_R [vI 0, vB false] rfl <| Aa <| Ai fun K2 hK2 => Ai fun K3 hK3 => Ax <| r_V (Sum322.v s) rfl ?_
 rcases Sum322.cases s with hx4 | ⟨x5_0, x6_1, hx4⟩ | ⟨x7_0, x8_1, x9_2, hx4⟩ | ⟨x10_0, x11_1, hx4⟩ | ⟨x12_0, x13_1, hx4⟩ | ⟨x14_0, x15_1, hx4⟩ | ⟨x16_0, x17_1, hx4⟩ | ⟨x18_0, x19_1, x20_2, hx4⟩ | ⟨x21_0, x22_1, hx4⟩ | ⟨x23_0, x24_1, hx4⟩ | hx4 | ⟨x25_0, hx4⟩
 ·replace hM := Sum322.on_nil hx4 hM
  refine r_W (vT #[vA #[vI 0, vI 0], vB false]) rfl (CX ((rfl : _ = Sum322.v s).trans (show Sum322.v s = Value.nilIface from by rw [hx4]; rfl)) rfl) ?_
  refine r_R [vT #[vA #[vI 0, vI 0], vB false], vA #[vI 0, vI 0], vB false] rfl <| r_a (388, #[vI 0, vI 0]) rfl rfl rfl (fun b26 => ?_) (.inr rfl)
  refine r_s (Er b26 0 0) 0 _ _ _ _ _ (#[vI 0, vI 0]) rfl rfl rfl rfl (.of rfl rfl) rfl rfl <| r_V (vB false) rfl <| Aa <| hK3 _ _ ?_
  refine Ad <| r_V (vB false) rfl <| Aa <| Af false rfl (fun h_ => nomatch h_) (fun _ => ?_)
  refine Ah <| hK2 _ _ ?_
  refine Ai fun K28 hK28 => Ad <| r_V (Sum322.v s) rfl <| r_W (vT #[vA #[vI 0, vI 0], vB false]) rfl (CX ((rfl : _ = Sum322.v s).trans (show Sum322.v s = Value.nilIface from by rw [hx4]; rfl)) rfl) ?_
  refine r_R [vT #[vA #[vI 0, vI 0], vB false], vA #[vI 0, vI 0], vB false] rfl <| r_a (390, #[vI 0, vI 0]) rfl rfl rfl (fun b30 => ?_) (.inr rfl)
  refine r_s [(b30, 390, #[vI 0, vI 0]), (b26, 388, #[vI 0, vI 0])] 0 _ _ _ _ _ (#[vI 0, vI 0]) rfl rfl rfl rfl (.of rfl rfl) rfl rfl <| r_V (vB false) rfl <| Aa <| Ad <| r_V (vB false) rfl <| Aa <| Af false rfl (fun h_ => nomatch h_) (fun _ => ?_)
  refine Ah <| hK28 _ _ ?_
  refine Ad <| r_R [vI 0, vB false] rfl <| Aa ?_
  cases hM
  exact aR eE2
 ·replace hM := Sum322.on_t376 hx4 hM
  refine r_W (vT #[vA #[vI 0, vI 0], vB false]) rfl (CX ((rfl : _ = Sum322.v s).trans (show Sum322.v s = Value.iface 376 (vA #[vI x5_0, U (hi x6_1), U (lo x6_1)]) from by rw [hx4]; rfl)) rfl) ?_
  refine r_R [vT #[vA #[vI 0, vI 0], vB false], vA #[vI 0, vI 0], vB false] rfl <| r_a (388, #[vI 0, vI 0]) rfl rfl rfl (fun b26 => ?_) (.inr rfl)
  refine r_s (Er b26 0 0) 0 _ _ _ _ _ (#[vI 0, vI 0]) rfl rfl rfl rfl (.of rfl rfl) rfl rfl <| r_V (vB false) rfl <| Aa <| hK3 _ _ ?_
  refine Ad <| r_V (vB false) rfl <| Aa <| Af false rfl (fun h_ => nomatch h_) (fun _ => ?_)
  refine Ah <| hK2 _ _ ?_
  refine Ai fun K28 hK28 => Ad <| r_V (Sum322.v s) rfl <| r_W (vT #[vA #[vI 0, vI 0], vB false]) rfl (CX ((rfl : _ = Sum322.v s).trans (show Sum322.v s = Value.iface 376 (vA #[vI x5_0, U (hi x6_1), U (lo x6_1)]) from by rw [hx4]; rfl)) rfl) ?_
  refine r_R [vT #[vA #[vI 0, vI 0], vB false], vA #[vI 0, vI 0], vB false] rfl <| r_a (390, #[vI 0, vI 0]) rfl rfl rfl (fun b30 => ?_) (.inr rfl)
  refine r_s [(b30, 390, #[vI 0, vI 0]), (b26, 388, #[vI 0, vI 0])] 0 _ _ _ _ _ (#[vI 0, vI 0]) rfl rfl rfl rfl (.of rfl rfl) rfl rfl <| r_V (vB false) rfl <| Aa <| Ad <| r_V (vB false) rfl <| Aa <| Af false rfl (fun h_ => nomatch h_) (fun _ => ?_)
  refine Ah <| hK28 _ _ ?_
  refine Ad <| r_R [vI 0, vB false] rfl <| Aa ?_
  cases hM
  exact aR eE2
 ·replace hM := Sum322.on_t378 hx4 hM
  refine r_W (vT #[vA #[vI 0, vI 0], vB false]) rfl (CX ((rfl : _ = Sum322.v s).trans (show Sum322.v s = Value.iface 378 (vA #[vI x7_0, vI x8_1, vI x9_2]) from by rw [hx4]; rfl)) rfl) ?_
  refine r_R [vT #[vA #[vI 0, vI 0], vB false], vA #[vI 0, vI 0], vB false] rfl <| r_a (388, #[vI 0, vI 0]) rfl rfl rfl (fun b26 => ?_) (.inr rfl)
  refine r_s (Er b26 0 0) 0 _ _ _ _ _ (#[vI 0, vI 0]) rfl rfl rfl rfl (.of rfl rfl) rfl rfl <| r_V (vB false) rfl <| Aa <| hK3 _ _ ?_
  refine Ad <| r_V (vB false) rfl <| Aa <| Af false rfl (fun h_ => nomatch h_) (fun _ => ?_)
  refine Ah <| hK2 _ _ ?_
  refine Ai fun K28 hK28 => Ad <| r_V (Sum322.v s) rfl <| r_W (vT #[vA #[vI 0, vI 0], vB false]) rfl (CX ((rfl : _ = Sum322.v s).trans (show Sum322.v s = Value.iface 378 (vA #[vI x7_0, vI x8_1, vI x9_2]) from by rw [hx4]; rfl)) rfl) ?_
  refine r_R [vT #[vA #[vI 0, vI 0], vB false], vA #[vI 0, vI 0], vB false] rfl <| r_a (390, #[vI 0, vI 0]) rfl rfl rfl (fun b30 => ?_) (.inr rfl)
  refine r_s [(b30, 390, #[vI 0, vI 0]), (b26, 388, #[vI 0, vI 0])] 0 _ _ _ _ _ (#[vI 0, vI 0]) rfl rfl rfl rfl (.of rfl rfl) rfl rfl <| r_V (vB false) rfl <| Aa <| Ad <| r_V (vB false) rfl <| Aa <| Af false rfl (fun h_ => nomatch h_) (fun _ => ?_)
  refine Ah <| hK28 _ _ ?_
  refine Ad <| r_R [vI 0, vB false] rfl <| Aa ?_
  cases hM
  exact aR eE2
 ·replace hM := Sum322.on_t380 hx4 hM
  refine r_W (vT #[vA #[vI 0, vI 0], vB false]) rfl (CX ((rfl : _ = Sum322.v s).trans (show Sum322.v s = Value.iface 380 (vA #[vI x10_0, vI x11_1]) from by rw [hx4]; rfl)) rfl) ?_
  refine r_R [vT #[vA #[vI 0, vI 0], vB false], vA #[vI 0, vI 0], vB false] rfl <| r_a (388, #[vI 0, vI 0]) rfl rfl rfl (fun b26 => ?_) (.inr rfl)
  refine r_s (Er b26 0 0) 0 _ _ _ _ _ (#[vI 0, vI 0]) rfl rfl rfl rfl (.of rfl rfl) rfl rfl <| r_V (vB false) rfl <| Aa <| hK3 _ _ ?_
  refine Ad <| r_V (vB false) rfl <| Aa <| Af false rfl (fun h_ => nomatch h_) (fun _ => ?_)
  refine Ah <| hK2 _ _ ?_
  refine Ai fun K28 hK28 => Ad <| r_V (Sum322.v s) rfl <| r_W (vT #[vA #[vI 0, vI 0], vB false]) rfl (CX ((rfl : _ = Sum322.v s).trans (show Sum322.v s = Value.iface 380 (vA #[vI x10_0, vI x11_1]) from by rw [hx4]; rfl)) rfl) ?_
  refine r_R [vT #[vA #[vI 0, vI 0], vB false], vA #[vI 0, vI 0], vB false] rfl <| r_a (390, #[vI 0, vI 0]) rfl rfl rfl (fun b30 => ?_) (.inr rfl)
  refine r_s [(b30, 390, #[vI 0, vI 0]), (b26, 388, #[vI 0, vI 0])] 0 _ _ _ _ _ (#[vI 0, vI 0]) rfl rfl rfl rfl (.of rfl rfl) rfl rfl <| r_V (vB false) rfl <| Aa <| Ad <| r_V (vB false) rfl <| Aa <| Af false rfl (fun h_ => nomatch h_) (fun _ => ?_)
  refine Ah <| hK28 _ _ ?_
  refine Ad <| r_R [vI 0, vB false] rfl <| Aa ?_
  cases hM
  exact aR eE2
 ·replace hM := Sum322.on_t381 hx4 hM
  refine r_W (vT #[vA #[vI 0, vI 0], vB false]) rfl (CX ((rfl : _ = Sum322.v s).trans (show Sum322.v s = Value.iface 381 (vA #[vI x12_0, vI x13_1]) from by rw [hx4]; rfl)) rfl) ?_
  refine r_R [vT #[vA #[vI 0, vI 0], vB false], vA #[vI 0, vI 0], vB false] rfl <| r_a (388, #[vI 0, vI 0]) rfl rfl rfl (fun b26 => ?_) (.inr rfl)
  refine r_s (Er b26 0 0) 0 _ _ _ _ _ (#[vI 0, vI 0]) rfl rfl rfl rfl (.of rfl rfl) rfl rfl <| r_V (vB false) rfl <| Aa <| hK3 _ _ ?_
  refine Ad <| r_V (vB false) rfl <| Aa <| Af false rfl (fun h_ => nomatch h_) (fun _ => ?_)
  refine Ah <| hK2 _ _ ?_
  refine Ai fun K28 hK28 => Ad <| r_V (Sum322.v s) rfl <| r_W (vT #[vA #[vI 0, vI 0], vB false]) rfl (CX ((rfl : _ = Sum322.v s).trans (show Sum322.v s = Value.iface 381 (vA #[vI x12_0, vI x13_1]) from by rw [hx4]; rfl)) rfl) ?_
  refine r_R [vT #[vA #[vI 0, vI 0], vB false], vA #[vI 0, vI 0], vB false] rfl <| r_a (390, #[vI 0, vI 0]) rfl rfl rfl (fun b30 => ?_) (.inr rfl)
  refine r_s [(b30, 390, #[vI 0, vI 0]), (b26, 388, #[vI 0, vI 0])] 0 _ _ _ _ _ (#[vI 0, vI 0]) rfl rfl rfl rfl (.of rfl rfl) rfl rfl <| r_V (vB false) rfl <| Aa <| Ad <| r_V (vB false) rfl <| Aa <| Af false rfl (fun h_ => nomatch h_) (fun _ => ?_)
  refine Ah <| hK28 _ _ ?_
  refine Ad <| r_R [vI 0, vB false] rfl <| Aa ?_
  cases hM
  exact aR eE2
 ·replace hM := Sum322.on_t382 hx4 hM
  refine r_W (vT #[vA #[vI 0, vI 0], vB false]) rfl (CX ((rfl : _ = Sum322.v s).trans (show Sum322.v s = Value.iface 382 (vA #[vI x14_0, vI x15_1]) from by rw [hx4]; rfl)) rfl) ?_
  refine r_R [vT #[vA #[vI 0, vI 0], vB false], vA #[vI 0, vI 0], vB false] rfl <| r_a (388, #[vI 0, vI 0]) rfl rfl rfl (fun b26 => ?_) (.inr rfl)
  refine r_s (Er b26 0 0) 0 _ _ _ _ _ (#[vI 0, vI 0]) rfl rfl rfl rfl (.of rfl rfl) rfl rfl <| r_V (vB false) rfl <| Aa <| hK3 _ _ ?_
  refine Ad <| r_V (vB false) rfl <| Aa <| Af false rfl (fun h_ => nomatch h_) (fun _ => ?_)
  refine Ah <| hK2 _ _ ?_
  refine Ai fun K28 hK28 => Ad <| r_V (Sum322.v s) rfl <| r_W (vT #[vA #[vI 0, vI 0], vB false]) rfl (CX ((rfl : _ = Sum322.v s).trans (show Sum322.v s = Value.iface 382 (vA #[vI x14_0, vI x15_1]) from by rw [hx4]; rfl)) rfl) ?_
  refine r_R [vT #[vA #[vI 0, vI 0], vB false], vA #[vI 0, vI 0], vB false] rfl <| r_a (390, #[vI 0, vI 0]) rfl rfl rfl (fun b30 => ?_) (.inr rfl)
  refine r_s [(b30, 390, #[vI 0, vI 0]), (b26, 388, #[vI 0, vI 0])] 0 _ _ _ _ _ (#[vI 0, vI 0]) rfl rfl rfl rfl (.of rfl rfl) rfl rfl <| r_V (vB false) rfl <| Aa <| Ad <| r_V (vB false) rfl <| Aa <| Af false rfl (fun h_ => nomatch h_) (fun _ => ?_)
  refine Ah <| hK28 _ _ ?_
  refine Ad <| r_R [vI 0, vB false] rfl <| Aa ?_
  cases hM
  exact aR eE2
 ·replace hM := Sum322.on_t384 hx4 hM
  refine r_W (vT #[vA #[vI 0, vI 0], vB false]) rfl (CX ((rfl : _ = Sum322.v s).trans (show Sum322.v s = Value.iface 384 (vA #[vI x16_0, vI x17_1]) from by rw [hx4]; rfl)) rfl) ?_
  refine r_R [vT #[vA #[vI 0, vI 0], vB false], vA #[vI 0, vI 0], vB false] rfl <| r_a (388, #[vI 0, vI 0]) rfl rfl rfl (fun b26 => ?_) (.inr rfl)
  refine r_s (Er b26 0 0) 0 _ _ _ _ _ (#[vI 0, vI 0]) rfl rfl rfl rfl (.of rfl rfl) rfl rfl <| r_V (vB false) rfl <| Aa <| hK3 _ _ ?_
  refine Ad <| r_V (vB false) rfl <| Aa <| Af false rfl (fun h_ => nomatch h_) (fun _ => ?_)
  refine Ah <| hK2 _ _ ?_
  refine Ai fun K28 hK28 => Ad <| r_V (Sum322.v s) rfl <| r_W (vT #[vA #[vI 0, vI 0], vB false]) rfl (CX ((rfl : _ = Sum322.v s).trans (show Sum322.v s = Value.iface 384 (vA #[vI x16_0, vI x17_1]) from by rw [hx4]; rfl)) rfl) ?_
  refine r_R [vT #[vA #[vI 0, vI 0], vB false], vA #[vI 0, vI 0], vB false] rfl <| r_a (390, #[vI 0, vI 0]) rfl rfl rfl (fun b30 => ?_) (.inr rfl)
  refine r_s [(b30, 390, #[vI 0, vI 0]), (b26, 388, #[vI 0, vI 0])] 0 _ _ _ _ _ (#[vI 0, vI 0]) rfl rfl rfl rfl (.of rfl rfl) rfl rfl <| r_V (vB false) rfl <| Aa <| Ad <| r_V (vB false) rfl <| Aa <| Af false rfl (fun h_ => nomatch h_) (fun _ => ?_)
  refine Ah <| hK28 _ _ ?_
  refine Ad <| r_R [vI 0, vB false] rfl <| Aa ?_
  cases hM
  exact aR eE2
 ·replace hM := Sum322.on_t386 hx4 hM
  refine r_W (vT #[vA #[vI 0, vI 0], vB false]) rfl (CX ((rfl : _ = Sum322.v s).trans (show Sum322.v s = Value.iface 386 (vA #[vI x18_0, vI x19_1, vI x20_2]) from by rw [hx4]; rfl)) rfl) ?_
  refine r_R [vT #[vA #[vI 0, vI 0], vB false], vA #[vI 0, vI 0], vB false] rfl <| r_a (388, #[vI 0, vI 0]) rfl rfl rfl (fun b26 => ?_) (.inr rfl)
  refine r_s (Er b26 0 0) 0 _ _ _ _ _ (#[vI 0, vI 0]) rfl rfl rfl rfl (.of rfl rfl) rfl rfl <| r_V (vB false) rfl <| Aa <| hK3 _ _ ?_
  refine Ad <| r_V (vB false) rfl <| Aa <| Af false rfl (fun h_ => nomatch h_) (fun _ => ?_)
  refine Ah <| hK2 _ _ ?_
  refine Ai fun K28 hK28 => Ad <| r_V (Sum322.v s) rfl <| r_W (vT #[vA #[vI 0, vI 0], vB false]) rfl (CX ((rfl : _ = Sum322.v s).trans (show Sum322.v s = Value.iface 386 (vA #[vI x18_0, vI x19_1, vI x20_2]) from by rw [hx4]; rfl)) rfl) ?_
  refine r_R [vT #[vA #[vI 0, vI 0], vB false], vA #[vI 0, vI 0], vB false] rfl <| r_a (390, #[vI 0, vI 0]) rfl rfl rfl (fun b30 => ?_) (.inr rfl)
  refine r_s [(b30, 390, #[vI 0, vI 0]), (b26, 388, #[vI 0, vI 0])] 0 _ _ _ _ _ (#[vI 0, vI 0]) rfl rfl rfl rfl (.of rfl rfl) rfl rfl <| r_V (vB false) rfl <| Aa <| Ad <| r_V (vB false) rfl <| Aa <| Af false rfl (fun h_ => nomatch h_) (fun _ => ?_)
  refine Ah <| hK28 _ _ ?_
  refine Ad <| r_R [vI 0, vB false] rfl <| Aa ?_
  cases hM
  exact aR eE2
 ·replace hM := Sum322.on_t388 hx4 hM
  refine r_W (vT #[vA #[vI x21_0, vI x22_1], vB true]) rfl (CX ((rfl : _ = Sum322.v s).trans (show Sum322.v s = Value.iface 388 (vA #[vI x21_0, vI x22_1]) from by rw [hx4]; rfl)) rfl) ?_
  refine r_R [vT #[vA #[vI x21_0, vI x22_1], vB true], vA #[vI x21_0, vI x22_1], vB true] rfl <| r_a (388, #[vI 0, vI 0]) rfl rfl rfl (fun b26 => ?_) (.inr rfl)
  refine r_s (Er b26 x21_0 x22_1) 0 _ _ _ _ _ (#[vI x21_0, vI x22_1]) rfl rfl rfl rfl (.of rfl rfl) rfl rfl <| r_V (vB true) rfl <| Aa <| hK3 _ _ ?_
  refine Ad <| r_V (vB true) rfl <| Aa <| Af true rfl (fun _ => ?_) (fun h_ => nomatch h_)
  refine Ad <| r_V (vP b26 1) rfl <| rl (vI x22_1) 0 <| r_R [vI x22_1, vB true] rfl <| Aa ?_
  cases hM
  exact aR eE2
 ·replace hM := Sum322.on_t390 hx4 hM
  refine r_W (vT #[vA #[vI 0, vI 0], vB false]) rfl (CX ((rfl : _ = Sum322.v s).trans (show Sum322.v s = Value.iface 390 (vA #[vI x23_0, vI x24_1]) from by rw [hx4]; rfl)) rfl) ?_
  refine r_R [vT #[vA #[vI 0, vI 0], vB false], vA #[vI 0, vI 0], vB false] rfl <| r_a (388, #[vI 0, vI 0]) rfl rfl rfl (fun b26 => ?_) (.inr rfl)
  refine r_s (Er b26 0 0) 0 _ _ _ _ _ (#[vI 0, vI 0]) rfl rfl rfl rfl (.of rfl rfl) rfl rfl <| r_V (vB false) rfl <| Aa <| hK3 _ _ ?_
  refine Ad <| r_V (vB false) rfl <| Aa <| Af false rfl (fun h_ => nomatch h_) (fun _ => ?_)
  refine Ah <| hK2 _ _ ?_
  refine Ai fun K28 hK28 => Ad <| r_V (Sum322.v s) rfl <| r_W (vT #[vA #[vI x23_0, vI x24_1], vB true]) rfl (CX ((rfl : _ = Sum322.v s).trans (show Sum322.v s = Value.iface 390 (vA #[vI x23_0, vI x24_1]) from by rw [hx4]; rfl)) rfl) ?_
  refine r_R [vT #[vA #[vI x23_0, vI x24_1], vB true], vA #[vI x23_0, vI x24_1], vB true] rfl <| r_a (390, #[vI 0, vI 0]) rfl rfl rfl (fun b30 => ?_) (.inr rfl)
  refine r_s [(b30, 390, #[vI x23_0, vI x24_1]), (b26, 388, #[vI 0, vI 0])] 0 _ _ _ _ _ (#[vI x23_0, vI x24_1]) rfl rfl rfl rfl (.of rfl rfl) rfl rfl <| r_V (vB true) rfl <| Aa <| Ad <| r_V (vB true) rfl <| Aa <| Af true rfl (fun _ => ?_) (fun h_ => nomatch h_)
  refine Ad <| r_V (vP b30 1) rfl <| rl (vI x24_1) 0 <| r_R [vI x24_1, vB true] rfl <| Aa ?_
  cases hM
  exact aR eE2
 ·replace hM := Sum322.on_t392 hx4 hM
  refine r_W (vT #[vA #[vI 0, vI 0], vB false]) rfl (CX ((rfl : _ = Sum322.v s).trans (show Sum322.v s = Value.iface 392 (vA #[]) from by rw [hx4]; rfl)) rfl) ?_
  refine r_R [vT #[vA #[vI 0, vI 0], vB false], vA #[vI 0, vI 0], vB false] rfl <| r_a (388, #[vI 0, vI 0]) rfl rfl rfl (fun b26 => ?_) (.inr rfl)
  refine r_s (Er b26 0 0) 0 _ _ _ _ _ (#[vI 0, vI 0]) rfl rfl rfl rfl (.of rfl rfl) rfl rfl <| r_V (vB false) rfl <| Aa <| hK3 _ _ ?_
  refine Ad <| r_V (vB false) rfl <| Aa <| Af false rfl (fun h_ => nomatch h_) (fun _ => ?_)
  refine Ah <| hK2 _ _ ?_
  refine Ai fun K28 hK28 => Ad <| r_V (Sum322.v s) rfl <| r_W (vT #[vA #[vI 0, vI 0], vB false]) rfl (CX ((rfl : _ = Sum322.v s).trans (show Sum322.v s = Value.iface 392 (vA #[]) from by rw [hx4]; rfl)) rfl) ?_
  refine r_R [vT #[vA #[vI 0, vI 0], vB false], vA #[vI 0, vI 0], vB false] rfl <| r_a (390, #[vI 0, vI 0]) rfl rfl rfl (fun b30 => ?_) (.inr rfl)
  refine r_s [(b30, 390, #[vI 0, vI 0]), (b26, 388, #[vI 0, vI 0])] 0 _ _ _ _ _ (#[vI 0, vI 0]) rfl rfl rfl rfl (.of rfl rfl) rfl rfl <| r_V (vB false) rfl <| Aa <| Ad <| r_V (vB false) rfl <| Aa <| Af false rfl (fun h_ => nomatch h_) (fun _ => ?_)
  refine Ah <| hK28 _ _ ?_
  refine Ad <| r_R [vI 0, vB false] rfl <| Aa ?_
  cases hM
  exact aR eE2
 replace hM := Sum322.on_t394 hx4 hM
 refine r_W (vT #[vA #[vI 0, vI 0], vB false]) rfl (CX ((rfl : _ = Sum322.v s).trans (show Sum322.v s = Value.iface 394 (vA #[vI x25_0]) from by rw [hx4]; rfl)) rfl) ?_
 refine r_R [vT #[vA #[vI 0, vI 0], vB false], vA #[vI 0, vI 0], vB false] rfl <| r_a (388, #[vI 0, vI 0]) rfl rfl rfl (fun b26 => ?_) (.inr rfl)
 refine r_s (Er b26 0 0) 0 _ _ _ _ _ (#[vI 0, vI 0]) rfl rfl rfl rfl (.of rfl rfl) rfl rfl <| r_V (vB false) rfl <| Aa <| hK3 _ _ ?_
 refine Ad <| r_V (vB false) rfl <| Aa <| Af false rfl (fun h_ => nomatch h_) (fun _ => ?_)
 refine Ah <| hK2 _ _ ?_
 refine Ai fun K28 hK28 => Ad <| r_V (Sum322.v s) rfl <| r_W (vT #[vA #[vI 0, vI 0], vB false]) rfl (CX ((rfl : _ = Sum322.v s).trans (show Sum322.v s = Value.iface 394 (vA #[vI x25_0]) from by rw [hx4]; rfl)) rfl) ?_
 refine r_R [vT #[vA #[vI 0, vI 0], vB false], vA #[vI 0, vI 0], vB false] rfl <| r_a (390, #[vI 0, vI 0]) rfl rfl rfl (fun b30 => ?_) (.inr rfl)
 refine r_s [(b30, 390, #[vI 0, vI 0]), (b26, 388, #[vI 0, vI 0])] 0 _ _ _ _ _ (#[vI 0, vI 0]) rfl rfl rfl rfl (.of rfl rfl) rfl rfl <| r_V (vB false) rfl <| Aa <| Ad <| r_V (vB false) rfl <| Aa <| Af false rfl (fun h_ => nomatch h_) (fun _ => ?_)
 refine Ah <| hK28 _ _ ?_
 refine Ad <| r_R [vI 0, vB false] rfl <| Aa ?_
 cases hM
 exact aR eE2
def Jc (N : Nat) (s : Sum322) : Option (Int × Bool) := (KE N s).bind fun r3 => some (r3.1, r3.2)
theorem TI (N : Nat) (s : Sum322) (r) (hM : Jc N s = some r) : Gives prog 286 #[Sum322.v s] (vT #[vI r.1, vB r.2]) := by
 unfold Jc at hM
 refine AC follows func286 rfl 8 rfl _ fz1 (fun base0_ => ?_)
 refine Ad <| r_R [vI 0, vB false] rfl <| Aa <| Ad <| r_V (Sum322.v s) rfl ?_
 obtain ⟨r3, hr4, hM⟩ := Ab hM
 refine rc (vT #[vI r3.1, vB r3.2]) (cF XX) (TG N s _ hr4) <| r_R [vI r3.1, vB r3.2, vI r3.1, vB r3.2] rfl <| Aa ?_
 cases hM
 exact aR eE2
def CU (N : Nat) (s : Sum322) (at' : Int) (end' : Int) : Option Bool := (Jc N s).bind fun r3 => if r3.2 = true then ck (-9223372036854775808 ≤ (at' + 1) ∧ (at' + 1) ≤ 9223372036854775807) ((Az N r3.1 (at' + 1) end').bind fun r8 => some r8) else some true
theorem Ns (N : Nat) (s : Sum322) (at' end' : Int) (r) (hM : CU N s at' end' = some r) : Gives prog 255 #[Sum322.v s, vI at', vI end'] (vB r) := by
 unfold CU at hM
 refine AC follows func255 rfl 23 rfl _ fz3 (fun base0_ => ?_)
 refine Ad <| r_V (vB false) rfl <| Aa <| Ad <| r_V (Sum322.v s) rfl ?_
 obtain ⟨r3, hr4, hM⟩ := Ab hM
 refine rc (vT #[vI r3.1, vB r3.2]) (cF Ye) (TI N s _ hr4) <| r_R [vT #[vI r3.1, vB r3.2], vI r3.1, vB r3.2, vI r3.1, vB r3.2] rfl <| Aa <| Ai fun K5 hK5 => Ax <| r_R [vB r3.2, vB (!(r3.2)), vB (!(r3.2))] rfl ?_
 rcases hg6 : (!(r3.2)) with _ | _
 ·replace hM := ifp (Da hg6) hM
  refine r_R [vI r3.1, vI at'] rfl <| r_y rfl ?_
  obtain ⟨ck7, hM⟩ := Ae hM
  refine r_X (vI (at' + 1)) rfl (AR rfl ck7.1 ck7.2) rfl <| r_R [vI end'] rfl <| r_y rfl ?_
  obtain ⟨r8, hr9, hM⟩ := Ab hM
  refine rc (vB r8) (cF BP) (AI N r3.1 (at' + 1) end' _ hr9) <| r_R [vB r8, vB r8] rfl <| Aa <| hK5 _ _ ?_
  cases hM
  exact aR eE1
 replace hM := ifn (Bool.eq_false_iff.1 (CZ hg6)) hM
 refine r_R [none, none, none, none, none, vB true, vB true] rfl <| Aa <| hK5 _ _ ?_
 cases hM
 exact aR eE1
def Dx (N : Nat) (i : Int) (s : Sum322) (c2_ : Al) (c3_ : List Int) (c4_ : List (Int × Int × Int × Int × BitVec 128)) : Option Int := ck (0 ≤ i ∧ i < (c4_.length : Int)) ((IX N c2_ c3_ ((c4_[i.toNat]!).1) ((c4_[i.toNat]!).2.1) ((c4_[i.toNat]!).2.2.1) ((c4_[i.toNat]!).2.2.2.1) ((c4_[i.toNat]!).2.2.2.2)).bind fun r4 => (Ag N r4 5).bind fun r6 => (CU N s i (c4_.length : Int)).bind fun r8 => (Ag N r8 12).bind fun r10 => (As N ([r6, r10])).bind fun r15 => some r15)
theorem OI (N : Nat) (i : Int) (s : Sum322) (c2_ : Al) (c3_ : List Int) (c4_ : List (Int × Int × Int × Int × BitVec 128)) (r) (hM : Dx N i s c2_ c3_ c4_ = some r) (ro : Ro) (bc2_ : Nat) (c2_v : AP) (hc2_ : Bun35R ro c2_v c2_) (hbc2_ : Blk ro bc2_ (Ch c2_ c2_v)) (bc3_ : Nat) (c3_v : Value) (hc3_ : Rd BK ro c3_v c3_) (hbc3_ : Blk ro bc3_ [c3_v]) (bc4_ : Nat) (c4_v : Value) (hc4_ : Rd enc_59 ro c4_v c4_) (hbc4_ : Blk ro bc4_ [c4_v]) : DoesI prog 253 #[vI i, Sum322.v s, vP bc2_ 0, vP bc3_ 0, vP bc4_ 0] DZ ro [] (pV (vI r)) := by
 unfold Dx at hM
 refine AO follows func253 rfl 24 rfl _ fz5 AT (fun base0_ => ?_)
 refine Ad <| r_V (vI 0) rfl <| Aa <| Ai fun K2 hK2 => ?_
 refine Ck [(some 14, false), (some 22, false), (some 23, false)] (conG prog [(14, cV (IX N c2_ c3_ ((c4_[i.toNat]!).1) ((c4_[i.toNat]!).2.1) ((c4_[i.toNat]!).2.2.1) ((c4_[i.toNat]!).2.2.2.1) ((c4_[i.toNat]!).2.2.2.2)) fun u0_ => vB u0_), (23, fun _ _ v_ L_ U_ => ∀ u0_, IX N c2_ c3_ ((c4_[i.toNat]!).1) ((c4_[i.toNat]!).2.1) ((c4_[i.toNat]!).2.2.1) ((c4_[i.toNat]!).2.2.2.1) ((c4_[i.toNat]!).2.2.2.2) = some u0_ → ∀ u1_, Ag N u0_ 5 = some u1_ → ∀ u2_, CU N s i (c4_.length : Int) = some u2_ → ∀ u3_, Ag N u2_ 12 = some u3_ → ∀ u4_, As N ([u1_, u3_]) = some u4_ → (pV (vI u4_)) v_ L_ U_)]) [] (by decide +kernel) (fun hn => Be) ?_
 refine CR (vA (Ac c2_ c2_v)) (vs := (Ch c2_ c2_v)) (o := 0) rfl rfl (AK hbc2_) rfl <| CR c3_v (vs := [c3_v]) (o := 0) rfl rfl (AK hbc3_) rfl <| CR c4_v (vs := [c4_v]) (o := 0) rfl rfl (AK hbc4_) rfl <| r_V (vI i) rfl ?_
 obtain ⟨ck3, hM⟩ := Ae hM
 refine r_W (elA c4_v (i.toNat * 6)) rfl (AD (An rfl rfl rfl (Rd.shp hc4_) ck3)) <| Bw (vA #[vI ((c4_[i.toNat]!).1), vI ((c4_[i.toNat]!).2.1), vI ((c4_[i.toNat]!).2.2.1), vI ((c4_[i.toNat]!).2.2.2.1), U (hi ((c4_[i.toNat]!).2.2.2.2)), U (lo ((c4_[i.toNat]!).2.2.2.2))]) (En := enc_59) (c4_[i.toNat]!) (i.toNat) 0 rfl rfl (Av hc4_) (AA ck3) rfl ?_
 obtain ⟨r4, hr5, hM⟩ := Ab hM
 refine rg (vB r4) (cF Yx) (fun o w z_ => ew N c2_ c3_ ((c4_[i.toNat]!).1) ((c4_[i.toNat]!).2.1) ((c4_[i.toNat]!).2.2.1) ((c4_[i.toNat]!).2.2.2.1) ((c4_[i.toNat]!).2.2.2.2) _ hr5 z_.view c2_v (Bun35R.mono z_.ro_cell hc2_) c3_v ((Av hc3_) o w z_)) (AF hr5) ?_
 obtain ⟨r6, hr7, hM⟩ := Ab hM
 refine rc (vI r6) (cF AJ) (AB N r4 5 _ hr7) <| r_R [Sum322.v s, vI i] rfl <| CR c4_v (vs := [c4_v]) (o := 0) rfl rfl (AK hbc4_) rfl <| r_W (vI (c4_.length : Int)) rfl (Aj rfl rfl rfl (Rd.shp hc4_)) ?_
 obtain ⟨r8, hr9, hM⟩ := Ab hM
 refine rc (vB r8) (cF Yw) (Ns N s i (c4_.length : Int) _ hr9) ?_
 obtain ⟨r10, hr11, hM⟩ := Ab hM
 refine rc (vI r10) (cF AJ) (AB N r8 12 _ hr11) ?_
 refine Dj (cs0 := [(14, cV (IX N c2_ c3_ ((c4_[i.toNat]!).1) ((c4_[i.toNat]!).2.1) ((c4_[i.toNat]!).2.2.1) ((c4_[i.toNat]!).2.2.2.1) ((c4_[i.toNat]!).2.2.2.2)) fun u0_ => vB u0_), (23, fun _ _ v_ L_ U_ => ∀ u0_, IX N c2_ c3_ ((c4_[i.toNat]!).1) ((c4_[i.toNat]!).2.1) ((c4_[i.toNat]!).2.2.1) ((c4_[i.toNat]!).2.2.2.1) ((c4_[i.toNat]!).2.2.2.2) = some u0_ → ∀ u1_, Ag N u0_ 5 = some u1_ → ∀ u2_, CU N s i (c4_.length : Int) = some u2_ → ∀ u3_, Ag N u2_ 12 = some u3_ → ∀ u4_, As N ([u1_, u3_]) = some u4_ → (pV (vI u4_)) v_ L_ U_)]) (Ls := []) 38 BK [r6, r10] [vI r6, vI r10] [vI 0, vI 0] rfl rfl rfl rfl rfl rfl rfl (by kernel_rfl) (by kernel_rfl) rfl rfl rfl (fun s12 S13 H14 => ?_)
 obtain ⟨r15, hr16, hM⟩ := Ab hM
 refine rg (vI r15) (cF Br) (fun o w z_ => (Does.inv (Bb N ([r6, r10]) _ hr16 z_.view s12 ((AN H14 (Aw (Ls := [S13]) (k := 0) rfl rfl)) o w z_)) _)) (fun _ _ v_ L_ U_ => ⟨fun h_ => h_ _ hr5 _ hr7 _ hr9 _ hr11 _ hr16, fun h_ => by intro _ e_; cases Option.some.inj (e_.symm.trans hr5); intro _ e_; cases Option.some.inj (e_.symm.trans hr7); intro _ e_; cases Option.some.inj (e_.symm.trans hr9); intro _ e_; cases Option.some.inj (e_.symm.trans hr11); intro _ e_; cases Option.some.inj (e_.symm.trans hr16); exact h_⟩) ?_
 refine r_V (vI r15) rfl <| Aa <| hK2 _ _ ?_
 cases hM
 exact aR eV1
def Ce (N : Nat) (l' : List Sum322) (ask0_ : Al) (ask1_ : List Int) (ask2_ : List (Int × Int × Int × Int × BitVec 128)) : Nat → Int → Option (Int × Int)
  | 0, _ => none
  | n8 + 1, x1_ => if x1_ < (l'.length : Int) then ck (0 ≤ x1_ ∧ x1_ < (l'.length : Int)) ((Dx N x1_ (l'[x1_.toNat]!) ask0_ ask1_ ask2_).bind fun r16 => if (r16 : Int) ≠ 0 then some (x1_, r16) else ck (-9223372036854775808 ≤ (x1_ + 1) ∧ (x1_ + 1) ≤ 9223372036854775807) ((Ce N l' ask0_ ask1_ ask2_ n8) (x1_ + 1))) else some (0, 0)
def Dp (N : Nat) (l' : List Sum322) (most : Int) (ask0_ : Al) (ask1_ : List Int) (ask2_ : List (Int × Int × Int × Int × BitVec 128)) : Option (Int × Int) := if (l'.length : Int) > most then some (0, 2) else Ce N l' ask0_ ask1_ ask2_ N 0
theorem Ld (N : Nat) (l' : List Sum322) (most : Int) (ask0_ : Al) (ask1_ : List Int) (ask2_ : List (Int × Int × Int × Int × BitVec 128)) (r) (hM : Dp N l' most ask0_ ask1_ ask2_ = some r) (ro : Ro) (l'v : Value) (hl' : Rd Gh ro l'v l') (bask0_ : Nat) (ask0_v : AP) (hask0_ : Bun35R ro ask0_v ask0_) (hbask0_ : Blk ro bask0_ (Ch ask0_ ask0_v)) (bask1_ : Nat) (ask1_v : Value) (hask1_ : Rd BK ro ask1_v ask1_) (hbask1_ : Blk ro bask1_ [ask1_v]) (bask2_ : Nat) (ask2_v : Value) (hask2_ : Rd enc_59 ro ask2_v ask2_) (hbask2_ : Blk ro bask2_ [ask2_v]) : DoesI prog 252 #[l'v, vI most, vF 253 #[] #[vP bask0_ 0, vP bask1_ 0, vP bask2_ 0]] DZ ro [] (pV (vT #[vI r.1, vI r.2])) := by
 unfold Dp at hM
 refine AO follows func252 rfl 31 rfl _ fz3 AT (fun base0_ => ?_)
 refine Ad <| r_R [vI 0, vI 0] rfl <| Aa <| Ai fun K2 hK2 => Ad <| r_V l'v rfl <| r_W (vI (l'.length : Int)) rfl (Aj rfl rfl rfl (Rd.shp hl')) <| r_R [vI most, vB (decide ((l'.length : Int) > most))] rfl <| Aa <| Af _ rfl (fun hc4 => ?_) (fun hc4 => ?_)
 ·replace hM := iD hc4 hM
  refine Ad <| r_R [vI 0, vI 2] rfl <| Aa ?_
  cases hM
  exact aR eV2
 replace hM := iF hc4 hM
 refine Ah <| hK2 _ _ ?_
 refine Ai fun K6 hK6 => Ad <| r_V l'v rfl <| r_W (vI (l'.length : Int)) rfl (Aj rfl rfl rfl (Rd.shp hl')) <| r_V (vI 0) rfl <| Aa <| Ap <| AS (fun tt ll nn => ∃ (n8 : Nat) (x1_ : Int), (Ce N l' ask0_ ask1_ ask2_ n8 x1_ = some r) ∧ Is [(2, vF 253 #[] #[vP bask0_ 0, vP bask1_ 0, vP bask2_ 0]), (15, l'v), (16, vI (l'.length : Int)), (17, vI x1_)] [] tt ll ∧ nn = n8 + 1) (N + 1) ?_ ?_
 ·exact ⟨N, 0, hM, Ak rfl rfl, rfl⟩
 clear hM; rintro t l _ ⟨n8, x1_, hM, ⟨⟨T, rfl⟩, rfl⟩, rfl⟩
 rcases n8 with _ | n8
 ·exact absurd hM (by simp [Ce])
 rw [Ce] at hM
 refine Ad <| r_V (vB (decide (x1_ < (l'.length : Int)))) rfl <| Aa <| Ai fun K10 hK10 => Af _ rfl (fun hc11 => ?_) (fun hc11 => ?_)
 ·replace hM := iD hc11 hM
  refine Ah <| hK10 _ _ ?_
  refine Ai fun K12 hK12 => Ap <| Ad <| r_V (vI x1_) rfl ?_
  obtain ⟨ck14, hM⟩ := Ae hM
  refine r_W (elA l'v (x1_.toNat * 1)) rfl (AD (An rfl rfl rfl (Rd.shp hl') ck14)) <| Bw (Sum322.v (l'[x1_.toNat]!)) (En := Gh) (l'[x1_.toNat]!) (x1_.toNat) 0 rfl rfl (Av hl') (AA ck14) rfl <| r_R [vI x1_, Sum322.v (l'[x1_.toNat]!)] rfl <| Aa <| AL [(some 25, false)] (conG prog [(25, cV (Dx N x1_ (l'[x1_.toNat]!) ask0_ ask1_ ask2_) fun u0_ => vI u0_)]) <| r_R [vF 253 #[] #[vP bask0_ 0, vP bask1_ 0, vP bask2_ 0], vI x1_, Sum322.v (l'[x1_.toNat]!)] rfl ?_
  obtain ⟨r16, hr17, hM⟩ := Ab hM
  refine rg (vI r16) (AX (caps := [vP bask0_ 0, vP bask1_ 0, vP bask2_ 0]) rfl Yy rfl) (fun o w z_ => OI N x1_ (l'[x1_.toNat]!) ask0_ ask1_ ask2_ _ hr17 z_.view bask0_ ask0_v (Bun35R.mono z_.ro_cell hask0_) (AK hbask0_ o w z_) bask1_ ask1_v ((Av hask1_) o w z_) (AK hbask1_ o w z_) bask2_ ask2_v ((Av hask2_) o w z_) (AK hbask2_ o w z_)) (AF hr17) <| r_V (vI r16) rfl <| Aa <| Ad <| r_R [vI r16, vB (r16 != 0)] rfl <| Aa <| Af _ rfl (fun hc19 => ?_) (fun hc19 => ?_)
  ·replace hM := iN hc19 hM
   refine Ad <| r_R [vI x1_, vI r16, vI x1_, vI r16] rfl <| Aa ?_
   cases hM
   exact aR eV2
  replace hM := iM hc19 hM
  refine Ah <| hK12 _ _ ?_
  refine Ax ?_
  obtain ⟨ck21, hM⟩ := Ae hM
  refine r_X (vI (x1_ + 1)) rfl (AR rfl ck21.1 ck21.2) rfl <| r_V (vI (x1_ + 1)) rfl <| Aa <| fg _ (Sub.of suN) ?_
  exact ⟨n8 + 1, by omega, n8, (x1_ + 1), hM, Ak rfl rfl, rfl⟩
 replace hM := iF hc11 hM
 refine AM <| hK6 _ _ ?_
 refine Ad <| r_R [vI 0, vI 0] rfl <| Aa ?_
 cases hM
 exact aR eV2
def Cq (N : Nat) (m : Al) (params : List Int) (l' : List (Int × Int × Int × Int × BitVec 128)) : Option Int := if (params.length : Int) > 8 then some 2 else (JP N l').bind fun r10 => if (r10.2.2 : Int) ≠ 0 then some r10.2.2 else (Dp N r10.1 64 m params l').bind fun r20 => some r20.2
theorem Md (N : Nat) (m : Al) (params : List Int) (l' : List (Int × Int × Int × Int × BitVec 128)) (r) (hM : Cq N m params l' = some r) (ro : Ro) (mv : AP) (hm : Bun35R ro mv m) (paramsv : Value) (hparams : Rd BK ro paramsv params) (l'v : Value) (hl' : Rd enc_59 ro l'v l') : DoesI prog 190 #[vA (Ac m mv), paramsv, l'v] DZ ro [] (pV (vI r)) := by
 unfold Cq at hM
 refine AO follows func190 rfl 29 rfl _ fz3 AT (fun base0_ => ?_)
 refine Ad <| r_a (35, (Ac m mv)) rfl rfl rfl (fun b2 => ?_) (.inr rfl)
 refine r_a (29, #[paramsv]) rfl rfl (HW rfl (Rd.shp hparams)) (fun b3 => ?_) (.inr rfl)
 refine r_a (51, #[l'v]) rfl rfl (HW rfl (Rd.shp hl')) (fun b4 => ?_) (.inr rfl)
 refine r_V (vI 0) rfl <| Aa <| Ai fun K5 hK5 => Ad <| rl paramsv 1 <| r_W (vI (params.length : Int)) rfl (Aj rfl rfl rfl (Rd.shp hparams)) <| r_V (vB (decide ((params.length : Int) > 8))) rfl <| Aa <| Af _ rfl (fun hc7 => ?_) (fun hc7 => ?_)
 ·replace hM := iD hc7 hM
  refine Ad <| r_V (vI 2) rfl <| Aa ?_
  cases hM
  exact aR eV1
 replace hM := iF hc7 hM
 refine Ah <| hK5 _ _ ?_
 refine AL [(some 15, false)] (conG prog [(15, fun _ _ v_ L_ U_ => ∀ u0_, JP N l' = some u0_ → (p1 (fun s_ => vT #[s_, vI u0_.2.1, vI u0_.2.2]) 322 Gh u0_.1) v_ L_ U_)]) <| rl l'v 0 ?_
 obtain ⟨r10, hr11, hM⟩ := Ab hM
 refine Iy (Ls := [(Us b4 l'v), (ME b3 paramsv), [(b2, 35, (Ac m mv))]]) (fun s12 => vT #[s12, vI r10.2.1, vI r10.2.2]) 322 Gh r10.1 251 _ rfl rfl rfl (cF YA) (fun o w z_ => (Does.inv (bT N l' _ hr11 z_.view l'v ((Av hl') o w z_)) _)) (AF hr11) (fun s12 S13 H14 => ?_)
 refine r_R [vT #[s12, vI r10.2.1, vI r10.2.2], s12, vI r10.2.1, vI r10.2.2, s12, vI r10.2.1, vI r10.2.2] rfl <| Aa <| Ai fun K15 hK15 => Ad <| r_R [vI r10.2.2, vB (r10.2.2 != 0)] rfl <| Aa <| Af _ rfl (fun hc17 => ?_) (fun hc17 => ?_)
 ·replace hM := iN hc17 hM
  refine Ad <| r_R [vI r10.2.2, vI r10.2.2] rfl <| Aa ?_
  cases hM
  exact aR eV1
 replace hM := iM hc17 hM
 refine Ah <| hK15 _ _ ?_
 refine AL [(some 25, false)] (conG prog [(25, cV (Dp N r10.1 64 m params l') fun u0_ => vT #[vI u0_.1, vI u0_.2])]) <| r_V s12 rfl <| r_W (vF 253 #[] #[vP b2 0, vP b3 0, vP b4 0]) rfl (DV rfl) ?_
 obtain ⟨r20, hr21, hM⟩ := Ab hM
 refine rg (vT #[vI r20.1, vI r20.2]) (cF Yz) (fun o w z_ => Ld N r10.1 64 m params l' _ hr21 z_.view s12 ((AN H14 (Aw (Ls := [(Us b4 l'v), (ME b3 paramsv), [(b2, 35, (Ac m mv))], S13]) (k := 3) rfl rfl)) o w z_) b2 mv (Bun35R.mono z_.ro_cell hm) (Bq 2 rfl rfl o w z_) b3 paramsv ((Av hparams) o w z_) (Bq 1 rfl rfl o w z_) b4 l'v ((Av hl') o w z_) (Bq 0 rfl rfl o w z_)) (AF hr21) <| r_R [vT #[vI r20.1, vI r20.2], vI r20.1, vI r20.2, vI r20.2] rfl <| Aa <| Cd [(9, vI r20.2)] rfl (fun T => ?_)
 refine Ad <| r_R [vI r20.2, vI r20.2] rfl <| Aa ?_
 cases hM
 exact aR eV1
def Cj (N : Nat) (c : Al) (_ : List UInt8) (x_1 : List Int) (x_2 : List (Int × Int × Int × Int × BitVec 128)) : Option Int := (Hl N x_1 8).bind fun r5 => (Cq N c x_1 x_2).bind fun r8 => (As N ([r5.2, r8])).bind fun r13 => some r13
theorem Pf (N : Nat) (c : Al) (x_0 : List UInt8) (x_1 : List Int) (x_2 : List (Int × Int × Int × Int × BitVec 128)) (r) (hM : Cj N c x_0 x_1 x_2 = some r) (ro : Ro) (cv : AP) (hc : Bun35R ro cv c) (x_1v : Value) (hx_1 : Rd BK ro x_1v x_1) (x_2v : Value) (hx_2 : Rd enc_59 ro x_2v x_2) : DoesI prog 127 #[vA (Ac c cv), vA #[vS x_0, x_1v, x_2v]] DZ ro [] (pV (vI r)) := by
 unfold Cj at hM
 refine AO follows func127 rfl 23 rfl _ fz2 AT (fun base0_ => ?_)
 refine Ad <| r_a (92, (Ac c cv)) rfl rfl rfl (fun b2 => ?_) (.inr rfl)
 refine r_a (53, #[vS x_0, x_1v, x_2v]) rfl rfl rfl (fun b3 => ?_) (.inr rfl)
 refine r_V (vI 0) rfl <| Aa <| AL [(some 10, false)] (conG prog [(10, cV (Hl N x_1 8) fun u0_ => vT #[vI u0_.1, vI u0_.2])]) <| r_V (vP b3 1) rfl <| rl x_1v 0 ?_
 obtain ⟨r5, hr6, hM⟩ := Ab hM
 refine rg (vT #[vI r5.1, vI r5.2]) (cF Ll) (fun o w z_ => (Does.inv (Rw N x_1 8 _ hr6 z_.view x_1v ((Av hx_1) o w z_)) _)) (AF hr6) <| r_R [vT #[vI r5.1, vI r5.2], vI r5.1, vI r5.2, vI r5.1, vI r5.2] rfl <| Aa <| AL [(some 20, false), (some 21, false), (some 22, false)] (conG prog [(20, cV (Cq N c x_1 x_2) fun u0_ => vI u0_), (22, fun _ _ v_ L_ U_ => ∀ u0_, Cq N c x_1 x_2 = some u0_ → ∀ u1_, As N ([r5.2, u0_]) = some u1_ → (pV (vI u1_)) v_ L_ U_)]) <| r_R [vI r5.2, vP b2 0] rfl ?_
 refine rl (vA (Ac c cv)) 1 <| r_V (vP b3 1) rfl <| rl x_1v 0 <| r_V (vP b3 2) rfl <| rl x_2v 0 ?_
 obtain ⟨r8, hr9, hM⟩ := Ab hM
 refine rg (vI r8) (cF SD) (fun o w z_ => Md N c x_1 x_2 _ hr9 z_.view cv (Bun35R.mono z_.ro_cell hc) x_1v ((Av hx_1) o w z_) x_2v ((Av hx_2) o w z_)) (AF hr9) ?_
 refine Dj (cs0 := [(20, cV (Cq N c x_1 x_2) fun u0_ => vI u0_), (22, fun _ _ v_ L_ U_ => ∀ u0_, Cq N c x_1 x_2 = some u0_ → ∀ u1_, As N ([r5.2, u0_]) = some u1_ → (pV (vI u1_)) v_ L_ U_)]) (Ls := [(KY b3 x_0 x_1v x_2v), [(b2, 92, (Ac c cv))]]) 38 BK [r5.2, r8] [vI r5.2, vI r8] [vI 0, vI 0] rfl rfl rfl rfl rfl rfl rfl (by kernel_rfl) (by kernel_rfl) rfl rfl rfl (fun s10 S11 H12 => ?_)
 obtain ⟨r13, hr14, hM⟩ := Ab hM
 refine rg (vI r13) (cF Br) (fun o w z_ => (Does.inv (Bb N ([r5.2, r8]) _ hr14 z_.view s10 ((AN H12 (Aw (Ls := [(KY b3 x_0 x_1v x_2v), [(b2, 92, (Ac c cv))], S11]) (k := 2) rfl rfl)) o w z_)) _)) (fun _ _ v_ L_ U_ => ⟨fun h_ => h_ _ hr9 _ hr14, fun h_ => by intro _ e_; cases Option.some.inj (e_.symm.trans hr9); intro _ e_; cases Option.some.inj (e_.symm.trans hr14); exact h_⟩) ?_
 refine r_V (vI r13) rfl <| Aa ?_
 cases hM
 exact aR eV1
def DK (N : Nat) (i : Int) (x_0 : List UInt8) (x_1 : List Int) (x_2 : List (Int × Int × Int × Int × BitVec 128)) (c2_ : List (List UInt8)) (c3_p0_0_ : Al) : Option Int := ck (0 ≤ i ∧ i < (c2_.length : Int)) ((Bf N (c2_[i.toNat]!)).bind fun r5 => (Ag N r5 4).bind fun r7 => (Ay N c2_ i).bind fun r9 => (Cj N c3_p0_0_ x_0 x_1 x_2).bind fun r11 => (As N ([r7, r9, r11])).bind fun r16 => some r16)
theorem LK (N : Nat) (i : Int) (x_0 : List UInt8) (x_1 : List Int) (x_2 : List (Int × Int × Int × Int × BitVec 128)) (c2_ : List (List UInt8)) (c3_p0_0_ : Al) (r) (hM : DK N i x_0 x_1 x_2 c2_ c3_p0_0_ = some r) (ro : Ro) (x_1v : Value) (hx_1 : Rd BK ro x_1v x_1) (x_2v : Value) (hx_2 : Rd enc_59 ro x_2v x_2) (bc2_ : Nat) (c2_v : Value) (hc2_ : Rd encS ro c2_v c2_) (hbc2_ : Blk ro bc2_ [c2_v]) (bc3_ : Nat) (c3_p0_0_v : AP) (hc3_p0_0_ : Bun35R ro c3_p0_0_v c3_p0_0_) (hbc3_ : Blk ro bc3_ [vF 127 #[vA (Ac c3_p0_0_ c3_p0_0_v)] #[]]) : DoesI prog 188 #[vI i, vA #[vS x_0, x_1v, x_2v], vP bc2_ 0, vP bc3_ 0] DZ ro [] (pV (vI r)) := by
 unfold DK at hM
 refine AO follows func188 rfl 21 rfl _ fz4 AT (fun base0_ => ?_)
 refine Ad <| r_a (53, #[vS x_0, x_1v, x_2v]) rfl rfl rfl (fun b2 => ?_) (.inr rfl)
 refine r_V (vI 0) rfl <| Aa <| Ai fun K3 hK3 => ?_
 refine Ck [(some 15, false), (some 18, false), (some 19, false), (some 20, false)] (conG prog [(15, cV (Ay N c2_ i) fun u0_ => vI u0_), (18, cV (Cj N c3_p0_0_ x_0 x_1 x_2) fun u0_ => vI u0_), (20, fun _ _ v_ L_ U_ => ∀ u0_, Bf N (c2_[i.toNat]!) = some u0_ → ∀ u1_, Ag N u0_ 4 = some u1_ → ∀ u2_, Ay N c2_ i = some u2_ → ∀ u3_, Cj N c3_p0_0_ x_0 x_1 x_2 = some u3_ → ∀ u4_, As N ([u1_, u2_, u3_]) = some u4_ → (pV (vI u4_)) v_ L_ U_)]) [] (by decide +kernel) (fun hn => Be) ?_
 refine CR c2_v (vs := [c2_v]) (o := 0) rfl rfl (AK hbc2_) rfl <| r_V (vI i) rfl ?_
 obtain ⟨ck4, hM⟩ := Ae hM
 refine r_W (elA c2_v (i.toNat * 1)) rfl (AD (An rfl rfl rfl (Rd.shp hc2_) ck4)) <| Bw (vS (c2_[i.toNat]!)) (En := encS) (c2_[i.toNat]!) (i.toNat) 0 rfl rfl (Av hc2_) (AA ck4) rfl ?_
 obtain ⟨r5, hr6, hM⟩ := Ab hM
 refine rc (vB r5) (cF HT) (GJ N (c2_[i.toNat]!) _ hr6) ?_
 obtain ⟨r7, hr8, hM⟩ := Ab hM
 refine rc (vI r7) (cF AJ) (AB N r5 4 _ hr8) <| CR c2_v (vs := [c2_v]) (o := 0) rfl rfl (AK hbc2_) rfl <| r_V (vI i) rfl ?_
 obtain ⟨r9, hr10, hM⟩ := Ab hM
 refine rg (vI r9) (cF Hu) (fun o w z_ => (Does.inv (Dn N c2_ i _ hr10 z_.view c2_v ((Av hc2_) o w z_)) _)) (AF hr10) <| CR (vF 127 #[vA (Ac c3_p0_0_ c3_p0_0_v)] #[]) (vs := [vF 127 #[vA (Ac c3_p0_0_ c3_p0_0_v)] #[]]) (o := 0) rfl rfl (AK hbc3_) rfl <| rl (vA #[vS x_0, x_1v, x_2v]) 0 ?_
 obtain ⟨r11, hr12, hM⟩ := Ab hM
 refine rg (vI r11) (Ca (bd := [vA (Ac c3_p0_0_ c3_p0_0_v)]) (caps := []) rfl ZV rfl) (fun o w z_ => Pf N c3_p0_0_ x_0 x_1 x_2 _ hr12 z_.view c3_p0_0_v (Bun35R.mono z_.ro_cell hc3_p0_0_) x_1v ((Av hx_1) o w z_) x_2v ((Av hx_2) o w z_)) (AF hr12) ?_
 refine Dj (cs0 := [(15, cV (Ay N c2_ i) fun u0_ => vI u0_), (18, cV (Cj N c3_p0_0_ x_0 x_1 x_2) fun u0_ => vI u0_), (20, fun _ _ v_ L_ U_ => ∀ u0_, Bf N (c2_[i.toNat]!) = some u0_ → ∀ u1_, Ag N u0_ 4 = some u1_ → ∀ u2_, Ay N c2_ i = some u2_ → ∀ u3_, Cj N c3_p0_0_ x_0 x_1 x_2 = some u3_ → ∀ u4_, As N ([u1_, u2_, u3_]) = some u4_ → (pV (vI u4_)) v_ L_ U_)]) (Ls := [(KY b2 x_0 x_1v x_2v)]) 38 BK [r7, r9, r11] [vI r7, vI r9, vI r11] [vI 0, vI 0, vI 0] rfl rfl rfl rfl rfl rfl rfl (by kernel_rfl) (by kernel_rfl) rfl rfl rfl (fun s13 S14 H15 => ?_)
 obtain ⟨r16, hr17, hM⟩ := Ab hM
 refine rg (vI r16) (cF Br) (fun o w z_ => (Does.inv (Bb N ([r7, r9, r11]) _ hr17 z_.view s13 ((AN H15 (Aw (Ls := [(KY b2 x_0 x_1v x_2v), S14]) (k := 1) rfl rfl)) o w z_)) _)) (fun _ _ v_ L_ U_ => ⟨fun h_ => h_ _ hr6 _ hr8 _ hr10 _ hr12 _ hr17, fun h_ => by intro _ e_; cases Option.some.inj (e_.symm.trans hr6); intro _ e_; cases Option.some.inj (e_.symm.trans hr8); intro _ e_; cases Option.some.inj (e_.symm.trans hr10); intro _ e_; cases Option.some.inj (e_.symm.trans hr12); intro _ e_; cases Option.some.inj (e_.symm.trans hr17); exact h_⟩) ?_
 refine r_V (vI r16) rfl <| Aa <| hK3 _ _ ?_
 cases hM
 exact aR eV1
def Df (N : Nat) (l' : List ((List UInt8) × (List Int) × (List (Int × Int × Int × Int × BitVec 128)))) (ask0_ : List (List UInt8)) (ask1_p0_0_ : Al) : Nat → Int → Option (Int × Int)
  | 0, _ => none
  | n8 + 1, x1_ => if x1_ < (l'.length : Int) then ck (0 ≤ x1_ ∧ x1_ < (l'.length : Int)) ((DK N x1_ (l'[x1_.toNat]!.1) (l'[x1_.toNat]!.2.1) (l'[x1_.toNat]!.2.2) ask0_ ask1_p0_0_).bind fun r22 => if (r22 : Int) ≠ 0 then some (x1_, r22) else ck (-9223372036854775808 ≤ (x1_ + 1) ∧ (x1_ + 1) ≤ 9223372036854775807) ((Df N l' ask0_ ask1_p0_0_ n8) (x1_ + 1))) else some (0, 0)
def EZ (N : Nat) (l' : List ((List UInt8) × (List Int) × (List (Int × Int × Int × Int × BitVec 128)))) (most : Int) (ask0_ : List (List UInt8)) (ask1_p0_0_ : Al) : Option (Int × Int) := if (l'.length : Int) > most then some (0, 2) else Df N l' ask0_ ask1_p0_0_ N 0
theorem ND (N : Nat) (l' : List ((List UInt8) × (List Int) × (List (Int × Int × Int × Int × BitVec 128)))) (most : Int) (ask0_ : List (List UInt8)) (ask1_p0_0_ : Al) (r) (hM : EZ N l' most ask0_ ask1_p0_0_ = some r) (ro : Ro) (l'v : Value) (hl' : RdN encr_53 ro l'v l') (bask0_ : Nat) (ask0_v : Value) (hask0_ : Rd encS ro ask0_v ask0_) (hbask0_ : Blk ro bask0_ [ask0_v]) (bask1_ : Nat) (ask1_p0_0_v : AP) (hask1_p0_0_ : Bun35R ro ask1_p0_0_v ask1_p0_0_) (hbask1_ : Blk ro bask1_ [vF 127 #[vA (Ac ask1_p0_0_ ask1_p0_0_v)] #[]]) : DoesI prog 187 #[l'v, vI most, vF 188 #[] #[vP bask0_ 0, vP bask1_ 0]] DZ ro [] (pV (vT #[vI r.1, vI r.2])) := by
 unfold EZ at hM
 refine AO follows func187 rfl 31 rfl _ fz3 AT (fun base0_ => ?_)
 refine Ad <| r_R [vI 0, vI 0] rfl <| Aa <| Ai fun K2 hK2 => Ad <| r_V l'v rfl <| r_W (vI (l'.length : Int)) rfl (Aj rfl rfl rfl (RdN.shp hl')) <| r_R [vI most, vB (decide ((l'.length : Int) > most))] rfl <| Aa <| Af _ rfl (fun hc4 => ?_) (fun hc4 => ?_)
 ·replace hM := iD hc4 hM
  refine Ad <| r_R [vI 0, vI 2] rfl <| Aa ?_
  cases hM
  exact aR eV2
 replace hM := iF hc4 hM
 refine Ah <| hK2 _ _ ?_
 refine Ai fun K6 hK6 => Ad <| r_V l'v rfl <| r_W (vI (l'.length : Int)) rfl (Aj rfl rfl rfl (RdN.shp hl')) <| r_V (vI 0) rfl <| Aa <| Ap <| AS (fun tt ll nn => ∃ (n8 : Nat) (x1_ : Int), (Df N l' ask0_ ask1_p0_0_ n8 x1_ = some r) ∧ Is [(2, vF 188 #[] #[vP bask0_ 0, vP bask1_ 0]), (15, l'v), (16, vI (l'.length : Int)), (17, vI x1_)] [] tt ll ∧ nn = n8 + 1) (N + 1) ?_ ?_
 ·exact ⟨N, 0, hM, Ak rfl rfl, rfl⟩
 clear hM; rintro t l _ ⟨n8, x1_, hM, ⟨⟨T, rfl⟩, rfl⟩, rfl⟩
 rcases n8 with _ | n8
 ·exact absurd hM (by simp [Df])
 rw [Df] at hM
 refine Ad <| r_V (vB (decide (x1_ < (l'.length : Int)))) rfl <| Aa <| Ai fun K10 hK10 => Af _ rfl (fun hc11 => ?_) (fun hc11 => ?_)
 ·replace hM := iD hc11 hM
  refine Ah <| hK10 _ _ ?_
  refine Ai fun K12 hK12 => Ap <| Ad <| r_V (vI x1_) rfl ?_
  obtain ⟨ck14, hM⟩ := Ae hM
  obtain ⟨_, ⟨s15, s16, hs17, hs18, rfl⟩, hat19⟩ := RdN.at (E := encr_53) hl' (AA ck14)
  refine r_W (elA l'v (x1_.toNat * 3)) rfl (AD (An rfl rfl rfl (RdN.shp hl') ck14)) <| Eo (vA #[vS (l'[x1_.toNat]!.1), s15, s16]) (vs := [vS (l'[x1_.toNat]!.1), s15, s16]) (x1_.toNat * 3) 0 rfl rfl (fun o w z_ => At.mono z_.ro_cell hat19) rfl <| r_a (53, #[Value.string (⟨#[]⟩), nS, nS]) rfl rfl rfl (fun b20 => ?_) (.inr rfl)
  refine r_V (vI x1_) rfl <| r_s (KY b20 (l'[x1_.toNat]!.1) s15 s16) 0 _ _ _ _ _ (#[vS (l'[x1_.toNat]!.1), s15, s16]) rfl rfl rfl rfl (.ofS rfl rfl (Ao rfl (Ao (Shp.one (Rd.shp hs17)) (Ao (Shp.one (Rd.shp hs18)) Bi)))) rfl rfl <| Aa <| AL [(some 25, false)] (conG prog [(25, cV (DK N x1_ (l'[x1_.toNat]!.1) (l'[x1_.toNat]!.2.1) (l'[x1_.toNat]!.2.2) ask0_ ask1_p0_0_) fun u0_ => vI u0_)]) <| r_R [vF 188 #[] #[vP bask0_ 0, vP bask1_ 0], vI x1_] rfl <| rl (vA #[vS (l'[x1_.toNat]!.1), s15, s16]) 0 ?_
  obtain ⟨r22, hr23, hM⟩ := Ab hM
  refine rg (vI r22) (AX (caps := [vP bask0_ 0, vP bask1_ 0]) rfl Zn rfl) (fun o w z_ => LK N x1_ (l'[x1_.toNat]!.1) (l'[x1_.toNat]!.2.1) (l'[x1_.toNat]!.2.2) ask0_ ask1_p0_0_ _ hr23 z_.view s15 ((Av hs17) o w z_) s16 ((Av hs18) o w z_) bask0_ ask0_v ((Av hask0_) o w z_) (AK hbask0_ o w z_) bask1_ ask1_p0_0_v (Bun35R.mono z_.ro_cell hask1_p0_0_) (AK hbask1_ o w z_)) (AF hr23) <| r_V (vI r22) rfl <| Aa <| Ad <| r_R [vI r22, vB (r22 != 0)] rfl <| Aa <| Af _ rfl (fun hc25 => ?_) (fun hc25 => ?_)
  ·replace hM := iN hc25 hM
   refine Ad <| r_R [vI x1_, vI r22, vI x1_, vI r22] rfl <| Aa ?_
   cases hM
   exact aR eV2
  replace hM := iM hc25 hM
  refine Ah <| hK12 _ _ ?_
  refine Ax ?_
  obtain ⟨ck27, hM⟩ := Ae hM
  refine r_X (vI (x1_ + 1)) rfl (AR rfl ck27.1 ck27.2) rfl <| r_V (vI (x1_ + 1)) rfl <| Aa <| fg _ (Sub.of (suC _ suN)) ?_
  exact ⟨n8 + 1, by omega, n8, (x1_ + 1), hM, Ak rfl rfl, rfl⟩
 replace hM := iF hc11 hM
 refine AM <| hK6 _ _ ?_
 refine Ad <| r_R [vI 0, vI 0] rfl <| Aa ?_
 cases hM
 exact aR eV2
def Gv (N : Nat) (l' : List ((List UInt8) × (List Int) × (List (Int × Int × Int × Int × BitVec 128)))) (most : Int) (ask0_ : Al) : Option (Int × Int) := (Gw N l').bind fun r4 => (EZ N l' most r4 ask0_).bind fun r11 => some (r11.1, r11.2)
theorem Nz (N : Nat) (l' : List ((List UInt8) × (List Int) × (List (Int × Int × Int × Int × BitVec 128)))) (most : Int) (ask0_ : Al) (r) (hM : Gv N l' most ask0_ = some r) (ro : Ro) (l'v : Value) (hl' : RdN encr_53 ro l'v l') (ask0_v : AP) (hask0_ : Bun35R ro ask0_v ask0_) : DoesI prog 125 #[l'v, vI most, vF 126 #[] #[], vF 127 #[vA (Ac ask0_ ask0_v)] #[]] DZ ro [] (pV (vT #[vI r.1, vI r.2])) := by
 unfold Gv at hM
 refine AO follows func125 rfl 20 rfl _ fz4 AT (fun base0_ => ?_)
 refine Ad <| r_a (200, #[vF 127 #[vA (Ac ask0_ ask0_v)] #[]]) rfl rfl rfl (fun b2 => ?_) (.inr rfl)
 refine r_R [vI 0, vI 0] rfl <| Aa <| AL [(some 13, false)] (conG prog [(13, fun _ _ v_ L_ U_ => ∀ u0_, Gw N l' = some u0_ → (p1 (fun s_ => s_) 9 encS u0_) v_ L_ U_)]) <| r_R [l'v, vF 126 #[] #[]] rfl ?_
 obtain ⟨r4, hr5, hM⟩ := Ab hM
 refine Iy (Ls := [(Nn b2 (vF 127 #[vA (Ac ask0_ ask0_v)] #[]))]) (fun s6 => s6) 9 encS r4 186 _ rfl rfl rfl (cF Zp) (fun o w z_ => (Does.inv (NB N l' _ hr5 z_.view l'v (RdN.mono z_.ro_cell hl')) _)) (AF hr5) (fun s6 S7 H8 => ?_)
 refine r_a (81, #[nS]) rfl rfl rfl (fun b9 => ?_) (.inr rfl)
 refine r_s (List.flatten [(Ur b9 s6), (Nn b2 (vF 127 #[vA (Ac ask0_ ask0_v)] #[])), S7]) 0 _ _ _ _ _ (#[s6]) rfl rfl rfl (Du rfl (Sl.shp H8)) (.ofS rfl rfl (Ao (Shp.one (Sl.shp H8)) Bi)) rfl rfl <| Aa <| AL [(some 17, false)] (conG prog [(17, cV (EZ N l' most r4 ask0_) fun u0_ => vT #[vI u0_.1, vI u0_.2])]) <| r_R [l'v, vI most] rfl <| r_W (vF 188 #[] #[vP b9 0, vP b2 0]) rfl (DV rfl) ?_
 obtain ⟨r11, hr12, hM⟩ := Ab hM
 refine rg (vT #[vI r11.1, vI r11.2]) (cF Zo) (fun o w z_ => ND N l' most r4 ask0_ _ hr12 z_.view l'v (RdN.mono z_.ro_cell hl') b9 s6 ((AN H8 (Aw (Ls := [(Ur b9 s6), (Nn b2 (vF 127 #[vA (Ac ask0_ ask0_v)] #[])), S7]) (k := 2) rfl rfl)) o w z_) (Bq 0 rfl rfl o w z_) b2 ask0_v (Bun35R.mono z_.ro_cell hask0_) (Bq 1 rfl rfl o w z_)) (AF hr12) <| r_R [vI r11.1, vI r11.2, vI r11.1, vI r11.2] rfl <| Aa ?_
 cases hM
 exact aR eV2
def CW (N : Nat) (c : Al) : Option (Int × Int) := (Gv N c.2.2.2.2.2.1 32 c).bind fun r4 => some (r4.1, r4.2)
theorem NN (N : Nat) (c : Al) (r) (hM : CW N c = some r) (ro : Ro) (cv : AP) (hc : Bun35R ro cv c) : DoesI prog 68 #[vA (Ac c cv)] DZ ro [] (pV (vT #[vI r.1, vI r.2])) := by
 unfold CW at hM
 refine AO follows func68 rfl 12 rfl _ fz1 AT (fun base0_ => ?_)
 refine Ad <| r_a (92, (Ac c cv)) rfl rfl rfl (fun b2 => ?_) (.inr rfl)
 refine r_R [vI 0, vI 0] rfl <| Aa <| AL [(some 9, false)] (conG prog [(9, cV (Gv N c.2.2.2.2.2.1 32 c) fun u0_ => vT #[vI u0_.1, vI u0_.2])]) <| r_R [vP b2 0, vP b2 5] rfl <| rl cv.2.2.2.2.1 0 <| rl (vA (Ac c cv)) 0 <| r_W (vF 127 #[vA (Ac c cv)] #[]) rfl (Ej rfl rfl) ?_
 obtain ⟨r4, hr5, hM⟩ := Ab hM
 refine rg (vT #[vI r4.1, vI r4.2]) (cF ZX) (fun o w z_ => Nz N c.2.2.2.2.2.1 32 c _ hr5 z_.view cv.2.2.2.2.1 (RdN.mono z_.ro_cell hc.2.2.2.2.1) cv (Bun35R.mono z_.ro_cell hc)) (AF hr5) <| r_R [vI r4.1, vI r4.2, vI r4.1, vI r4.2] rfl <| Aa ?_
 cases hM
 exact aR eV2
def FX (_ : Nat) (x_0 : List UInt8) (_ : Int) (_ : List (Int × Int × Int)) (_ : List Int) (_ : Int) (_ : List (Int × BitVec 128)) (_ : Int) : Option (List UInt8) := some x_0
theorem Mr (N : Nat) (x_0 : List UInt8) (x_1 : Int) (x_2 : List (Int × Int × Int)) (x_3 : List Int) (x_4 : Int) (x_5 : List (Int × BitVec 128)) (x_6 : Int) (r) (hM : FX N x_0 x_1 x_2 x_3 x_4 x_5 x_6 = some r) (ro : Ro) (x_2v : Value) (_hx_2 : Rd enc_168 ro x_2v x_2) (x_3v : Value) (_hx_3 : Rd BK ro x_3v x_3) (x_5v : Value) (_hx_5 : Rd enc_57 ro x_5v x_5) : Does prog 129 #[vA #[vS x_0, vI x_1, x_2v, x_3v, vI x_4, x_5v, vI x_6]] ro [] (pV (vS r)) := by
 unfold FX at hM
 refine Aq follows func129 rfl 5 rfl _ fz1 (fun base0_ => ?_)
 refine Ad <| r_a (72, #[vS x_0, vI x_1, x_2v, x_3v, vI x_4, x_5v, vI x_6]) rfl rfl rfl (fun b2 => ?_) (.inr rfl)
 refine r_V (Value.string (⟨#[]⟩)) rfl <| Aa <| Ad <| r_V (vP b2 0) rfl <| rl (vS x_0) 0 <| r_V (vS x_0) rfl <| Aa ?_
 cases hM
 exact aR eV1
def DL (N : Nat) (l' : List ((List UInt8) × Int × (List (Int × Int × Int)) × (List Int) × Int × (List (Int × BitVec 128)) × Int)) : Nat → List (List UInt8) → Int → Option (List (List UInt8))
  | 0, _, _ => none
  | n9 + 1, s1_, x2_ => if x2_ < (l'.length : Int) then ck (0 ≤ x2_ ∧ x2_ < (l'.length : Int)) ((FX N (l'[x2_.toNat]!.1) (l'[x2_.toNat]!.2.1) (l'[x2_.toNat]!.2.2.1) (l'[x2_.toNat]!.2.2.2.1) (l'[x2_.toNat]!.2.2.2.2.1) (l'[x2_.toNat]!.2.2.2.2.2.1) (l'[x2_.toNat]!.2.2.2.2.2.2)).bind fun r24 => ck (0 ≤ x2_ ∧ x2_ < (s1_.length : Int)) (ck (-9223372036854775808 ≤ (x2_ + 1) ∧ (x2_ + 1) ≤ 9223372036854775807) ((DL N l' n9) ((s1_).set (x2_.toNat) r24) (x2_ + 1)))) else some s1_
def GW (N : Nat) (l' : List ((List UInt8) × Int × (List (Int × Int × Int)) × (List Int) × Int × (List (Int × BitVec 128)) × Int)) : Option (List (List UInt8)) := ck (0 ≤ (l'.length : Int) ∧ (l'.length : Int) ≤ 8796093022208) (DL N l' N ((List.replicate ((l'.length : Int)).toNat ([]))) 0)
theorem OO (N : Nat) (l' : List ((List UInt8) × Int × (List (Int × Int × Int)) × (List Int) × Int × (List (Int × BitVec 128)) × Int)) (r) (hM : GW N l' = some r) (ro : Ro) (l'v : Value) (hl' : RdN encr_72 ro l'v l') : Does prog 191 #[l'v, vF 129 #[] #[]] ro [] (p1 (fun s_ => s_) 9 encS r) := by
 unfold GW at hM
 refine Aq follows func191 rfl 26 rfl _ fz2 (fun base0_ => ?_)
 refine Ad <| r_V nS rfl <| Aa <| AL [(some 10, false)] (conG prog [(10, fun _ _ v_ L_ U_ => (p1 (fun v => v) 9 encS (List.replicate ((l'.length : Int)).toNat ([]))) v_ L_ U_)]) <| r_V l'v rfl <| r_W (vI (l'.length : Int)) rfl (Aj rfl rfl rfl (RdN.shp hl')) ?_
 obtain ⟨ck3, hM⟩ := Ae hM
 refine MW (Ls := []) 9 encS ([]) (l'.length : Int) rfl rfl rfl rfl rfl rfl rfl rfl rfl rfl 8796093022208 rfl ck3 (fun _ _ _ _ _ => Iff.rfl) (fun s4 S5 H6 => ?_)
 refine r_V s4 rfl <| Aa <| Ai fun K7 hK7 => Ad <| r_V l'v rfl <| r_W (vI (l'.length : Int)) rfl (Aj rfl rfl rfl (RdN.shp hl')) <| r_V (vI 0) rfl <| Aa <| Ap <| BF _ (Sub.pick [S5] [0] rfl) <| AS (fun tt ll nn => ∃ (n9 : Nat) (s1_ : List (List UInt8)) (x2_ : Int), (DL N l' n9 s1_ x2_ = some r) ∧ ∃ (Ss1_ : List Bl), Sl 9 encS s4 s1_ Ss1_ ∧ Is [(1, vF 129 #[] #[]), (5, s4), (11, l'v), (12, vI (l'.length : Int)), (13, vI x2_)] (List.flatten [Ss1_]) tt ll ∧ nn = n9 + 1) (N + 1) ?_ ?_
 ·exact ⟨N, (List.replicate ((l'.length : Int)).toNat ([])), 0, hM, S5, H6, Ak rfl rfl, rfl⟩
 clear hM; rintro t l _ ⟨n9, s1_, x2_, hM, Ss1_, hs1_, ⟨⟨T, rfl⟩, rfl⟩, rfl⟩
 rcases n9 with _ | n9
 ·exact absurd hM (by simp [DL])
 rw [DL] at hM
 refine Ad <| r_V (vB (decide (x2_ < (l'.length : Int)))) rfl <| Aa <| Ai fun K11 hK11 => Af _ rfl (fun hc12 => ?_) (fun hc12 => ?_)
 ·replace hM := iD hc12 hM
  refine Ah <| hK11 _ _ ?_
  refine Ai fun K13 hK13 => Ap <| Ad <| r_V (vI x2_) rfl ?_
  obtain ⟨ck15, hM⟩ := Ae hM
  obtain ⟨_, ⟨s16, s17, s18, hs19, hs20, hs21, rfl⟩, hat22⟩ := RdN.at (E := encr_72) hl' (AA ck15)
  refine r_W (elA l'v (x2_.toNat * 7)) rfl (AD (An rfl rfl rfl (RdN.shp hl') ck15)) <| Eo (vA #[vS (l'[x2_.toNat]!.1), vI (l'[x2_.toNat]!.2.1), s16, s17, vI (l'[x2_.toNat]!.2.2.2.2.1), s18, vI (l'[x2_.toNat]!.2.2.2.2.2.2)]) (vs := [vS (l'[x2_.toNat]!.1), vI (l'[x2_.toNat]!.2.1), s16, s17, vI (l'[x2_.toNat]!.2.2.2.2.1), s18, vI (l'[x2_.toNat]!.2.2.2.2.2.2)]) (x2_.toNat * 7) 0 rfl rfl (fun o w z_ => At.mono z_.ro_cell hat22) rfl <| r_a (72, #[Value.string (⟨#[]⟩), vI 0, nS, nS, vI 0, nS, vI 0]) rfl rfl rfl (fun b23 => ?_) (.inr rfl)
  refine r_V (vI x2_) rfl <| r_s (List.flatten [(Ql b23 (l'[x2_.toNat]!.1) (l'[x2_.toNat]!.2.1) s16 s17 (l'[x2_.toNat]!.2.2.2.2.1) s18 (l'[x2_.toNat]!.2.2.2.2.2.2)), Ss1_]) 0 _ _ _ _ _ (#[vS (l'[x2_.toNat]!.1), vI (l'[x2_.toNat]!.2.1), s16, s17, vI (l'[x2_.toNat]!.2.2.2.2.1), s18, vI (l'[x2_.toNat]!.2.2.2.2.2.2)]) rfl rfl rfl rfl (.ofS rfl rfl (Ao rfl (Ao rfl (Ao (Shp.one (Rd.shp hs19)) (Ao (Shp.one (Rd.shp hs20)) (Ao rfl (Ao (Shp.one (Rd.shp hs21)) (Ao rfl Bi)))))))) rfl rfl <| Aa ?_
  refine BB [(some 22, false)] (conG prog [(22, cV (FX N (l'[x2_.toNat]!.1) (l'[x2_.toNat]!.2.1) (l'[x2_.toNat]!.2.2.1) (l'[x2_.toNat]!.2.2.2.1) (l'[x2_.toNat]!.2.2.2.2.1) (l'[x2_.toNat]!.2.2.2.2.2.1) (l'[x2_.toNat]!.2.2.2.2.2.2)) fun u0_ => vS u0_)]) <| r_R [s4, vI x2_, vF 129 #[] #[]] rfl <| rl (vA #[vS (l'[x2_.toNat]!.1), vI (l'[x2_.toNat]!.2.1), s16, s17, vI (l'[x2_.toNat]!.2.2.2.2.1), s18, vI (l'[x2_.toNat]!.2.2.2.2.2.2)]) 0 ?_
  obtain ⟨r24, hr25, hM⟩ := Ab hM
  refine rg (vS r24) (AX (caps := []) rfl ZT rfl) (fun o w z_ => Mr N (l'[x2_.toNat]!.1) (l'[x2_.toNat]!.2.1) (l'[x2_.toNat]!.2.2.1) (l'[x2_.toNat]!.2.2.2.1) (l'[x2_.toNat]!.2.2.2.2.1) (l'[x2_.toNat]!.2.2.2.2.2.1) (l'[x2_.toNat]!.2.2.2.2.2.2) _ hr25 z_.view s16 ((Av hs19) o w z_) s17 ((Av hs20) o w z_) s18 ((Av hs21) o w z_)) (AF hr25) ?_
  obtain ⟨ck26, hM⟩ := Ae hM
  refine r_W (elA s4 (x2_.toNat * 1)) rfl (AD (An rfl rfl rfl (Sl.shp hs1_) ck26)) <| MV (Ls := [(Ql b23 (l'[x2_.toNat]!.1) (l'[x2_.toNat]!.2.1) s16 s17 (l'[x2_.toNat]!.2.2.2.2.1) s18 (l'[x2_.toNat]!.2.2.2.2.2.2)), Ss1_]) 1 (En := encS) (s1_[x2_.toNat]!) r24 (x2_.toNat) 0 rfl rfl rfl hs1_ (AA ck26) rfl rfl rfl (Gr rfl) rfl (fun S27 H28 => ?_)
  refine Aa <| hK13 _ _ ?_
  refine Ax ?_
  obtain ⟨ck29, hM⟩ := Ae hM
  refine r_X (vI (x2_ + 1)) rfl (AR rfl ck29.1 ck29.2) rfl <| r_V (vI (x2_ + 1)) rfl <| Aa <| fg _ (Sub.pick [(Ql b23 (l'[x2_.toNat]!.1) (l'[x2_.toNat]!.2.1) s16 s17 (l'[x2_.toNat]!.2.2.2.2.1) s18 (l'[x2_.toNat]!.2.2.2.2.2.2)), S27] [1] rfl) ?_
  exact ⟨n9 + 1, by omega, n9, (s1_).set (x2_.toNat) r24, (x2_ + 1), hM, S27, H28, Ak rfl rfl, rfl⟩
 replace hM := iF hc12 hM
 refine AM <| hK7 _ _ ?_
 refine Ad <| r_R [s4, s4] rfl <| Aa ?_
 cases hM
 refine AW (fun hn => Ex (v0 := s4) hs1_ (Cv (Sub.pick [Ss1_] [0] rfl)) rfl (Cy rfl))
def BG (_ : Nat) (n : Int) (least : Int) (most : Int) : Option Bool := if n ≥ least then some (decide (n ≤ most)) else some false
theorem IE (N : Nat) (n least most : Int) (r) (hM : BG N n least most = some r) : Gives prog 194 #[vI n, vI least, vI most] (vB r) := by
 unfold BG at hM
 refine AC follows func194 rfl 15 rfl _ fz3 (fun base0_ => ?_)
 refine Ad <| r_V (vB false) rfl <| Aa <| Ai fun K2 hK2 => Ax <| r_R [vI n, vI least, vB (decide (n ≥ least)), vB (decide (n ≥ least))] rfl ?_
 rcases hg3 : (decide (n ≥ least)) with _ | _
 ·replace hM := iF hg3 hM
  refine r_R [none, none, none, vB false, vB false] rfl <| Aa <| hK2 _ _ ?_
  cases hM
  exact aR eE1
 replace hM := iD hg3 hM
 refine r_R [vI n, vI most, vB (decide (n ≤ most)), vB (decide (n ≤ most)), vB (decide (n ≤ most))] rfl <| Aa <| hK2 _ _ ?_
 cases hM
 exact aR eE1
def By (N : Nat) (l' : List ((List UInt8) × (List Int) × (List (Int × Int × Int × Int × BitVec 128)))) (i : Int) : Option Bool := ck ((-9223372036854775808 ≤ ((l'.length : Int) - 1) ∧ ((l'.length : Int) - 1) ≤ 9223372036854775807)) ((Az N i 0 ((l'.length : Int) - 1)).bind fun r4 => some r4)
theorem Hv (N : Nat) (l' : List ((List UInt8) × (List Int) × (List (Int × Int × Int × Int × BitVec 128)))) (i : Int) (r) (hM : By N l' i = some r) (ro : Ro) (l'v : Value) (hl' : RdN encr_53 ro l'v l') : Does prog 257 #[l'v, vI i] ro [] (pV (vB r)) := by
 unfold By at hM
 refine Aq follows func257 rfl 10 rfl _ fz2 (fun base0_ => ?_)
 refine Ad <| r_V (vB false) rfl <| Aa <| Ad <| r_R [vI i, l'v] rfl <| r_W (vI (l'.length : Int)) rfl (Aj rfl rfl rfl (RdN.shp hl')) ?_
 obtain ⟨ck3, hM⟩ := Ae hM
 refine r_X (vI ((l'.length : Int) - 1)) rfl (AR rfl ck3.1 ck3.2) rfl ?_
 obtain ⟨r4, hr5, hM⟩ := Ab hM
 refine rc (vB r4) (cF BP) (AI N i 0 ((l'.length : Int) - 1) _ hr5) <| r_V (vB r4) rfl <| Aa ?_
 cases hM
 exact aR eV1
def Dh (N : Nat) (_ : Int) (a : Int) (c2_ : Al) : Option Int := (By N c2_.2.2.2.2.2.1 a).bind fun r3 => (Ag N r3 5).bind fun r5 => some r5
theorem Mx (N : Nat) (x a : Int) (c2_ : Al) (r) (hM : Dh N x a c2_ = some r) (ro : Ro) (bc2_ : Nat) (c2_v : AP) (hc2_ : Bun35R ro c2_v c2_) (hbc2_ : Blk ro bc2_ (Ch c2_ c2_v)) : Does prog 256 #[vI x, vI a, vP bc2_ 0] ro [] (pV (vI r)) := by
 unfold Dh at hM
 refine Aq follows func256 rfl 12 rfl _ fz3 (fun base0_ => ?_)
 refine Ad <| r_V (vI 0) rfl <| Aa <| AL [(some 10, false)] (conG prog [(10, cV (By N c2_.2.2.2.2.2.1 a) fun u0_ => vB u0_)]) <| r_R [vP bc2_ 0, vP bc2_ 5] rfl <| CR c2_v.2.2.2.2.1 (vs := (Ch c2_ c2_v)) (o := 5) rfl rfl (AK hbc2_) rfl <| r_V (vI a) rfl ?_
 obtain ⟨r3, hr4, hM⟩ := Ab hM
 refine rg (vB r3) (cF Ob) (fun o w z_ => Hv N c2_.2.2.2.2.2.1 a _ hr4 z_.view c2_v.2.2.2.2.1 (RdN.mono z_.ro_cell hc2_.2.2.2.2.1)) (AF hr4) ?_
 obtain ⟨r5, hr6, hM⟩ := Ab hM
 refine rc (vI r5) (cF AJ) (AB N r3 5 _ hr6) <| r_V (vI r5) rfl <| Aa ?_
 cases hM
 exact aR eV1
def Fo (N : Nat) (l' : List Int) (ask0_ : Al) : Nat → Int → Option (Int × Int)
  | 0, _ => none
  | n8 + 1, x1_ => if x1_ < (l'.length : Int) then ck (0 ≤ x1_ ∧ x1_ < (l'.length : Int)) ((Dh N x1_ (l'[x1_.toNat]!) ask0_).bind fun r16 => if (r16 : Int) ≠ 0 then some (x1_, r16) else ck (-9223372036854775808 ≤ (x1_ + 1) ∧ (x1_ + 1) ≤ 9223372036854775807) ((Fo N l' ask0_ n8) (x1_ + 1))) else some (0, 0)
def Hk (N : Nat) (l' : List Int) (most : Int) (ask0_ : Al) : Option (Int × Int) := if (l'.length : Int) > most then some (0, 2) else Fo N l' ask0_ N 0
theorem Rv (N : Nat) (l' : List Int) (most : Int) (ask0_ : Al) (r) (hM : Hk N l' most ask0_ = some r) (ro : Ro) (l'v : Value) (hl' : Rd BK ro l'v l') (bask0_ : Nat) (ask0_v : AP) (hask0_ : Bun35R ro ask0_v ask0_) (hbask0_ : Blk ro bask0_ (Ch ask0_ ask0_v)) : Does prog 132 #[l'v, vI most, vF 256 #[] #[vP bask0_ 0]] ro [] (pV (vT #[vI r.1, vI r.2])) := by
 unfold Hk at hM
 refine Aq follows func132 rfl 31 rfl _ fz3 (fun base0_ => ?_)
 refine Ad <| r_R [vI 0, vI 0] rfl <| Aa <| Ai fun K2 hK2 => Ad <| r_V l'v rfl <| r_W (vI (l'.length : Int)) rfl (Aj rfl rfl rfl (Rd.shp hl')) <| r_R [vI most, vB (decide ((l'.length : Int) > most))] rfl <| Aa <| Af _ rfl (fun hc4 => ?_) (fun hc4 => ?_)
 ·replace hM := iD hc4 hM
  refine Ad <| r_R [vI 0, vI 2] rfl <| Aa ?_
  cases hM
  exact aR eV2
 replace hM := iF hc4 hM
 refine Ah <| hK2 _ _ ?_
 refine Ai fun K6 hK6 => Ad <| r_V l'v rfl <| r_W (vI (l'.length : Int)) rfl (Aj rfl rfl rfl (Rd.shp hl')) <| r_V (vI 0) rfl <| Aa <| Ap <| AS (fun tt ll nn => ∃ (n8 : Nat) (x1_ : Int), (Fo N l' ask0_ n8 x1_ = some r) ∧ Is [(2, vF 256 #[] #[vP bask0_ 0]), (15, l'v), (16, vI (l'.length : Int)), (17, vI x1_)] [] tt ll ∧ nn = n8 + 1) (N + 1) ?_ ?_
 ·exact ⟨N, 0, hM, Ak rfl rfl, rfl⟩
 clear hM; rintro t l _ ⟨n8, x1_, hM, ⟨⟨T, rfl⟩, rfl⟩, rfl⟩
 rcases n8 with _ | n8
 ·exact absurd hM (by simp [Fo])
 rw [Fo] at hM
 refine Ad <| r_V (vB (decide (x1_ < (l'.length : Int)))) rfl <| Aa <| Ai fun K10 hK10 => Af _ rfl (fun hc11 => ?_) (fun hc11 => ?_)
 ·replace hM := iD hc11 hM
  refine Ah <| hK10 _ _ ?_
  refine Ai fun K12 hK12 => Ap <| Ad <| r_V (vI x1_) rfl ?_
  obtain ⟨ck14, hM⟩ := Ae hM
  refine r_W (elA l'v (x1_.toNat * 1)) rfl (AD (An rfl rfl rfl (Rd.shp hl') ck14)) <| Bw (vI (l'[x1_.toNat]!)) (En := BK) (l'[x1_.toNat]!) (x1_.toNat) 0 rfl rfl (Av hl') (AA ck14) rfl <| r_R [vI x1_, vI (l'[x1_.toNat]!)] rfl <| Aa <| AL [(some 25, false)] (conG prog [(25, cV (Dh N x1_ (l'[x1_.toNat]!) ask0_) fun u0_ => vI u0_)]) <| r_R [vF 256 #[] #[vP bask0_ 0], vI x1_, vI (l'[x1_.toNat]!)] rfl ?_
  obtain ⟨r16, hr17, hM⟩ := Ab hM
  refine rg (vI r16) (AX (caps := [vP bask0_ 0]) rfl Yv rfl) (fun o w z_ => Mx N x1_ (l'[x1_.toNat]!) ask0_ _ hr17 z_.view bask0_ ask0_v (Bun35R.mono z_.ro_cell hask0_) (AK hbask0_ o w z_)) (AF hr17) <| r_V (vI r16) rfl <| Aa <| Ad <| r_R [vI r16, vB (r16 != 0)] rfl <| Aa <| Af _ rfl (fun hc19 => ?_) (fun hc19 => ?_)
  ·replace hM := iN hc19 hM
   refine Ad <| r_R [vI x1_, vI r16, vI x1_, vI r16] rfl <| Aa ?_
   cases hM
   exact aR eV2
  replace hM := iM hc19 hM
  refine Ah <| hK12 _ _ ?_
  refine Ax ?_
  obtain ⟨ck21, hM⟩ := Ae hM
  refine r_X (vI (x1_ + 1)) rfl (AR rfl ck21.1 ck21.2) rfl <| r_V (vI (x1_ + 1)) rfl <| Aa <| fg _ (Sub.of suN) ?_
  exact ⟨n8 + 1, by omega, n8, (x1_ + 1), hM, Ak rfl rfl, rfl⟩
 replace hM := iF hc11 hM
 refine AM <| hK6 _ _ ?_
 refine Ad <| r_R [vI 0, vI 0] rfl <| Aa ?_
 cases hM
 exact aR eV2
def Bp (s : List Int) (v' : Int) : Nat → Int → Option Int
  | 0, _ => none
  | n4 + 1, x1_ => if x1_ < (s.length : Int) then ck (0 ≤ x1_ ∧ x1_ < (s.length : Int)) (if v' = s[x1_.toNat]! then some x1_ else ck (-9223372036854775808 ≤ (x1_ + 1) ∧ (x1_ + 1) ≤ 9223372036854775807) ((Bp s v' n4) (x1_ + 1))) else some (-1)
def Cm (N : Nat) (s : List Int) (v' : Int) : Option Int := Bp s v' N 0
theorem Ji (N : Nat) (s : List Int) (v' r : Int) (hM : Cm N s v' = some r) (ro : Ro) (sv : Value) (hs : Rd BK ro sv s) : Does prog 203 #[sv, vI v'] ro [] (pV (vI r)) := by
 unfold Cm at hM
 refine Aq follows func203 rfl 19 rfl _ fz2 (fun base0_ => ?_)
 refine Ad <| r_V (vI 0) rfl <| Aa <| Ai fun K2 hK2 => Ad <| r_V sv rfl <| r_W (vI (s.length : Int)) rfl (Aj rfl rfl rfl (Rd.shp hs)) <| r_V (vI 0) rfl <| Aa <| Ap <| AS (fun tt ll nn => ∃ (n4 : Nat) (x1_ : Int), (Bp s v' n4 x1_ = some r) ∧ Is [(0, sv), (1, vI v'), (7, vI (s.length : Int)), (8, vI x1_)] [] tt ll ∧ nn = n4 + 1) (N + 1) ?_ ?_
 ·exact ⟨N, 0, hM, Ak rfl rfl, rfl⟩
 clear hM; rintro t l _ ⟨n4, x1_, hM, ⟨⟨T, rfl⟩, rfl⟩, rfl⟩
 rcases n4 with _ | n4
 ·exact absurd hM (by simp [Bp])
 rw [Bp] at hM
 refine Ad <| r_V (vB (decide (x1_ < (s.length : Int)))) rfl <| Aa <| Ai fun K6 hK6 => Af _ rfl (fun hc7 => ?_) (fun hc7 => ?_)
 ·replace hM := iD hc7 hM
  refine Ah <| hK6 _ _ ?_
  refine Ai fun K8 hK8 => Ap <| Ad <| r_R [vI x1_, vI x1_] rfl <| Aa <| Ad <| r_R [vI v', sv, vI x1_] rfl ?_
  obtain ⟨ck11, hM⟩ := Ae hM
  refine r_W (elA sv (x1_.toNat * 1)) rfl (AD (An rfl rfl rfl (Rd.shp hs) ck11)) <| Bw (vI (s[x1_.toNat]!)) (En := BK) (s[x1_.toNat]!) (x1_.toNat) 0 rfl rfl (Av hs) (AA ck11) rfl <| r_V (vB (v' == s[x1_.toNat]!)) rfl <| Aa <| Af _ rfl (fun hc12 => ?_) (fun hc12 => ?_)
  ·replace hM := iE hc12 hM
   refine Ad <| r_R [vI x1_, vI x1_] rfl <| Aa ?_
   cases hM
   exact aR eV1
  replace hM := iG hc12 hM
  refine Ah <| hK8 _ _ ?_
  refine Ax ?_
  obtain ⟨ck14, hM⟩ := Ae hM
  refine r_X (vI (x1_ + 1)) rfl (AR rfl ck14.1 ck14.2) rfl <| r_V (vI (x1_ + 1)) rfl <| Aa <| fg _ (Sub.of suN) ?_
  exact ⟨n4 + 1, by omega, n4, (x1_ + 1), hM, Ak rfl rfl, rfl⟩
 replace hM := iF hc7 hM
 refine AM <| hK2 _ _ ?_
 refine Ad <| r_V (vI (-1)) rfl <| Aa ?_
 cases hM
 exact aR eV1
def AG (N : Nat) (s : List Int) (v' : Int) : Option Bool := (Cm N s v').bind fun r3 => some (decide (r3 ≥ 0))
theorem DE (N : Nat) (s : List Int) (v' : Int) (r) (hM : AG N s v' = some r) (ro : Ro) (sv : Value) (hs : Rd BK ro sv s) : Does prog 135 #[sv, vI v'] ro [] (pV (vB r)) := by
 unfold AG at hM
 refine Aq follows func135 rfl 9 rfl _ fz2 (fun base0_ => ?_)
 refine Ad <| r_V (vB false) rfl <| Aa <| AL [(some 7, false)] (conG prog [(7, cV (Cm N s v') fun u0_ => vI u0_)]) <| r_R [sv, vI v'] rfl ?_
 obtain ⟨r3, hr4, hM⟩ := Ab hM
 refine rg (vI r3) (cF Za) (fun o w z_ => Ji N s v' _ hr4 z_.view sv ((Av hs) o w z_)) (AF hr4) <| r_R [vB (decide (r3 ≥ 0)), vB (decide (r3 ≥ 0))] rfl <| Aa ?_
 cases hM
 exact aR eV1
def Dg (N : Nat) (i : Int) (a : Int) (c2_ : List Int) : Option Int := ck (0 ≤ i ∧ i ≤ (c2_.length : Int)) ((AG N (((c2_).take (i.toNat)).drop 0) a).bind fun r4 => (Ag N (!(r4)) 6).bind fun r6 => some r6)
theorem Mw (N : Nat) (i a : Int) (c2_ : List Int) (r) (hM : Dg N i a c2_ = some r) (ro : Ro) (bc2_ : Nat) (c2_v : Value) (hc2_ : Rd BK ro c2_v c2_) (hbc2_ : Blk ro bc2_ [c2_v]) : Does prog 258 #[vI i, vI a, vP bc2_ 0] ro [] (pV (vI r)) := by
 unfold Dg at hM
 refine Aq follows func258 rfl 13 rfl _ fz3 (fun base0_ => ?_)
 refine Ad <| r_V (vI 0) rfl <| Aa <| AL [(some 10, false)] (conG prog [(10, cV (AG N (((c2_).take (i.toNat)).drop 0) a) fun u0_ => vB u0_)]) <| CR c2_v (vs := [c2_v]) (o := 0) rfl rfl (AK hbc2_) rfl <| r_V (vI i) rfl ?_
 obtain ⟨ck3, hM⟩ := Ae hM
 refine r_W (EJ c2_v 0 (i.toNat) 1) rfl (AD (GK rfl rfl rfl rfl (Rd.shp hc2_) ck3)) <| r_V (vI a) rfl ?_
 obtain ⟨r4, hr5, hM⟩ := Ab hM
 refine rg (vB r4) (cF Oi) (fun o w z_ => DE N (((c2_).take (i.toNat)).drop 0) a _ hr5 z_.view (EJ c2_v 0 (i.toNat) 1) ((Ly (Av hc2_) (Nat.zero_le _) (HC ck3.2)) o w z_)) (AF hr5) <| r_V (vB (!(r4))) rfl ?_
 obtain ⟨r6, hr7, hM⟩ := Ab hM
 refine rc (vI r6) (cF AJ) (AB N (!(r4)) 6 _ hr7) <| r_V (vI r6) rfl <| Aa ?_
 cases hM
 exact aR eV1
def Fm (N : Nat) (l' : List Int) (ask0_ : List Int) : Nat → Int → Option (Int × Int)
  | 0, _ => none
  | n8 + 1, x1_ => if x1_ < (l'.length : Int) then ck (0 ≤ x1_ ∧ x1_ < (l'.length : Int)) ((Dg N x1_ (l'[x1_.toNat]!) ask0_).bind fun r16 => if (r16 : Int) ≠ 0 then some (x1_, r16) else ck (-9223372036854775808 ≤ (x1_ + 1) ∧ (x1_ + 1) ≤ 9223372036854775807) ((Fm N l' ask0_ n8) (x1_ + 1))) else some (0, 0)
def Hj (N : Nat) (l' : List Int) (most : Int) (ask0_ : List Int) : Option (Int × Int) := if (l'.length : Int) > most then some (0, 2) else Fm N l' ask0_ N 0
theorem Ru (N : Nat) (l' : List Int) (most : Int) (ask0_ : List Int) (r) (hM : Hj N l' most ask0_ = some r) (ro : Ro) (l'v : Value) (hl' : Rd BK ro l'v l') (bask0_ : Nat) (ask0_v : Value) (hask0_ : Rd BK ro ask0_v ask0_) (hbask0_ : Blk ro bask0_ [ask0_v]) : Does prog 132 #[l'v, vI most, vF 258 #[] #[vP bask0_ 0]] ro [] (pV (vT #[vI r.1, vI r.2])) := by
 unfold Hj at hM
 refine Aq follows func132 rfl 31 rfl _ fz3 (fun base0_ => ?_)
 refine Ad <| r_R [vI 0, vI 0] rfl <| Aa <| Ai fun K2 hK2 => Ad <| r_V l'v rfl <| r_W (vI (l'.length : Int)) rfl (Aj rfl rfl rfl (Rd.shp hl')) <| r_R [vI most, vB (decide ((l'.length : Int) > most))] rfl <| Aa <| Af _ rfl (fun hc4 => ?_) (fun hc4 => ?_)
 ·replace hM := iD hc4 hM
  refine Ad <| r_R [vI 0, vI 2] rfl <| Aa ?_
  cases hM
  exact aR eV2
 replace hM := iF hc4 hM
 refine Ah <| hK2 _ _ ?_
 refine Ai fun K6 hK6 => Ad <| r_V l'v rfl <| r_W (vI (l'.length : Int)) rfl (Aj rfl rfl rfl (Rd.shp hl')) <| r_V (vI 0) rfl <| Aa <| Ap <| AS (fun tt ll nn => ∃ (n8 : Nat) (x1_ : Int), (Fm N l' ask0_ n8 x1_ = some r) ∧ Is [(2, vF 258 #[] #[vP bask0_ 0]), (15, l'v), (16, vI (l'.length : Int)), (17, vI x1_)] [] tt ll ∧ nn = n8 + 1) (N + 1) ?_ ?_
 ·exact ⟨N, 0, hM, Ak rfl rfl, rfl⟩
 clear hM; rintro t l _ ⟨n8, x1_, hM, ⟨⟨T, rfl⟩, rfl⟩, rfl⟩
 rcases n8 with _ | n8
 ·exact absurd hM (by simp [Fm])
 rw [Fm] at hM
 refine Ad <| r_V (vB (decide (x1_ < (l'.length : Int)))) rfl <| Aa <| Ai fun K10 hK10 => Af _ rfl (fun hc11 => ?_) (fun hc11 => ?_)
 ·replace hM := iD hc11 hM
  refine Ah <| hK10 _ _ ?_
  refine Ai fun K12 hK12 => Ap <| Ad <| r_V (vI x1_) rfl ?_
  obtain ⟨ck14, hM⟩ := Ae hM
  refine r_W (elA l'v (x1_.toNat * 1)) rfl (AD (An rfl rfl rfl (Rd.shp hl') ck14)) <| Bw (vI (l'[x1_.toNat]!)) (En := BK) (l'[x1_.toNat]!) (x1_.toNat) 0 rfl rfl (Av hl') (AA ck14) rfl <| r_R [vI x1_, vI (l'[x1_.toNat]!)] rfl <| Aa <| AL [(some 25, false)] (conG prog [(25, cV (Dg N x1_ (l'[x1_.toNat]!) ask0_) fun u0_ => vI u0_)]) <| r_R [vF 258 #[] #[vP bask0_ 0], vI x1_, vI (l'[x1_.toNat]!)] rfl ?_
  obtain ⟨r16, hr17, hM⟩ := Ab hM
  refine rg (vI r16) (AX (caps := [vP bask0_ 0]) rfl Yu rfl) (fun o w z_ => Mw N x1_ (l'[x1_.toNat]!) ask0_ _ hr17 z_.view bask0_ ask0_v ((Av hask0_) o w z_) (AK hbask0_ o w z_)) (AF hr17) <| r_V (vI r16) rfl <| Aa <| Ad <| r_R [vI r16, vB (r16 != 0)] rfl <| Aa <| Af _ rfl (fun hc19 => ?_) (fun hc19 => ?_)
  ·replace hM := iN hc19 hM
   refine Ad <| r_R [vI x1_, vI r16, vI x1_, vI r16] rfl <| Aa ?_
   cases hM
   exact aR eV2
  replace hM := iM hc19 hM
  refine Ah <| hK12 _ _ ?_
  refine Ax ?_
  obtain ⟨ck21, hM⟩ := Ae hM
  refine r_X (vI (x1_ + 1)) rfl (AR rfl ck21.1 ck21.2) rfl <| r_V (vI (x1_ + 1)) rfl <| Aa <| fg _ (Sub.of suN) ?_
  exact ⟨n8 + 1, by omega, n8, (x1_ + 1), hM, Ak rfl rfl, rfl⟩
 replace hM := iF hc11 hM
 refine AM <| hK6 _ _ ?_
 refine Ad <| r_R [vI 0, vI 0] rfl <| Aa ?_
 cases hM
 exact aR eV2
def Ci (N : Nat) (c : Al) (l' : List Int) : Option Int := (Hk N l' 8 c).bind fun r5 => (Hj N l' 8 l').bind fun r8 => (Ag N (decide ((l'.length : Int) > 0)) 5).bind fun r11 => (As N ([r11, r5.2, r8.2])).bind fun r16 => some r16
theorem Pb (N : Nat) (c : Al) (l' : List Int) (r) (hM : Ci N c l' = some r) (ro : Ro) (cv : AP) (hc : Bun35R ro cv c) (l'v : Value) (hl' : Rd BK ro l'v l') : Does prog 195 #[vA (Ac c cv), l'v] ro [] (pV (vI r)) := by
 unfold Ci at hM
 refine Aq follows func195 rfl 29 rfl _ fz2 (fun base0_ => ?_)
 refine Ad <| r_a (92, (Ac c cv)) rfl rfl rfl (fun b2 => ?_) (.inr rfl)
 refine r_a (29, #[l'v]) rfl rfl (HW rfl (Rd.shp hl')) (fun b3 => ?_) (.inr rfl)
 refine r_V (vI 0) rfl <| Aa <| AL [(some 12, false)] (conG prog [(12, cV (Hk N l' 8 c) fun u0_ => vT #[vI u0_.1, vI u0_.2])]) <| rl l'v 0 <| r_W (vF 256 #[] #[vP b2 0]) rfl (DV rfl) ?_
 obtain ⟨r5, hr6, hM⟩ := Ab hM
 refine rg (vT #[vI r5.1, vI r5.2]) (cF Ll) (fun o w z_ => Rv N l' 8 c _ hr6 z_.view l'v ((Av hl') o w z_) b2 cv (Bun35R.mono z_.ro_cell hc) (Bq 1 rfl rfl o w z_)) (AF hr6) <| r_R [vT #[vI r5.1, vI r5.2], vI r5.1, vI r5.2, vI r5.1, vI r5.2] rfl <| Aa <| AL [(some 18, false)] (conG prog [(18, cV (Hj N l' 8 l') fun u0_ => vT #[vI u0_.1, vI u0_.2])]) <| rl l'v 0 <| r_W (vF 258 #[] #[vP b3 0]) rfl (DV rfl) ?_
 obtain ⟨r8, hr9, hM⟩ := Ab hM
 refine rg (vT #[vI r8.1, vI r8.2]) (cF Ll) (fun o w z_ => Ru N l' 8 l' _ hr9 z_.view l'v ((Av hl') o w z_) b3 l'v ((Av hl') o w z_) (Bq 0 rfl rfl o w z_)) (AF hr9) <| r_R [vT #[vI r8.1, vI r8.2], vI r8.1, vI r8.2, vI r8.1, vI r8.2] rfl <| Aa <| AL [(some 27, false), (some 28, false)] (conG prog [(28, fun _ _ v_ L_ U_ => ∀ u0_, Ag N (decide ((l'.length : Int) > 0)) 5 = some u0_ → ∀ u1_, As N ([u0_, r5.2, r8.2]) = some u1_ → (pV (vI u1_)) v_ L_ U_)]) <| rl l'v 0 ?_
 refine r_W (vI (l'.length : Int)) rfl (Aj rfl rfl rfl (Rd.shp hl')) <| r_V (vB (decide ((l'.length : Int) > 0))) rfl ?_
 obtain ⟨r11, hr12, hM⟩ := Ab hM
 refine rc (vI r11) (cF AJ) (AB N (decide ((l'.length : Int) > 0)) 5 _ hr12) <| r_R [vI r5.2, vI r8.2] rfl <| Dj (cs0 := [(28, fun _ _ v_ L_ U_ => ∀ u0_, Ag N (decide ((l'.length : Int) > 0)) 5 = some u0_ → ∀ u1_, As N ([u0_, r5.2, r8.2]) = some u1_ → (pV (vI u1_)) v_ L_ U_)]) (Ls := [(ME b3 l'v), [(b2, 92, (Ac c cv))]]) 38 BK [r11, r5.2, r8.2] [vI r11, vI r5.2, vI r8.2] [vI 0, vI 0, vI 0] rfl rfl rfl rfl rfl rfl rfl (by kernel_rfl) (by kernel_rfl) rfl rfl rfl (fun s13 S14 H15 => ?_)
 obtain ⟨r16, hr17, hM⟩ := Ab hM
 refine rg (vI r16) (cF Br) (fun o w z_ => Bb N ([r11, r5.2, r8.2]) _ hr17 z_.view s13 ((AN H15 (Aw (Ls := [(ME b3 l'v), [(b2, 92, (Ac c cv))], S14]) (k := 2) rfl rfl)) o w z_)) (fun _ _ v_ L_ U_ => ⟨fun h_ => h_ _ hr12 _ hr17, fun h_ => by intro _ e_; cases Option.some.inj (e_.symm.trans hr12); intro _ e_; cases Option.some.inj (e_.symm.trans hr17); exact h_⟩) ?_
 refine r_V (vI r16) rfl <| Aa <| Cd [(4, vI r16)] rfl (fun T => ?_)
 cases hM
 exact aR eV1
def EH (N : Nat) (i : Int) (v_0 : Int) (v_1 : BitVec 128) (c2_ : List Int) : Option Int := ck (0 ≤ i ∧ i < (c2_.length : Int)) ((Bh N v_0 v_1 (c2_[i.toNat]!)).bind fun r5 => (Ag N r5 9).bind fun r7 => some r7)
theorem Pe (N : Nat) (i v_0 : Int) (v_1 : BitVec 128) (c2_ : List Int) (r) (hM : EH N i v_0 v_1 c2_ = some r) (ro : Ro) (bc2_ : Nat) (c2_v : Value) (hc2_ : Rd BK ro c2_v c2_) (hbc2_ : Blk ro bc2_ [c2_v]) : Does prog 260 #[vI i, vA #[vI v_0, U (hi v_1), U (lo v_1)], vP bc2_ 0] ro [] (pV (vI r)) := by
 unfold EH at hM
 refine Aq follows func260 rfl 13 rfl _ fz3 (fun base0_ => ?_)
 refine Ad <| r_a (57, #[vI v_0, U (hi v_1), U (lo v_1)]) rfl rfl rfl (fun b2 => ?_) (.inr rfl)
 refine r_V (vI 0) rfl <| Aa <| Ai fun K3 hK3 => Ge [] (by decide +kernel) (fun hn => Be) <| rl (vA #[vI v_0, U (hi v_1), U (lo v_1)]) 0 <| CR c2_v (vs := [c2_v]) (o := 0) rfl rfl (AK hbc2_) rfl <| r_V (vI i) rfl ?_
 obtain ⟨ck4, hM⟩ := Ae hM
 refine r_W (elA c2_v (i.toNat * 1)) rfl (AD (An rfl rfl rfl (Rd.shp hc2_) ck4)) <| Bw (vI (c2_[i.toNat]!)) (En := BK) (c2_[i.toNat]!) (i.toNat) 0 rfl rfl (Av hc2_) (AA ck4) rfl ?_
 obtain ⟨r5, hr6, hM⟩ := Ab hM
 refine rc (vB r5) (cF Oc) (It N v_0 v_1 (c2_[i.toNat]!) _ hr6) ?_
 obtain ⟨r7, hr8, hM⟩ := Ab hM
 refine rc (vI r7) (cF AJ) (AB N r5 9 _ hr8) <| r_V (vI r7) rfl <| Aa <| hK3 _ _ ?_
 cases hM
 exact aR eV1
def Fr (N : Nat) (l' : List (Int × BitVec 128)) (ask0_ : List Int) : Nat → Int → Option (Int × Int)
  | 0, _ => none
  | n8 + 1, x1_ => if x1_ < (l'.length : Int) then ck (0 ≤ x1_ ∧ x1_ < (l'.length : Int)) ((EH N x1_ ((l'[x1_.toNat]!).1) ((l'[x1_.toNat]!).2) ask0_).bind fun r17 => if (r17 : Int) ≠ 0 then some (x1_, r17) else ck (-9223372036854775808 ≤ (x1_ + 1) ∧ (x1_ + 1) ≤ 9223372036854775807) ((Fr N l' ask0_ n8) (x1_ + 1))) else some (0, 0)
def Hm (N : Nat) (l' : List (Int × BitVec 128)) (most : Int) (ask0_ : List Int) : Option (Int × Int) := if (l'.length : Int) > most then some (0, 2) else Fr N l' ask0_ N 0
theorem Rz (N : Nat) (l' : List (Int × BitVec 128)) (most : Int) (ask0_ : List Int) (r) (hM : Hm N l' most ask0_ = some r) (ro : Ro) (l'v : Value) (hl' : Rd enc_57 ro l'v l') (bask0_ : Nat) (ask0_v : Value) (hask0_ : Rd BK ro ask0_v ask0_) (hbask0_ : Blk ro bask0_ [ask0_v]) : Does prog 259 #[l'v, vI most, vF 260 #[] #[vP bask0_ 0]] ro [] (pV (vT #[vI r.1, vI r.2])) := by
 unfold Hm at hM
 refine Aq follows func259 rfl 31 rfl _ fz3 (fun base0_ => ?_)
 refine Ad <| r_R [vI 0, vI 0] rfl <| Aa <| Ai fun K2 hK2 => Ad <| r_V l'v rfl <| r_W (vI (l'.length : Int)) rfl (Aj rfl rfl rfl (Rd.shp hl')) <| r_R [vI most, vB (decide ((l'.length : Int) > most))] rfl <| Aa <| Af _ rfl (fun hc4 => ?_) (fun hc4 => ?_)
 ·replace hM := iD hc4 hM
  refine Ad <| r_R [vI 0, vI 2] rfl <| Aa ?_
  cases hM
  exact aR eV2
 replace hM := iF hc4 hM
 refine Ah <| hK2 _ _ ?_
 refine Ai fun K6 hK6 => Ad <| r_V l'v rfl <| r_W (vI (l'.length : Int)) rfl (Aj rfl rfl rfl (Rd.shp hl')) <| r_V (vI 0) rfl <| Aa <| Ap <| AS (fun tt ll nn => ∃ (n8 : Nat) (x1_ : Int), (Fr N l' ask0_ n8 x1_ = some r) ∧ Is [(2, vF 260 #[] #[vP bask0_ 0]), (15, l'v), (16, vI (l'.length : Int)), (17, vI x1_)] [] tt ll ∧ nn = n8 + 1) (N + 1) ?_ ?_
 ·exact ⟨N, 0, hM, Ak rfl rfl, rfl⟩
 clear hM; rintro t l _ ⟨n8, x1_, hM, ⟨⟨T, rfl⟩, rfl⟩, rfl⟩
 rcases n8 with _ | n8
 ·exact absurd hM (by simp [Fr])
 rw [Fr] at hM
 refine Ad <| r_V (vB (decide (x1_ < (l'.length : Int)))) rfl <| Aa <| Ai fun K10 hK10 => Af _ rfl (fun hc11 => ?_) (fun hc11 => ?_)
 ·replace hM := iD hc11 hM
  refine Ah <| hK10 _ _ ?_
  refine Ai fun K12 hK12 => Ap <| Ad <| r_V (vI x1_) rfl ?_
  obtain ⟨ck14, hM⟩ := Ae hM
  refine r_W (elA l'v (x1_.toNat * 3)) rfl (AD (An rfl rfl rfl (Rd.shp hl') ck14)) <| Bw (vA #[vI ((l'[x1_.toNat]!).1), U (hi ((l'[x1_.toNat]!).2)), U (lo ((l'[x1_.toNat]!).2))]) (En := enc_57) (l'[x1_.toNat]!) (x1_.toNat) 0 rfl rfl (Av hl') (AA ck14) rfl <| r_a (57, #[vI 0, U (0#64), U (0#64)]) rfl rfl rfl (fun b15 => ?_) (.inr rfl)
  refine r_V (vI x1_) rfl <| r_s (bB b15 ((l'[x1_.toNat]!).1) (hi ((l'[x1_.toNat]!).2)) (lo ((l'[x1_.toNat]!).2))) 0 _ _ _ _ _ (#[vI ((l'[x1_.toNat]!).1), U (hi ((l'[x1_.toNat]!).2)), U (lo ((l'[x1_.toNat]!).2))]) rfl rfl rfl rfl (.of rfl rfl) rfl rfl <| Aa <| AL [(some 25, false)] (conG prog [(25, cV (EH N x1_ ((l'[x1_.toNat]!).1) ((l'[x1_.toNat]!).2) ask0_) fun u0_ => vI u0_)]) <| r_R [vF 260 #[] #[vP bask0_ 0], vI x1_] rfl ?_
  refine rl (vA #[vI ((l'[x1_.toNat]!).1), U (hi ((l'[x1_.toNat]!).2)), U (lo ((l'[x1_.toNat]!).2))]) 0 ?_
  obtain ⟨r17, hr18, hM⟩ := Ab hM
  refine rg (vI r17) (AX (caps := [vP bask0_ 0]) rfl Ys rfl) (fun o w z_ => Pe N x1_ ((l'[x1_.toNat]!).1) ((l'[x1_.toNat]!).2) ask0_ _ hr18 z_.view bask0_ ask0_v ((Av hask0_) o w z_) (AK hbask0_ o w z_)) (AF hr18) <| r_V (vI r17) rfl <| Aa <| Ad <| r_R [vI r17, vB (r17 != 0)] rfl <| Aa <| Af _ rfl (fun hc20 => ?_) (fun hc20 => ?_)
  ·replace hM := iN hc20 hM
   refine Ad <| r_R [vI x1_, vI r17, vI x1_, vI r17] rfl <| Aa ?_
   cases hM
   exact aR eV2
  replace hM := iM hc20 hM
  refine Ah <| hK12 _ _ ?_
  refine Ax ?_
  obtain ⟨ck22, hM⟩ := Ae hM
  refine r_X (vI (x1_ + 1)) rfl (AR rfl ck22.1 ck22.2) rfl <| r_V (vI (x1_ + 1)) rfl <| Aa <| fg _ (Sub.of (suC _ suN)) ?_
  exact ⟨n8 + 1, by omega, n8, (x1_ + 1), hM, Ak rfl rfl, rfl⟩
 replace hM := iF hc11 hM
 refine AM <| hK6 _ _ ?_
 refine Ad <| r_R [vI 0, vI 0] rfl <| Aa ?_
 cases hM
 exact aR eV2
def Ct (N : Nat) (c : Al) (action : Int) (l' : List (Int × BitVec 128)) : Option Int := (By N c.2.2.2.2.2.1 action).bind fun r5 => if r5 = true then ck (0 ≤ action ∧ action < (c.2.2.2.2.2.1.length : Int)) (if (l'.length : Int) ≠ (((c.2.2.2.2.2.1)[action.toNat]!.2.1).length : Int) then some 2 else (Hm N l' (l'.length : Int) ((c.2.2.2.2.2.1)[action.toNat]!.2.1)).bind fun r22 => some r22.2) else some 5
theorem Mf (N : Nat) (c : Al) (action : Int) (l' : List (Int × BitVec 128)) (r) (hM : Ct N c action l' = some r) (ro : Ro) (cv : AP) (hc : Bun35R ro cv c) (l'v : Value) (hl' : Rd enc_57 ro l'v l') : Does prog 196 #[vA (Ac c cv), vI action, l'v] ro [] (pV (vI r)) := by
 unfold Ct at hM
 refine Aq follows func196 rfl 37 rfl _ fz3 (fun base0_ => ?_)
 refine Ad <| r_a (92, (Ac c cv)) rfl rfl rfl (fun b2 => ?_) (.inr rfl)
 refine r_V (vI 0) rfl <| Aa <| Ai fun K3 hK3 => AL [(some 14, false)] (conG prog [(14, cV (By N c.2.2.2.2.2.1 action) fun u0_ => vB u0_)]) <| r_R [vP b2 0, vP b2 5] rfl <| rl cv.2.2.2.2.1 0 <| r_V (vI action) rfl ?_
 obtain ⟨r5, hr6, hM⟩ := Ab hM
 refine rg (vB r5) (cF Ob) (fun o w z_ => Hv N c.2.2.2.2.2.1 action _ hr6 z_.view cv.2.2.2.2.1 (RdN.mono z_.ro_cell hc.2.2.2.2.1)) (AF hr6) <| r_V (vB (!(r5))) rfl <| Aa <| Af _ rfl (fun hc7 => ?_) (fun hc7 => ?_)
 ·replace hM := ifn (Bool.eq_false_iff.1 (CZ hc7)) hM
  refine Ad <| r_V (vI 5) rfl <| Aa ?_
  cases hM
  exact aR eV1
 replace hM := ifp (Da hc7) hM
 refine Ah <| hK3 _ _ ?_
 refine Ad <| r_R [vP b2 0, vP b2 5] rfl <| rl cv.2.2.2.2.1 0 <| r_V (vI action) rfl ?_
 obtain ⟨ck10, hM⟩ := Ae hM
 obtain ⟨_, ⟨s11, s12, hs13, hs14, rfl⟩, hat15⟩ := RdN.at (E := encr_53) hc.2.2.2.2.1 (AA ck10)
 refine r_W (elA cv.2.2.2.2.1 (action.toNat * 3)) rfl (AD (An rfl rfl rfl (RdN.shp hc.2.2.2.2.1) ck10)) <| r_W (elA cv.2.2.2.2.1 (action.toNat * 3 + 1)) rfl (AD (AH rfl rfl rfl rfl rfl rfl (RdN.shp hc.2.2.2.2.1) (AY ck10))) <| Eo s11 (vs := [vS ((c.2.2.2.2.2.1)[action.toNat]!.1), s11, s12]) (action.toNat * 3) 1 rfl rfl (fun o w z_ => At.mono z_.ro_cell hat15) rfl <| r_a (29, #[nS]) rfl rfl rfl (fun b16 => ?_) (.inr rfl)
 refine r_s [(b16, 29, #[s11]), (b2, 92, (Ac c cv))] 0 _ _ _ _ _ (#[s11]) rfl rfl rfl (Du rfl (Rd.shp hs13)) (.ofS rfl rfl (Ao (Shp.one (Rd.shp hs13)) Bi)) rfl rfl <| Aa <| Ai fun K17 hK17 => Ad <| r_V l'v rfl <| r_W (vI (l'.length : Int)) rfl (Aj rfl rfl rfl (Rd.shp hl')) <| rl s11 0 <| r_W (vI (((c.2.2.2.2.2.1)[action.toNat]!.2.1).length : Int)) rfl (Aj rfl rfl rfl (Rd.shp hs13)) <| r_V (vB (((l'.length : Int) != (((c.2.2.2.2.2.1)[action.toNat]!.2.1).length : Int)))) rfl <| Aa ?_
 refine Af _ rfl (fun hc19 => ?_) (fun hc19 => ?_)
 ·replace hM := iN hc19 hM
  refine Ad <| r_V (vI 2) rfl <| Aa ?_
  cases hM
  exact aR eV1
 replace hM := iM hc19 hM
 refine Ah <| hK17 _ _ ?_
 refine AL [(some 33, false)] (conG prog [(33, cV (Hm N l' (l'.length : Int) ((c.2.2.2.2.2.1)[action.toNat]!.2.1)) fun u0_ => vT #[vI u0_.1, vI u0_.2])]) <| r_R [l'v, l'v] rfl <| r_W (vI (l'.length : Int)) rfl (Aj rfl rfl rfl (Rd.shp hl')) <| r_W (vF 260 #[] #[vP b16 0]) rfl (DV rfl) ?_
 obtain ⟨r22, hr23, hM⟩ := Ab hM
 refine rg (vT #[vI r22.1, vI r22.2]) (cF Yt) (fun o w z_ => Rz N l' (l'.length : Int) ((c.2.2.2.2.2.1)[action.toNat]!.2.1) _ hr23 z_.view l'v ((Av hl') o w z_) b16 s11 ((Av hs13) o w z_) (Bq 0 rfl rfl o w z_)) (AF hr23) <| r_R [vT #[vI r22.1, vI r22.2], vI r22.1, vI r22.2, vI r22.1, vI r22.2] rfl <| Aa <| Cd [(9, vI r22.2)] rfl (fun T => ?_)
 refine Ad <| r_R [vI r22.2, vI r22.2] rfl <| Aa ?_
 cases hM
 exact aR eV1
end Go.Proofs.YtjmdbbnnpmmpiaaGreatDoor
