import Derived.Test.YtjmdbbnnpmmpiaaGreatDoorBh
namespace Go.Proofs.YtjmdbbnnpmmpiaaGreatDoor
open Go Go.RowKit Go.Eng _root_.Go.Proofs.Tryz
set_option maxRecDepth 100000
set_option maxHeartbeats 8000000
abbrev Ic (b : Nat) (x0 : Int) (x1 : Int) (x2 : Int) : List Bl := [(b, 89, #[vI x0, vI x1, vI x2])]
def Pz (m : Al) (i2_ : Int) (k4_ : Int) (rec_lRl5 : Int → Option Bool) (x12_ : Bool) : Option Bool := if x12_ = true then if ((((m.2.2.2.2.2.1)[i2_.toNat]!.2.2)[k4_.toNat]!).2.1 : Int) > k4_ then ck (0 ≤ i2_ ∧ i2_ < (m.2.2.2.2.2.1.length : Int)) (if ((((m.2.2.2.2.2.1)[i2_.toNat]!.2.2)[k4_.toNat]!).2.1 : Int) ≤ (((m.2.2.2.2.2.1)[i2_.toNat]!.2.2).length : Int) then ck (-9223372036854775808 ≤ (k4_ + 1) ∧ (k4_ + 1) ≤ 9223372036854775807) (rec_lRl5 (k4_ + 1)) else some false) else some false else ck (-9223372036854775808 ≤ (k4_ + 1) ∧ (k4_ + 1) ≤ 9223372036854775807) (rec_lRl5 (k4_ + 1))
def PA (m : Al) (i2_ : Int) (k4_ : Int) (rec_lRl5 : Int → Option Bool) (x10_ : Bool) : Option Bool := if x10_ = true then if ((((m.2.2.2.2.2.1)[i2_.toNat]!.2.2)[k4_.toNat]!).2.1 : Int) ≥ 0 then if ((((m.2.2.2.2.2.1)[i2_.toNat]!.2.2)[k4_.toNat]!).2.1 : Int) < (m.2.2.2.2.2.2.2.2.2.2.2.2.1.length : Int) then ck (-9223372036854775808 ≤ (k4_ + 1) ∧ (k4_ + 1) ≤ 9223372036854775807) (rec_lRl5 (k4_ + 1)) else some false else some false else if ((((m.2.2.2.2.2.1)[i2_.toNat]!.2.2)[k4_.toNat]!).1 : Int) = 31 then Pz m i2_ k4_ rec_lRl5 ((((((m.2.2.2.2.2.1)[i2_.toNat]!.2.2)[k4_.toNat]!).1 : Int) == 31)) else Pz m i2_ k4_ rec_lRl5 ((((((m.2.2.2.2.2.1)[i2_.toNat]!.2.2)[k4_.toNat]!).1 : Int) == 32))
def Vh (N : Nat) (m : Al) (i2_ : Int) (k4_ : Int) (rec_lRl5 : Int → Option Bool) (x8_ : Bool) : Option Bool := if x8_ = true then (BU N m ((((m.2.2.2.2.2.1)[i2_.toNat]!.2.2)[k4_.toNat]!).2.1)).bind fun r42 => if r42.2 = true then ck (-9223372036854775808 ≤ (k4_ + 1) ∧ (k4_ + 1) ≤ 9223372036854775807) (rec_lRl5 (k4_ + 1)) else some false else if ((((m.2.2.2.2.2.1)[i2_.toNat]!.2.2)[k4_.toNat]!).1 : Int) = 3 then if ((((m.2.2.2.2.2.1)[i2_.toNat]!.2.2)[k4_.toNat]!).2.1 : Int) ≥ 0 then ck (0 ≤ i2_ ∧ i2_ < (m.2.2.2.2.2.1.length : Int)) (if ((((m.2.2.2.2.2.1)[i2_.toNat]!.2.2)[k4_.toNat]!).2.1 : Int) < (((m.2.2.2.2.2.1)[i2_.toNat]!.2.1).length : Int) then ck (-9223372036854775808 ≤ (k4_ + 1) ∧ (k4_ + 1) ≤ 9223372036854775807) (rec_lRl5 (k4_ + 1)) else some false) else some false else if ((((m.2.2.2.2.2.1)[i2_.toNat]!.2.2)[k4_.toNat]!).1 : Int) = 5 then PA m i2_ k4_ rec_lRl5 ((((((m.2.2.2.2.2.1)[i2_.toNat]!.2.2)[k4_.toNat]!).1 : Int) == 5)) else PA m i2_ k4_ rec_lRl5 ((((((m.2.2.2.2.2.1)[i2_.toNat]!.2.2)[k4_.toNat]!).1 : Int) == 24))
def Vi (N : Nat) (m : Al) (i2_ : Int) (k4_ : Int) (rec_lRl5 : Int → Option Bool) (x6_ : Bool) : Option Bool := if x6_ = true then (Bu N m ((((m.2.2.2.2.2.1)[i2_.toNat]!.2.2)[k4_.toNat]!).2.1) ((((m.2.2.2.2.2.1)[i2_.toNat]!.2.2)[k4_.toNat]!).2.2.1)).bind fun r35 => if r35.2 = true then ck (-9223372036854775808 ≤ (k4_ + 1) ∧ (k4_ + 1) ≤ 9223372036854775807) (rec_lRl5 (k4_ + 1)) else some false else if ((((m.2.2.2.2.2.1)[i2_.toNat]!.2.2)[k4_.toNat]!).1 : Int) = 2 then Vh N m i2_ k4_ rec_lRl5 ((((((m.2.2.2.2.2.1)[i2_.toNat]!.2.2)[k4_.toNat]!).1 : Int) == 2)) else Vh N m i2_ k4_ rec_lRl5 ((((((m.2.2.2.2.2.1)[i2_.toNat]!.2.2)[k4_.toNat]!).1 : Int) == 23))
def Kz (N : Nat) (m : Al) (i2_ : Int) (rec_lRl3 : Int → Option Bool) : Nat → Int → Option Bool
  | 0, _ => none
  | n11 + 1, k4_ => ck (0 ≤ i2_ ∧ i2_ < (m.2.2.2.2.2.1.length : Int)) (if k4_ < (((m.2.2.2.2.2.1)[i2_.toNat]!.2.2).length : Int) then ck (0 ≤ i2_ ∧ i2_ < (m.2.2.2.2.2.1.length : Int)) (ck (0 ≤ k4_ ∧ k4_ < (((m.2.2.2.2.2.1)[i2_.toNat]!.2.2).length : Int)) (if ((((m.2.2.2.2.2.1)[i2_.toNat]!.2.2)[k4_.toNat]!).1 : Int) = 1 then Vi N m i2_ k4_ (Kz N m i2_ rec_lRl3 n11) ((((((m.2.2.2.2.2.1)[i2_.toNat]!.2.2)[k4_.toNat]!).1 : Int) == 1)) else Vi N m i2_ k4_ (Kz N m i2_ rec_lRl3 n11) ((((((m.2.2.2.2.2.1)[i2_.toNat]!.2.2)[k4_.toNat]!).1 : Int) == 22)))) else ck (-9223372036854775808 ≤ (i2_ + 1) ∧ (i2_ + 1) ≤ 9223372036854775807) (rec_lRl3 (i2_ + 1)))
def KT (m : Al) (i14_ : Int) (rec_lRl15 : Int → Option Bool) : Nat → Int → Option Bool
  | 0, _ => none
  | n104 + 1, k16_ => ck (0 ≤ i14_ ∧ i14_ < (m.2.2.2.2.1.length : Int)) (if k16_ < (((m.2.2.2.2.1)[i14_.toNat]!.2.2.2.1).length : Int) then ck (0 ≤ i14_ ∧ i14_ < (m.2.2.2.2.1.length : Int)) (ck (0 ≤ k16_ ∧ k16_ < (((m.2.2.2.2.1)[i14_.toNat]!.2.2.2.1).length : Int)) (if ((((m.2.2.2.2.1)[i14_.toNat]!.2.2.2.1)[k16_.toNat]!).2.2.2.2 : Int) < -2 then some false else ck (0 ≤ i14_ ∧ i14_ < (m.2.2.2.2.1.length : Int)) (ck (0 ≤ k16_ ∧ k16_ < (((m.2.2.2.2.1)[i14_.toNat]!.2.2.2.1).length : Int)) (if ((((m.2.2.2.2.1)[i14_.toNat]!.2.2.2.1)[k16_.toNat]!).2.2.2.2 : Int) ≥ (m.2.2.2.2.1.length : Int) then some false else ck (-9223372036854775808 ≤ (k16_ + 1) ∧ (k16_ + 1) ≤ 9223372036854775807) ((KT m i14_ rec_lRl15 n104) (k16_ + 1)))))) else ck (-9223372036854775808 ≤ (i14_ + 1) ∧ (i14_ + 1) ≤ 9223372036854775807) (rec_lRl15 (i14_ + 1)))
def Kl (N : Nat) (m : Al) : Nat → Int → Option Bool
  | 0, _ => none
  | n144 + 1, i18_ => if i18_ < (m.2.2.2.2.2.2.2.1.length : Int) then ck (0 ≤ i18_ ∧ i18_ < (m.2.2.2.2.2.2.2.1.length : Int)) (if ((m.2.2.2.2.2.2.2.1)[i18_.toNat]!.2.2.2.2.1 : Int) ≤ i18_ then some false else if ((m.2.2.2.2.2.2.2.1)[i18_.toNat]!.2.2.2.2.1 : Int) > (m.2.2.2.2.2.2.2.1.length : Int) then some false else if ((m.2.2.2.2.2.2.2.1)[i18_.toNat]!.1 : Int) = 0 then if ((m.2.2.2.2.2.2.2.1)[i18_.toNat]!.2.1 : Int) < 0 then some false else if ((m.2.2.2.2.2.2.2.1)[i18_.toNat]!.2.1 : Int) ≥ (m.2.2.2.2.2.2.1.length : Int) then some false else ck (-9223372036854775808 ≤ (i18_ + 1) ∧ (i18_ + 1) ≤ 9223372036854775807) ((Kl N m n144) (i18_ + 1)) else ck (-9223372036854775808 ≤ (i18_ + 1) ∧ (i18_ + 1) ≤ 9223372036854775807) ((Kl N m n144) (i18_ + 1))) else if (m.1.length : Int) > 0 then if m.2.2.2.2.2.2.2.2.2.2.2.2.2.2.2.1 ≥ 1 then (Db N ).bind fun r172 => some r172 else some false else some false
def Km (N : Nat) (m : Al) : Nat → Int → Option Bool
  | 0, _ => none
  | n98 + 1, i14_ => if i14_ < (m.2.2.2.2.1.length : Int) then KT m i14_ (Km N m n98) N 0 else Kl N m N 0
def KS (N : Nat) (m : Al) : Nat → Int → Option Bool
  | 0, _ => none
  | n5 + 1, i2_ => if i2_ < (m.2.2.2.2.2.1.length : Int) then Kz N m i2_ (KS N m n5) N 0 else Km N m N 0
def ej (N : Nat) (m : Al) : Option Bool := KS N m N 0
def lRm (N : Nat) (m : Al) : Option Bool := (lLm N m).bind fun r175 => if r175 = true then (CF N m).bind fun r178 => Sum42.on r178 (ej N m ) (fun _ _ _ => (Db N ).bind fun r186 => some r186) else (Db N ).bind fun r189 => some r189
theorem lRg (N : Nat) (m : Al) (r) (hM : lRm N m = some r) (ro : Ro) (mv : AP) (hm : Bun35R ro mv m) : DoesI prog 5 #[vA (Ac m mv)] DZ ro [] (pV (vB r)) := by
 unfold lRm at hM
 refine AO follows func5 rfl 222 rfl _ fz1 AT (fun base0_ => ?_)
 refine Ad <| r_a (35, (Ac m mv)) rfl rfl rfl (fun b2 => ?_) (.inr rfl)
 refine r_V (vB false) rfl <| Aa <| Bm (fun tt ll => (ej N m  = some r) ∧ Is [(1, vP b2 0)] [(b2, 35, (Ac m mv))] tt ll) ?_ ?_
 ·refine Ai fun K174 hK174 => BB [(some 12, false), (some 16, true)] (conG prog [(12, cV (lLm N m) fun u0_ => vB u0_), (16, fun _ _ v_ L_ U_ => ∀ u0_, CF N m = some u0_ → (pO (List.flatten []) (Sum42.onP u0_ (oE Value.nilIface []) (fun y0_0 y0_1 y0_2 => (oB 89 #[vI y0_0, vI y0_1, vI y0_2] fun bs_0 => (oE (Value.iface 85 (vP bs_0 0)) []))))) v_ L_ U_)]) <| rl (vA (Ac m mv)) 0 ?_
  obtain ⟨r175, hr176, hM⟩ := Ab hM
  refine rg (vB r175) (cF eO) (fun o w z_ => (Does.inv (lLg N m _ hr176 z_.view mv (Bun35R.mono z_.ro_cell hm)) _)) (AF hr176) <| r_R [vB (!(r175)), vB (!(r175))] rfl ?_
  rcases hg177 : (!(r175)) with _ | _
  ·replace hM := ifp (Da hg177) hM
   refine r_y rfl <| rl (vA (Ac m mv)) 0 <| r_y rfl ?_
   obtain ⟨r178, hr179, hM⟩ := Ab hM
   refine Lz (Ls := [[(b2, 35, (Ac m mv))]]) (FL := []) [] _ (some 16) 9 _ rfl rfl rfl rfl rfl (cF XS) (fun o w hn_ z_ => Lc N m _ hr179 _ mv (Bun35R.mono (PZ (Ls := [[(b2, 35, (Ac m mv))]]) (is := []) rfl z_) hm)) (AF hr179) (fun h_ => nomatch h_) ?_
   rintro _ _ hp_
   rcases Sum42.cases r178 with hx180 | ⟨x181_0, x182_1, x183_2, hx180⟩
   ·obtain ⟨rfl, rfl⟩ := Sum42.onP_nil hx180 hp_
    replace hM := Sum42.on_nil hx180 hM
    refine Cw (Ls := [[(b2, 35, (Ac m mv))]]) (Ls' := [[(b2, 35, (Ac m mv))]]) [0] rfl rfl <| r_R [vB false, vB false] rfl <| Aa <| hK174 _ _ ?_
    refine Af false rfl (fun h_ => nomatch h_) (fun _ => ?_)
    refine Ah <| fg _ (Sub.of (suK _ suN)) ?_
    exact ⟨hM, Ak rfl rfl⟩
   obtain ⟨b184, _, ⟨rfl, rfl⟩, rfl⟩ := Sum42.onP_t85 hx180 hp_
   replace hM := Sum42.on_t85 hx180 hM
   refine Cw (Ls := [[(b2, 35, (Ac m mv))], (Ic b184 x181_0 x182_1 x183_2)]) (Ls' := [[(b2, 35, (Ac m mv))], (Ic b184 x181_0 x182_1 x183_2)]) [0, 1] rfl rfl <| r_R [vB true, vB true] rfl <| Aa <| hK174 _ _ ?_
   refine Af true rfl (fun _ => ?_) (fun h_ => nomatch h_)
   refine AL [(some 19, false)] (conG prog [(19, cV (Db N ) fun u0_ => vB u0_)]) ?_
   obtain ⟨r186, hr187, hM⟩ := Ab hM
   refine rg (vB r186) (cF TK) (fun o w z_ => LC N  _ hr187 z_.view ) (AF hr187) <| r_V (vB r186) rfl <| Aa ?_
   cases hM
   exact aR eV1
  replace hM := ifn (Bool.eq_false_iff.1 (CZ hg177)) hM
  refine r_R [none, none, none, vB true] rfl <| Aa <| hK174 _ _ ?_
  refine Af true rfl (fun _ => ?_) (fun h_ => nomatch h_)
  refine AL [(some 19, false)] (conG prog [(19, cV (Db N ) fun u0_ => vB u0_)]) ?_
  obtain ⟨r189, hr190, hM⟩ := Ab hM
  refine rg (vB r189) (cF TK) (fun o w z_ => LC N  _ hr190 z_.view ) (AF hr190) <| r_V (vB r189) rfl <| Aa ?_
  cases hM
  exact aR eV1
 clear hM; rintro t l ⟨hM, ⟨T, rfl⟩, rfl⟩
 unfold ej at hM
 refine Ai fun K3 hK3 => Ad <| r_V (vI 0) rfl <| Aa <| Ap <| AS (fun tt ll nn => ∃ (n5 : Nat) (i2_ : Int), (KS N m n5 i2_ = some r) ∧ Is [(1, vP b2 0), (3, vI i2_)] [(b2, 35, (Ac m mv))] tt ll ∧ nn = n5 + 1) (N + 1) ?_ ?_
 ·exact ⟨N, 0, hM, Ak rfl rfl, rfl⟩
 clear hM; rintro t l _ ⟨n5, i2_, hM, ⟨⟨T, rfl⟩, rfl⟩, rfl⟩
 rcases n5 with _ | n5
 ·exact absurd hM (by simp [KS])
 rw [KS] at hM
 refine Ai fun K6 hK6 => Ad <| r_R [vI i2_, vP b2 5] rfl <| rl mv.2.2.2.2.1 0 <| r_W (vI (m.2.2.2.2.2.1.length : Int)) rfl (Aj rfl rfl rfl (RdN.shp hm.2.2.2.2.1)) <| r_V (vB (decide (i2_ < (m.2.2.2.2.2.1.length : Int)))) rfl <| Aa <| Af _ rfl (fun hc8 => ?_) (fun hc8 => ?_)
 ·replace hM := iD hc8 hM
  refine Ah <| hK6 _ _ ?_
  refine Ai fun K9 hK9 => Ap <| Ad <| r_V (vI 0) rfl <| Aa <| Ap <| AS (fun tt ll nn => ∃ (n11 : Nat) (k4_ : Int), (Kz N m i2_ (KS N m n5) n11 k4_ = some r) ∧ Is [(1, vP b2 0), (3, vI i2_), (4, vI k4_)] [(b2, 35, (Ac m mv))] tt ll ∧ nn = n11 + 1) (N + 1) ?_ ?_
  ·exact ⟨N, 0, hM, Ak rfl rfl, rfl⟩
  clear hM; rintro t l _ ⟨n11, k4_, hM, ⟨⟨T, rfl⟩, rfl⟩, rfl⟩
  rcases n11 with _ | n11
  ·exact absurd hM (by simp [Kz])
  rw [Kz] at hM
  refine Ai fun K12 hK12 => Ad <| r_R [vI k4_, vP b2 5] rfl <| rl mv.2.2.2.2.1 0 <| r_V (vI i2_) rfl ?_
  obtain ⟨ck14, hM⟩ := Ae hM
  obtain ⟨_, ⟨s15, s16, hs17, hs18, rfl⟩, hat19⟩ := RdN.at (E := encr_53) hm.2.2.2.2.1 (AA ck14)
  refine r_W (elA mv.2.2.2.2.1 (i2_.toNat * 3)) rfl (AD (An rfl rfl rfl (RdN.shp hm.2.2.2.2.1) ck14)) <| r_W (elA mv.2.2.2.2.1 (i2_.toNat * 3 + 2)) rfl (AD (AH rfl rfl rfl rfl rfl rfl (RdN.shp hm.2.2.2.2.1) (AY ck14))) <| Eo s16 (vs := [vS ((m.2.2.2.2.2.1)[i2_.toNat]!.1), s15, s16]) (i2_.toNat * 3) 2 rfl rfl (fun o w z_ => At.mono z_.ro_cell hat19) rfl <| r_W (vI (((m.2.2.2.2.2.1)[i2_.toNat]!.2.2).length : Int)) rfl (Aj rfl rfl rfl (Rd.shp hs18)) <| r_V (vB (decide (k4_ < (((m.2.2.2.2.2.1)[i2_.toNat]!.2.2).length : Int)))) rfl <| Aa ?_
  refine Af _ rfl (fun hc20 => ?_) (fun hc20 => ?_)
  ·replace hM := iD hc20 hM
   refine Ah <| hK12 _ _ ?_
   refine Ai fun K21 hK21 => Ap <| Ad <| r_V (vP b2 5) rfl <| rl mv.2.2.2.2.1 0 <| r_V (vI i2_) rfl ?_
   obtain ⟨ck23, hM⟩ := Ae hM
   obtain ⟨_, ⟨s24, s25, hs26, hs27, rfl⟩, hat28⟩ := RdN.at (E := encr_53) hm.2.2.2.2.1 (AA ck23)
   refine r_W (elA mv.2.2.2.2.1 (i2_.toNat * 3)) rfl (AD (An rfl rfl rfl (RdN.shp hm.2.2.2.2.1) ck23)) <| r_W (elA mv.2.2.2.2.1 (i2_.toNat * 3 + 2)) rfl (AD (AH rfl rfl rfl rfl rfl rfl (RdN.shp hm.2.2.2.2.1) (AY ck23))) <| Eo s25 (vs := [vS ((m.2.2.2.2.2.1)[i2_.toNat]!.1), s24, s25]) (i2_.toNat * 3) 2 rfl rfl (fun o w z_ => At.mono z_.ro_cell hat28) rfl <| r_V (vI k4_) rfl ?_
   obtain ⟨ck29, hM⟩ := Ae hM
   refine r_W (elA s25 (k4_.toNat * 6)) rfl (AD (An rfl rfl rfl (Rd.shp hs27) ck29)) <| Bw (vA #[vI ((((m.2.2.2.2.2.1)[i2_.toNat]!.2.2)[k4_.toNat]!).1), vI ((((m.2.2.2.2.2.1)[i2_.toNat]!.2.2)[k4_.toNat]!).2.1), vI ((((m.2.2.2.2.2.1)[i2_.toNat]!.2.2)[k4_.toNat]!).2.2.1), vI ((((m.2.2.2.2.2.1)[i2_.toNat]!.2.2)[k4_.toNat]!).2.2.2.1), U (hi ((((m.2.2.2.2.2.1)[i2_.toNat]!.2.2)[k4_.toNat]!).2.2.2.2)), U (lo ((((m.2.2.2.2.2.1)[i2_.toNat]!.2.2)[k4_.toNat]!).2.2.2.2))]) (En := enc_59) (((m.2.2.2.2.2.1)[i2_.toNat]!.2.2)[k4_.toNat]!) (k4_.toNat) 0 rfl rfl (Av hs27) (AA ck29) rfl ?_
   refine r_a (59, #[vI 0, vI 0, vI 0, vI 0, U (0#64), U (0#64)]) rfl rfl rfl (fun b30 => ?_) (.inr rfl)
   refine r_s [(b30, 59, #[vI ((((m.2.2.2.2.2.1)[i2_.toNat]!.2.2)[k4_.toNat]!).1), vI ((((m.2.2.2.2.2.1)[i2_.toNat]!.2.2)[k4_.toNat]!).2.1), vI ((((m.2.2.2.2.2.1)[i2_.toNat]!.2.2)[k4_.toNat]!).2.2.1), vI ((((m.2.2.2.2.2.1)[i2_.toNat]!.2.2)[k4_.toNat]!).2.2.2.1), U (hi ((((m.2.2.2.2.2.1)[i2_.toNat]!.2.2)[k4_.toNat]!).2.2.2.2)), U (lo ((((m.2.2.2.2.2.1)[i2_.toNat]!.2.2)[k4_.toNat]!).2.2.2.2))]), (b2, 35, (Ac m mv))] 0 _ _ _ _ _ (#[vI ((((m.2.2.2.2.2.1)[i2_.toNat]!.2.2)[k4_.toNat]!).1), vI ((((m.2.2.2.2.2.1)[i2_.toNat]!.2.2)[k4_.toNat]!).2.1), vI ((((m.2.2.2.2.2.1)[i2_.toNat]!.2.2)[k4_.toNat]!).2.2.1), vI ((((m.2.2.2.2.2.1)[i2_.toNat]!.2.2)[k4_.toNat]!).2.2.2.1), U (hi ((((m.2.2.2.2.2.1)[i2_.toNat]!.2.2)[k4_.toNat]!).2.2.2.2)), U (lo ((((m.2.2.2.2.2.1)[i2_.toNat]!.2.2)[k4_.toNat]!).2.2.2.2))]) rfl rfl rfl rfl (.of rfl rfl) rfl rfl ?_
   refine Aa <| Ad <| r_V (vB true) rfl <| Aa <| Ai fun K32 hK32 => Ad <| r_V (vP b30 0) rfl <| rl (vI ((((m.2.2.2.2.2.1)[i2_.toNat]!.2.2)[k4_.toNat]!).1)) 0 <| Aa <| Ap ?_
   refine Bm (fun tt ll => ∃ (x6_ : Bool), (Vi N m i2_ k4_ (Kz N m i2_ (KS N m n5) n11) x6_ = some r) ∧ Is [(1, vP b2 0), (3, vI i2_), (4, vI k4_), (5, vP b30 0), (6, vB true), (48, vI ((((m.2.2.2.2.2.1)[i2_.toNat]!.2.2)[k4_.toNat]!).1)), (49, vB x6_)] [(b30, 59, #[vI ((((m.2.2.2.2.2.1)[i2_.toNat]!.2.2)[k4_.toNat]!).1), vI ((((m.2.2.2.2.2.1)[i2_.toNat]!.2.2)[k4_.toNat]!).2.1), vI ((((m.2.2.2.2.2.1)[i2_.toNat]!.2.2)[k4_.toNat]!).2.2.1), vI ((((m.2.2.2.2.2.1)[i2_.toNat]!.2.2)[k4_.toNat]!).2.2.2.1), U (hi ((((m.2.2.2.2.2.1)[i2_.toNat]!.2.2)[k4_.toNat]!).2.2.2.2)), U (lo ((((m.2.2.2.2.2.1)[i2_.toNat]!.2.2)[k4_.toNat]!).2.2.2.2))]), (b2, 35, (Ac m mv))] tt ll) ?_ ?_
   ·refine Ad <| r_R [vB ((((((m.2.2.2.2.2.1)[i2_.toNat]!.2.2)[k4_.toNat]!).1 : Int) == 1)), vB ((((((m.2.2.2.2.2.1)[i2_.toNat]!.2.2)[k4_.toNat]!).1 : Int) == 1))] rfl <| Aa <| Af _ rfl (fun hc94 => ?_) (fun hc94 => ?_)
    ·replace hM := iE hc94 hM
     refine Ah <| fg _ (Sub.of (suK _ (suK _ suN))) ?_
     exact ⟨(((((m.2.2.2.2.2.1)[i2_.toNat]!.2.2)[k4_.toNat]!).1 : Int) == 1), hM, Ak rfl rfl⟩
    replace hM := iG hc94 hM
    refine Ax <| r_R [vB ((((((m.2.2.2.2.2.1)[i2_.toNat]!.2.2)[k4_.toNat]!).1 : Int) == 22)), vB ((((((m.2.2.2.2.2.1)[i2_.toNat]!.2.2)[k4_.toNat]!).1 : Int) == 22))] rfl <| Aa <| fg _ (Sub.of (suK _ (suK _ suN))) ?_
    exact ⟨(((((m.2.2.2.2.2.1)[i2_.toNat]!.2.2)[k4_.toNat]!).1 : Int) == 22), hM, Ak rfl rfl⟩
   clear hM; rintro t l ⟨x6_, hM, ⟨T, rfl⟩, rfl⟩
   unfold Vi at hM
   refine Af _ rfl (fun hc34 => ?_) (fun hc34 => ?_)
   ·replace hM := ifp hc34 hM
    refine BB [(some 58, false)] (conG prog [(58, cV (Bu N m ((((m.2.2.2.2.2.1)[i2_.toNat]!.2.2)[k4_.toNat]!).2.1) ((((m.2.2.2.2.2.1)[i2_.toNat]!.2.2)[k4_.toNat]!).2.2.1)) fun u0_ => vT #[vI u0_.1, vB u0_.2])]) <| rl (vA (Ac m mv)) 1 <| r_V (vP b30 1) rfl <| rl (vI ((((m.2.2.2.2.2.1)[i2_.toNat]!.2.2)[k4_.toNat]!).2.1)) 0 <| r_V (vP b30 2) rfl <| rl (vI ((((m.2.2.2.2.2.1)[i2_.toNat]!.2.2)[k4_.toNat]!).2.2.1)) 0 ?_
    obtain ⟨r35, hr36, hM⟩ := Ab hM
    refine rg (vT #[vI r35.1, vB r35.2]) (cF MM) (fun o w z_ => (Does.inv (Hy N m ((((m.2.2.2.2.2.1)[i2_.toNat]!.2.2)[k4_.toNat]!).2.1) ((((m.2.2.2.2.2.1)[i2_.toNat]!.2.2)[k4_.toNat]!).2.2.1) _ hr36 z_.view mv (Bun35R.mono z_.ro_cell hm)) _)) (AF hr36) <| r_R [vT #[vI r35.1, vB r35.2], vI r35.1, vB r35.2, vB r35.2] rfl <| Aa <| hK32 _ _ ?_
    refine Ad <| r_R [vB r35.2, vB (!(r35.2))] rfl <| Aa <| Af _ rfl (fun hc38 => ?_) (fun hc38 => ?_)
    ·replace hM := ifn (Bool.eq_false_iff.1 (CZ hc38)) hM
     refine Ad <| r_V (vB false) rfl <| Aa ?_
     cases hM
     exact aR eV1
    replace hM := ifp (Da hc38) hM
    refine Ah <| hK21 _ _ ?_
    refine Ax <| r_V (vI k4_) rfl ?_
    obtain ⟨ck40, hM⟩ := Ae hM
    refine r_X (vI (k4_ + 1)) rfl (AR rfl ck40.1 ck40.2) rfl <| r_V (vI (k4_ + 1)) rfl <| Aa <| fg _ (Sub.of (suC _ (suK _ suN))) ?_
    exact ⟨n11 + 1, by omega, n11, (k4_ + 1), hM, Ak rfl rfl, rfl⟩
   replace hM := iB hc34 hM
   refine Bm (fun tt ll => ∃ (x8_ : Bool), (Vh N m i2_ k4_ (Kz N m i2_ (KS N m n5) n11) x8_ = some r) ∧ Is [(1, vP b2 0), (3, vI i2_), (4, vI k4_), (5, vP b30 0), (6, vB true), (48, vI ((((m.2.2.2.2.2.1)[i2_.toNat]!.2.2)[k4_.toNat]!).1)), (61, vB x8_)] [(b30, 59, #[vI ((((m.2.2.2.2.2.1)[i2_.toNat]!.2.2)[k4_.toNat]!).1), vI ((((m.2.2.2.2.2.1)[i2_.toNat]!.2.2)[k4_.toNat]!).2.1), vI ((((m.2.2.2.2.2.1)[i2_.toNat]!.2.2)[k4_.toNat]!).2.2.1), vI ((((m.2.2.2.2.2.1)[i2_.toNat]!.2.2)[k4_.toNat]!).2.2.2.1), U (hi ((((m.2.2.2.2.2.1)[i2_.toNat]!.2.2)[k4_.toNat]!).2.2.2.2)), U (lo ((((m.2.2.2.2.2.1)[i2_.toNat]!.2.2)[k4_.toNat]!).2.2.2.2))]), (b2, 35, (Ac m mv))] tt ll) ?_ ?_
   ·refine Ad <| r_R [vB ((((((m.2.2.2.2.2.1)[i2_.toNat]!.2.2)[k4_.toNat]!).1 : Int) == 2)), vB ((((((m.2.2.2.2.2.1)[i2_.toNat]!.2.2)[k4_.toNat]!).1 : Int) == 2))] rfl <| Aa <| Af _ rfl (fun hc92 => ?_) (fun hc92 => ?_)
    ·replace hM := iE hc92 hM
     refine Ah <| fg _ (Sub.of (suK _ (suK _ suN))) ?_
     exact ⟨(((((m.2.2.2.2.2.1)[i2_.toNat]!.2.2)[k4_.toNat]!).1 : Int) == 2), hM, Ak rfl rfl⟩
    replace hM := iG hc92 hM
    refine Ax <| r_R [vB ((((((m.2.2.2.2.2.1)[i2_.toNat]!.2.2)[k4_.toNat]!).1 : Int) == 23)), vB ((((((m.2.2.2.2.2.1)[i2_.toNat]!.2.2)[k4_.toNat]!).1 : Int) == 23))] rfl <| Aa <| fg _ (Sub.of (suK _ (suK _ suN))) ?_
    exact ⟨(((((m.2.2.2.2.2.1)[i2_.toNat]!.2.2)[k4_.toNat]!).1 : Int) == 23), hM, Ak rfl rfl⟩
   clear hM; rintro t l ⟨x8_, hM, ⟨T, rfl⟩, rfl⟩
   unfold Vh at hM
   refine Af _ rfl (fun hc41 => ?_) (fun hc41 => ?_)
   ·replace hM := ifp hc41 hM
    refine BB [(some 68, false)] (conG prog [(68, cV (BU N m ((((m.2.2.2.2.2.1)[i2_.toNat]!.2.2)[k4_.toNat]!).2.1)) fun u0_ => vT #[vI u0_.1, vB u0_.2])]) <| rl (vA (Ac m mv)) 1 <| r_V (vP b30 1) rfl <| rl (vI ((((m.2.2.2.2.2.1)[i2_.toNat]!.2.2)[k4_.toNat]!).2.1)) 0 ?_
    obtain ⟨r42, hr43, hM⟩ := Ab hM
    refine rg (vT #[vI r42.1, vB r42.2]) (cF QM) (fun o w z_ => Jt N m ((((m.2.2.2.2.2.1)[i2_.toNat]!.2.2)[k4_.toNat]!).2.1) _ hr43 z_.view mv (Bun35R.mono z_.ro_cell hm)) (AF hr43) <| r_R [vT #[vI r42.1, vB r42.2], vI r42.1, vB r42.2, vB r42.2] rfl <| Aa <| hK32 _ _ ?_
    refine Ad <| r_R [vB r42.2, vB (!(r42.2))] rfl <| Aa <| Af _ rfl (fun hc45 => ?_) (fun hc45 => ?_)
    ·replace hM := ifn (Bool.eq_false_iff.1 (CZ hc45)) hM
     refine Ad <| r_V (vB false) rfl <| Aa ?_
     cases hM
     exact aR eV1
    replace hM := ifp (Da hc45) hM
    refine Ah <| hK21 _ _ ?_
    refine Ax <| r_V (vI k4_) rfl ?_
    obtain ⟨ck47, hM⟩ := Ae hM
    refine r_X (vI (k4_ + 1)) rfl (AR rfl ck47.1 ck47.2) rfl <| r_V (vI (k4_ + 1)) rfl <| Aa <| fg _ (Sub.of (suC _ (suK _ suN))) ?_
    exact ⟨n11 + 1, by omega, n11, (k4_ + 1), hM, Ak rfl rfl, rfl⟩
   replace hM := iB hc41 hM
   refine Ad <| r_R [vB ((((((m.2.2.2.2.2.1)[i2_.toNat]!.2.2)[k4_.toNat]!).1 : Int) == 3)), vB ((((((m.2.2.2.2.2.1)[i2_.toNat]!.2.2)[k4_.toNat]!).1 : Int) == 3))] rfl <| Aa <| Af _ rfl (fun hc49 => ?_) (fun hc49 => ?_)
   ·replace hM := iE hc49 hM
    refine Ge [] (by decide +kernel) (fun hn => Be) <| r_V (vP b30 1) rfl <| rl (vI ((((m.2.2.2.2.2.1)[i2_.toNat]!.2.2)[k4_.toNat]!).2.1)) 0 <| r_R [vB (decide (((((m.2.2.2.2.2.1)[i2_.toNat]!.2.2)[k4_.toNat]!).2.1 : Int) ≥ 0)), vB (decide (((((m.2.2.2.2.2.1)[i2_.toNat]!.2.2)[k4_.toNat]!).2.1 : Int) ≥ 0))] rfl ?_
    rcases hg50 : (decide (((((m.2.2.2.2.2.1)[i2_.toNat]!.2.2)[k4_.toNat]!).2.1 : Int) ≥ 0)) with _ | _
    ·replace hM := iF hg50 hM
     refine r_R [none, none, none, none, none, none, none, none, none, none, vB false, vB false] rfl <| Aa <| hK32 _ _ ?_
     refine Ad <| r_R [vB false, vB true] rfl <| Aa <| Af true rfl (fun _ => ?_) (fun h_ => nomatch h_)
     refine Ad <| r_V (vB false) rfl <| Aa <| Cd [(2, vB false)] rfl (fun T => ?_)
     cases hM
     exact aR eV1
    replace hM := iD hg50 hM
    refine r_R [vP b30 1] rfl <| r_y rfl <| rl (vI ((((m.2.2.2.2.2.1)[i2_.toNat]!.2.2)[k4_.toNat]!).2.1)) 0 <| r_R [vP b2 5] rfl <| r_y rfl <| rl mv.2.2.2.2.1 1 <| r_R [vI i2_] rfl <| r_y rfl ?_
    obtain ⟨ck53, hM⟩ := Ae hM
    obtain ⟨_, ⟨s54, s55, hs56, hs57, rfl⟩, hat58⟩ := RdN.at (E := encr_53) hm.2.2.2.2.1 (AA ck53)
    refine r_W (elA mv.2.2.2.2.1 (i2_.toNat * 3)) rfl (AD (An rfl rfl rfl (RdN.shp hm.2.2.2.2.1) ck53)) <| r_y rfl <| r_W (elA mv.2.2.2.2.1 (i2_.toNat * 3 + 1)) rfl (AD (AH rfl rfl rfl rfl rfl rfl (RdN.shp hm.2.2.2.2.1) (AY ck53))) <| r_y rfl <| Eo s54 (vs := [vS ((m.2.2.2.2.2.1)[i2_.toNat]!.1), s54, s55]) (i2_.toNat * 3) 1 rfl rfl (fun o w z_ => At.mono z_.ro_cell hat58) rfl <| r_y rfl <| r_W (vI (((m.2.2.2.2.2.1)[i2_.toNat]!.2.1).length : Int)) rfl (Aj rfl rfl rfl (Rd.shp hs56)) ?_
    refine r_R [vB (decide (((((m.2.2.2.2.2.1)[i2_.toNat]!.2.2)[k4_.toNat]!).2.1 : Int) < (((m.2.2.2.2.2.1)[i2_.toNat]!.2.1).length : Int))), vB (decide (((((m.2.2.2.2.2.1)[i2_.toNat]!.2.2)[k4_.toNat]!).2.1 : Int) < (((m.2.2.2.2.2.1)[i2_.toNat]!.2.1).length : Int))), vB (decide (((((m.2.2.2.2.2.1)[i2_.toNat]!.2.2)[k4_.toNat]!).2.1 : Int) < (((m.2.2.2.2.2.1)[i2_.toNat]!.2.1).length : Int)))] rfl <| Aa <| hK32 _ _ ?_
    refine Ad <| r_R [vB (decide (((((m.2.2.2.2.2.1)[i2_.toNat]!.2.2)[k4_.toNat]!).2.1 : Int) < (((m.2.2.2.2.2.1)[i2_.toNat]!.2.1).length : Int))), vB (!(decide (((((m.2.2.2.2.2.1)[i2_.toNat]!.2.2)[k4_.toNat]!).2.1 : Int) < (((m.2.2.2.2.2.1)[i2_.toNat]!.2.1).length : Int))))] rfl <| Aa <| Af _ rfl (fun hc60 => ?_) (fun hc60 => ?_)
    ·replace hM := ifn (of_decide_eq_false (CZ hc60)) hM
     refine Ad <| r_V (vB false) rfl <| Aa <| Cd [(2, vB false)] rfl (fun T => ?_)
     cases hM
     exact aR eV1
    replace hM := ifp (of_decide_eq_true (Da hc60)) hM
    refine Ah <| hK21 _ _ ?_
    refine Ax <| r_V (vI k4_) rfl ?_
    obtain ⟨ck62, hM⟩ := Ae hM
    refine r_X (vI (k4_ + 1)) rfl (AR rfl ck62.1 ck62.2) rfl <| r_V (vI (k4_ + 1)) rfl <| Aa <| fg _ (Sub.of (suC _ (suK _ suN))) ?_
    exact ⟨n11 + 1, by omega, n11, (k4_ + 1), hM, Ak (by first | rfl | (simp only [hg50]; done) | (simp only [hg50]; rfl) | (simp only [Bc]; rfl)) rfl, rfl⟩
   replace hM := iG hc49 hM
   refine Bm (fun tt ll => ∃ (x10_ : Bool), (PA m i2_ k4_ (Kz N m i2_ (KS N m n5) n11) x10_ = some r) ∧ Is [(1, vP b2 0), (3, vI i2_), (4, vI k4_), (5, vP b30 0), (6, vB true), (48, vI ((((m.2.2.2.2.2.1)[i2_.toNat]!.2.2)[k4_.toNat]!).1)), (88, vB x10_)] [(b30, 59, #[vI ((((m.2.2.2.2.2.1)[i2_.toNat]!.2.2)[k4_.toNat]!).1), vI ((((m.2.2.2.2.2.1)[i2_.toNat]!.2.2)[k4_.toNat]!).2.1), vI ((((m.2.2.2.2.2.1)[i2_.toNat]!.2.2)[k4_.toNat]!).2.2.1), vI ((((m.2.2.2.2.2.1)[i2_.toNat]!.2.2)[k4_.toNat]!).2.2.2.1), U (hi ((((m.2.2.2.2.2.1)[i2_.toNat]!.2.2)[k4_.toNat]!).2.2.2.2)), U (lo ((((m.2.2.2.2.2.1)[i2_.toNat]!.2.2)[k4_.toNat]!).2.2.2.2))]), (b2, 35, (Ac m mv))] tt ll) ?_ ?_
   ·refine Ad <| r_R [vB ((((((m.2.2.2.2.2.1)[i2_.toNat]!.2.2)[k4_.toNat]!).1 : Int) == 5)), vB ((((((m.2.2.2.2.2.1)[i2_.toNat]!.2.2)[k4_.toNat]!).1 : Int) == 5))] rfl <| Aa <| Af _ rfl (fun hc90 => ?_) (fun hc90 => ?_)
    ·replace hM := iE hc90 hM
     refine Ah <| fg _ (Sub.of (suK _ (suK _ suN))) ?_
     exact ⟨(((((m.2.2.2.2.2.1)[i2_.toNat]!.2.2)[k4_.toNat]!).1 : Int) == 5), hM, Ak rfl rfl⟩
    replace hM := iG hc90 hM
    refine Ax <| r_R [vB ((((((m.2.2.2.2.2.1)[i2_.toNat]!.2.2)[k4_.toNat]!).1 : Int) == 24)), vB ((((((m.2.2.2.2.2.1)[i2_.toNat]!.2.2)[k4_.toNat]!).1 : Int) == 24))] rfl <| Aa <| fg _ (Sub.of (suK _ (suK _ suN))) ?_
    exact ⟨(((((m.2.2.2.2.2.1)[i2_.toNat]!.2.2)[k4_.toNat]!).1 : Int) == 24), hM, Ak rfl rfl⟩
   clear hM; rintro t l ⟨x10_, hM, ⟨T, rfl⟩, rfl⟩
   unfold PA at hM
   refine Af _ rfl (fun hc63 => ?_) (fun hc63 => ?_)
   ·replace hM := ifp hc63 hM
    refine Ax <| r_V (vP b30 1) rfl <| rl (vI ((((m.2.2.2.2.2.1)[i2_.toNat]!.2.2)[k4_.toNat]!).2.1)) 0 <| r_R [vB (decide (((((m.2.2.2.2.2.1)[i2_.toNat]!.2.2)[k4_.toNat]!).2.1 : Int) ≥ 0)), vB (decide (((((m.2.2.2.2.2.1)[i2_.toNat]!.2.2)[k4_.toNat]!).2.1 : Int) ≥ 0))] rfl ?_
    rcases hg64 : (decide (((((m.2.2.2.2.2.1)[i2_.toNat]!.2.2)[k4_.toNat]!).2.1 : Int) ≥ 0)) with _ | _
    ·replace hM := iF hg64 hM
     refine r_R [none, none, none, none, none, none, vB false, vB false] rfl <| Aa <| hK32 _ _ ?_
     refine Ad <| r_R [vB false, vB true] rfl <| Aa <| Af true rfl (fun _ => ?_) (fun h_ => nomatch h_)
     refine Ad <| r_V (vB false) rfl <| Aa ?_
     cases hM
     exact aR eV1
    replace hM := iD hg64 hM
    refine r_R [vP b30 1] rfl <| r_y rfl <| rl (vI ((((m.2.2.2.2.2.1)[i2_.toNat]!.2.2)[k4_.toNat]!).2.1)) 0 <| r_R [vP b2 12] rfl <| r_y rfl <| rl mv.2.2.2.2.2.2.2.2.2.2.2.1 1 <| r_y rfl <| r_W (vI (m.2.2.2.2.2.2.2.2.2.2.2.2.1.length : Int)) rfl (Aj rfl rfl rfl (Rd.shp hm.2.2.2.2.2.2.2.2.2.2.2.1)) ?_
    refine r_R [vB (decide (((((m.2.2.2.2.2.1)[i2_.toNat]!.2.2)[k4_.toNat]!).2.1 : Int) < (m.2.2.2.2.2.2.2.2.2.2.2.2.1.length : Int))), vB (decide (((((m.2.2.2.2.2.1)[i2_.toNat]!.2.2)[k4_.toNat]!).2.1 : Int) < (m.2.2.2.2.2.2.2.2.2.2.2.2.1.length : Int))), vB (decide (((((m.2.2.2.2.2.1)[i2_.toNat]!.2.2)[k4_.toNat]!).2.1 : Int) < (m.2.2.2.2.2.2.2.2.2.2.2.2.1.length : Int)))] rfl <| Aa <| hK32 _ _ ?_
    refine Ad <| r_R [vB (decide (((((m.2.2.2.2.2.1)[i2_.toNat]!.2.2)[k4_.toNat]!).2.1 : Int) < (m.2.2.2.2.2.2.2.2.2.2.2.2.1.length : Int))), vB (!(decide (((((m.2.2.2.2.2.1)[i2_.toNat]!.2.2)[k4_.toNat]!).2.1 : Int) < (m.2.2.2.2.2.2.2.2.2.2.2.2.1.length : Int))))] rfl <| Aa <| Af _ rfl (fun hc68 => ?_) (fun hc68 => ?_)
    ·replace hM := ifn (of_decide_eq_false (CZ hc68)) hM
     refine Ad <| r_V (vB false) rfl <| Aa ?_
     cases hM
     exact aR eV1
    replace hM := ifp (of_decide_eq_true (Da hc68)) hM
    refine Ah <| hK21 _ _ ?_
    refine Ax <| r_V (vI k4_) rfl ?_
    obtain ⟨ck70, hM⟩ := Ae hM
    refine r_X (vI (k4_ + 1)) rfl (AR rfl ck70.1 ck70.2) rfl <| r_V (vI (k4_ + 1)) rfl <| Aa <| fg _ (Sub.of (suC _ (suK _ suN))) ?_
    exact ⟨n11 + 1, by omega, n11, (k4_ + 1), hM, Ak (by first | rfl | (simp only [hg64]; done) | (simp only [hg64]; rfl) | (simp only [Bc]; rfl)) rfl, rfl⟩
   replace hM := iB hc63 hM
   refine Bm (fun tt ll => ∃ (x12_ : Bool), (Pz m i2_ k4_ (Kz N m i2_ (KS N m n5) n11) x12_ = some r) ∧ Is [(1, vP b2 0), (3, vI i2_), (4, vI k4_), (5, vP b30 0), (6, vB true), (102, vB x12_)] [(b30, 59, #[vI ((((m.2.2.2.2.2.1)[i2_.toNat]!.2.2)[k4_.toNat]!).1), vI ((((m.2.2.2.2.2.1)[i2_.toNat]!.2.2)[k4_.toNat]!).2.1), vI ((((m.2.2.2.2.2.1)[i2_.toNat]!.2.2)[k4_.toNat]!).2.2.1), vI ((((m.2.2.2.2.2.1)[i2_.toNat]!.2.2)[k4_.toNat]!).2.2.2.1), U (hi ((((m.2.2.2.2.2.1)[i2_.toNat]!.2.2)[k4_.toNat]!).2.2.2.2)), U (lo ((((m.2.2.2.2.2.1)[i2_.toNat]!.2.2)[k4_.toNat]!).2.2.2.2))]), (b2, 35, (Ac m mv))] tt ll) ?_ ?_
   ·refine Ad <| r_R [vB ((((((m.2.2.2.2.2.1)[i2_.toNat]!.2.2)[k4_.toNat]!).1 : Int) == 31)), vB ((((((m.2.2.2.2.2.1)[i2_.toNat]!.2.2)[k4_.toNat]!).1 : Int) == 31))] rfl <| Aa <| Af _ rfl (fun hc88 => ?_) (fun hc88 => ?_)
    ·replace hM := iE hc88 hM
     refine Ah <| fg _ (Sub.of (suK _ (suK _ suN))) ?_
     exact ⟨(((((m.2.2.2.2.2.1)[i2_.toNat]!.2.2)[k4_.toNat]!).1 : Int) == 31), hM, Ak rfl rfl⟩
    replace hM := iG hc88 hM
    refine Ax <| r_R [vB ((((((m.2.2.2.2.2.1)[i2_.toNat]!.2.2)[k4_.toNat]!).1 : Int) == 32)), vB ((((((m.2.2.2.2.2.1)[i2_.toNat]!.2.2)[k4_.toNat]!).1 : Int) == 32))] rfl <| Aa <| fg _ (Sub.of (suK _ (suK _ suN))) ?_
    exact ⟨(((((m.2.2.2.2.2.1)[i2_.toNat]!.2.2)[k4_.toNat]!).1 : Int) == 32), hM, Ak rfl rfl⟩
   clear hM; rintro t l ⟨x12_, hM, ⟨T, rfl⟩, rfl⟩
   unfold Pz at hM
   refine Af _ rfl (fun hc71 => ?_) (fun hc71 => ?_)
   ·replace hM := ifp hc71 hM
    refine Ge [] (by decide +kernel) (fun hn => Be) <| r_V (vP b30 1) rfl <| rl (vI ((((m.2.2.2.2.2.1)[i2_.toNat]!.2.2)[k4_.toNat]!).2.1)) 0 <| r_R [vI k4_, vB (decide (((((m.2.2.2.2.2.1)[i2_.toNat]!.2.2)[k4_.toNat]!).2.1 : Int) > k4_)), vB (decide (((((m.2.2.2.2.2.1)[i2_.toNat]!.2.2)[k4_.toNat]!).2.1 : Int) > k4_))] rfl ?_
    rcases hg72 : (decide (((((m.2.2.2.2.2.1)[i2_.toNat]!.2.2)[k4_.toNat]!).2.1 : Int) > k4_)) with _ | _
    ·replace hM := iF hg72 hM
     refine r_R [none, none, none, none, none, none, none, none, none, none, vB false, vB false] rfl <| Aa <| hK32 _ _ ?_
     refine Ad <| r_R [vB false, vB true] rfl <| Aa <| Af true rfl (fun _ => ?_) (fun h_ => nomatch h_)
     refine Ad <| r_V (vB false) rfl <| Aa ?_
     cases hM
     exact aR eV1
    replace hM := iD hg72 hM
    refine r_R [vP b30 1] rfl <| r_y rfl <| rl (vI ((((m.2.2.2.2.2.1)[i2_.toNat]!.2.2)[k4_.toNat]!).2.1)) 0 <| r_R [vP b2 5] rfl <| r_y rfl <| rl mv.2.2.2.2.1 1 <| r_R [vI i2_] rfl <| r_y rfl ?_
    obtain ⟨ck75, hM⟩ := Ae hM
    obtain ⟨_, ⟨s76, s77, hs78, hs79, rfl⟩, hat80⟩ := RdN.at (E := encr_53) hm.2.2.2.2.1 (AA ck75)
    refine r_W (elA mv.2.2.2.2.1 (i2_.toNat * 3)) rfl (AD (An rfl rfl rfl (RdN.shp hm.2.2.2.2.1) ck75)) <| r_y rfl <| r_W (elA mv.2.2.2.2.1 (i2_.toNat * 3 + 2)) rfl (AD (AH rfl rfl rfl rfl rfl rfl (RdN.shp hm.2.2.2.2.1) (AY ck75))) <| r_y rfl <| Eo s77 (vs := [vS ((m.2.2.2.2.2.1)[i2_.toNat]!.1), s76, s77]) (i2_.toNat * 3) 2 rfl rfl (fun o w z_ => At.mono z_.ro_cell hat80) rfl <| r_y rfl <| r_W (vI (((m.2.2.2.2.2.1)[i2_.toNat]!.2.2).length : Int)) rfl (Aj rfl rfl rfl (Rd.shp hs79)) ?_
    refine r_R [vB (decide (((((m.2.2.2.2.2.1)[i2_.toNat]!.2.2)[k4_.toNat]!).2.1 : Int) ≤ (((m.2.2.2.2.2.1)[i2_.toNat]!.2.2).length : Int))), vB (decide (((((m.2.2.2.2.2.1)[i2_.toNat]!.2.2)[k4_.toNat]!).2.1 : Int) ≤ (((m.2.2.2.2.2.1)[i2_.toNat]!.2.2).length : Int))), vB (decide (((((m.2.2.2.2.2.1)[i2_.toNat]!.2.2)[k4_.toNat]!).2.1 : Int) ≤ (((m.2.2.2.2.2.1)[i2_.toNat]!.2.2).length : Int)))] rfl <| Aa <| hK32 _ _ ?_
    refine Ad <| r_R [vB (decide (((((m.2.2.2.2.2.1)[i2_.toNat]!.2.2)[k4_.toNat]!).2.1 : Int) ≤ (((m.2.2.2.2.2.1)[i2_.toNat]!.2.2).length : Int))), vB (!(decide (((((m.2.2.2.2.2.1)[i2_.toNat]!.2.2)[k4_.toNat]!).2.1 : Int) ≤ (((m.2.2.2.2.2.1)[i2_.toNat]!.2.2).length : Int))))] rfl <| Aa <| Af _ rfl (fun hc82 => ?_) (fun hc82 => ?_)
    ·replace hM := ifn (of_decide_eq_false (CZ hc82)) hM
     refine Ad <| r_V (vB false) rfl <| Aa ?_
     cases hM
     exact aR eV1
    replace hM := ifp (of_decide_eq_true (Da hc82)) hM
    refine Ah <| hK21 _ _ ?_
    refine Ax <| r_V (vI k4_) rfl ?_
    obtain ⟨ck84, hM⟩ := Ae hM
    refine r_X (vI (k4_ + 1)) rfl (AR rfl ck84.1 ck84.2) rfl <| r_V (vI (k4_ + 1)) rfl <| Aa <| fg _ (Sub.of (suC _ (suK _ suN))) ?_
    exact ⟨n11 + 1, by omega, n11, (k4_ + 1), hM, Ak (by first | rfl | (simp only [hg72]; done) | (simp only [hg72]; rfl) | (simp only [Bc]; rfl)) rfl, rfl⟩
   replace hM := iB hc71 hM
   refine Ah <| hK32 _ _ ?_
   refine Ad <| r_R [vB true, vB false] rfl <| Aa <| Af false rfl (fun h_ => nomatch h_) (fun _ => ?_)
   refine Ah <| hK21 _ _ ?_
   refine Ax <| r_V (vI k4_) rfl ?_
   obtain ⟨ck86, hM⟩ := Ae hM
   refine r_X (vI (k4_ + 1)) rfl (AR rfl ck86.1 ck86.2) rfl <| r_V (vI (k4_ + 1)) rfl <| Aa <| fg _ (Sub.of (suC _ (suK _ suN))) ?_
   exact ⟨n11 + 1, by omega, n11, (k4_ + 1), hM, Ak rfl rfl, rfl⟩
  replace hM := iF hc20 hM
  refine AM <| hK9 _ _ ?_
  refine Ax <| r_V (vI i2_) rfl ?_
  obtain ⟨ck95, hM⟩ := Ae hM
  refine r_X (vI (i2_ + 1)) rfl (AR rfl ck95.1 ck95.2) rfl <| r_V (vI (i2_ + 1)) rfl <| Aa <| fg _ (Sub.of (suK _ suN)) ?_
  exact ⟨n5 + 1, by omega, n5, (i2_ + 1), hM, Ak rfl rfl, rfl⟩
 replace hM := iF hc8 hM
 refine AM <| hK3 _ _ ?_
 refine Ai fun K96 hK96 => Ad <| r_V (vI 0) rfl <| Aa <| Ap <| AS (fun tt ll nn => ∃ (n98 : Nat) (i14_ : Int), (Km N m n98 i14_ = some r) ∧ Is [(1, vP b2 0), (7, vI i14_)] [(b2, 35, (Ac m mv))] tt ll ∧ nn = n98 + 1) (N + 1) ?_ ?_
 ·exact ⟨N, 0, hM, Ak rfl rfl, rfl⟩
 clear hM; rintro t l _ ⟨n98, i14_, hM, ⟨⟨T, rfl⟩, rfl⟩, rfl⟩
 rcases n98 with _ | n98
 ·exact absurd hM (by simp [Km])
 rw [Km] at hM
 refine Ai fun K99 hK99 => Ad <| r_R [vI i14_, vP b2 4] rfl <| rl mv.2.2.2.1 0 <| r_W (vI (m.2.2.2.2.1.length : Int)) rfl (Aj rfl rfl rfl (RdN.shp hm.2.2.2.1)) <| r_V (vB (decide (i14_ < (m.2.2.2.2.1.length : Int)))) rfl <| Aa <| Af _ rfl (fun hc101 => ?_) (fun hc101 => ?_)
 ·replace hM := iD hc101 hM
  refine Ah <| hK99 _ _ ?_
  refine Ai fun K102 hK102 => Ap <| Ad <| r_V (vI 0) rfl <| Aa <| Ap <| AS (fun tt ll nn => ∃ (n104 : Nat) (k16_ : Int), (KT m i14_ (Km N m n98) n104 k16_ = some r) ∧ Is [(1, vP b2 0), (7, vI i14_), (8, vI k16_)] [(b2, 35, (Ac m mv))] tt ll ∧ nn = n104 + 1) (N + 1) ?_ ?_
  ·exact ⟨N, 0, hM, Ak rfl rfl, rfl⟩
  clear hM; rintro t l _ ⟨n104, k16_, hM, ⟨⟨T, rfl⟩, rfl⟩, rfl⟩
  rcases n104 with _ | n104
  ·exact absurd hM (by simp [KT])
  rw [KT] at hM
  refine Ai fun K105 hK105 => Ad <| r_R [vI k16_, vP b2 4] rfl <| rl mv.2.2.2.1 0 <| r_V (vI i14_) rfl ?_
  obtain ⟨ck107, hM⟩ := Ae hM
  obtain ⟨_, ⟨s108, s109, s110, hs111, hs112, hs113, rfl⟩, hat114⟩ := RdN.at (E := encr_64) hm.2.2.2.1 (AA ck107)
  refine r_W (elA mv.2.2.2.1 (i14_.toNat * 5)) rfl (AD (An rfl rfl rfl (RdN.shp hm.2.2.2.1) ck107)) <| r_W (elA mv.2.2.2.1 (i14_.toNat * 5 + 3)) rfl (AD (AH rfl rfl rfl rfl rfl rfl (RdN.shp hm.2.2.2.1) (AY ck107))) <| Eo s110 (vs := [vS ((m.2.2.2.2.1)[i14_.toNat]!.1), s108, s109, s110, vI ((m.2.2.2.2.1)[i14_.toNat]!.2.2.2.2)]) (i14_.toNat * 5) 3 rfl rfl (fun o w z_ => At.mono z_.ro_cell hat114) rfl <| r_W (vI (((m.2.2.2.2.1)[i14_.toNat]!.2.2.2.1).length : Int)) rfl (Aj rfl rfl rfl (Rd.shp hs113)) <| r_V (vB (decide (k16_ < (((m.2.2.2.2.1)[i14_.toNat]!.2.2.2.1).length : Int)))) rfl <| Aa ?_
  refine Af _ rfl (fun hc115 => ?_) (fun hc115 => ?_)
  ·replace hM := iD hc115 hM
   refine Ah <| hK105 _ _ ?_
   refine Ai fun K116 hK116 => Ap <| Ai fun K117 hK117 => Ge [] (by decide +kernel) (fun hn => Be) <| r_V (vP b2 4) rfl <| rl mv.2.2.2.1 0 <| r_V (vI i14_) rfl ?_
   obtain ⟨ck118, hM⟩ := Ae hM
   obtain ⟨_, ⟨s119, s120, s121, hs122, hs123, hs124, rfl⟩, hat125⟩ := RdN.at (E := encr_64) hm.2.2.2.1 (AA ck118)
   refine r_W (elA mv.2.2.2.1 (i14_.toNat * 5)) rfl (AD (An rfl rfl rfl (RdN.shp hm.2.2.2.1) ck118)) <| r_W (elA mv.2.2.2.1 (i14_.toNat * 5 + 3)) rfl (AD (AH rfl rfl rfl rfl rfl rfl (RdN.shp hm.2.2.2.1) (AY ck118))) <| Eo s121 (vs := [vS ((m.2.2.2.2.1)[i14_.toNat]!.1), s119, s120, s121, vI ((m.2.2.2.2.1)[i14_.toNat]!.2.2.2.2)]) (i14_.toNat * 5) 3 rfl rfl (fun o w z_ => At.mono z_.ro_cell hat125) rfl <| r_V (vI k16_) rfl ?_
   obtain ⟨ck126, hM⟩ := Ae hM
   refine r_W (elA s121 (k16_.toNat * 7)) rfl (AD (An rfl rfl rfl (Rd.shp hs124) ck126)) <| r_W (elA s121 (k16_.toNat * 7 + 6)) rfl (AD (AH rfl rfl rfl rfl rfl rfl (Rd.shp hs124) (AY ck126))) <| Bw (vI ((((m.2.2.2.2.1)[i14_.toNat]!.2.2.2.1)[k16_.toNat]!).2.2.2.2)) (En := enc_66) (((m.2.2.2.2.1)[i14_.toNat]!.2.2.2.1)[k16_.toNat]!) (k16_.toNat) 6 rfl rfl (Av hs124) (AA ck126) rfl <| r_R [vB (decide (((((m.2.2.2.2.1)[i14_.toNat]!.2.2.2.1)[k16_.toNat]!).2.2.2.2 : Int) < -2)), vB (decide (((((m.2.2.2.2.1)[i14_.toNat]!.2.2.2.1)[k16_.toNat]!).2.2.2.2 : Int) < -2))] rfl ?_
   rcases hg127 : (decide (((((m.2.2.2.2.1)[i14_.toNat]!.2.2.2.1)[k16_.toNat]!).2.2.2.2 : Int) < -2)) with _ | _
   ·replace hM := iF hg127 hM
    refine r_R [vP b2 4] rfl <| r_y rfl <| rl mv.2.2.2.1 0 <| r_R [vI i14_] rfl <| r_y rfl ?_
    obtain ⟨ck128, hM⟩ := Ae hM
    obtain ⟨_, ⟨s129, s130, s131, hs132, hs133, hs134, rfl⟩, hat135⟩ := RdN.at (E := encr_64) hm.2.2.2.1 (AA ck128)
    refine r_W (elA mv.2.2.2.1 (i14_.toNat * 5)) rfl (AD (An rfl rfl rfl (RdN.shp hm.2.2.2.1) ck128)) <| r_y rfl <| r_W (elA mv.2.2.2.1 (i14_.toNat * 5 + 3)) rfl (AD (AH rfl rfl rfl rfl rfl rfl (RdN.shp hm.2.2.2.1) (AY ck128))) <| r_y rfl <| Eo s131 (vs := [vS ((m.2.2.2.2.1)[i14_.toNat]!.1), s129, s130, s131, vI ((m.2.2.2.2.1)[i14_.toNat]!.2.2.2.2)]) (i14_.toNat * 5) 3 rfl rfl (fun o w z_ => At.mono z_.ro_cell hat135) rfl <| r_R [vI k16_] rfl <| r_y rfl ?_
    obtain ⟨ck136, hM⟩ := Ae hM
    refine r_W (elA s131 (k16_.toNat * 7)) rfl (AD (An rfl rfl rfl (Rd.shp hs134) ck136)) <| r_y rfl <| r_W (elA s131 (k16_.toNat * 7 + 6)) rfl (AD (AH rfl rfl rfl rfl rfl rfl (Rd.shp hs134) (AY ck136))) <| r_y rfl <| Bw (vI ((((m.2.2.2.2.1)[i14_.toNat]!.2.2.2.1)[k16_.toNat]!).2.2.2.2)) (En := enc_66) (((m.2.2.2.2.1)[i14_.toNat]!.2.2.2.1)[k16_.toNat]!) (k16_.toNat) 6 rfl rfl (Av hs134) (AA ck136) rfl <| r_R [vP b2 4] rfl <| r_y rfl <| rl mv.2.2.2.1 0 <| r_y rfl <| r_W (vI (m.2.2.2.2.1.length : Int)) rfl (Aj rfl rfl rfl (RdN.shp hm.2.2.2.1)) ?_
    refine r_R [vB (decide (((((m.2.2.2.2.1)[i14_.toNat]!.2.2.2.1)[k16_.toNat]!).2.2.2.2 : Int) ≥ (m.2.2.2.2.1.length : Int))), vB (decide (((((m.2.2.2.2.1)[i14_.toNat]!.2.2.2.1)[k16_.toNat]!).2.2.2.2 : Int) ≥ (m.2.2.2.2.1.length : Int)))] rfl <| Aa <| hK117 _ _ ?_
    refine Cd [(1, vP b2 0), (7, vI i14_), (8, vI k16_), (167, vB (decide (((((m.2.2.2.2.1)[i14_.toNat]!.2.2.2.1)[k16_.toNat]!).2.2.2.2 : Int) ≥ (m.2.2.2.2.1.length : Int))))] rfl (fun T => ?_)
    refine Af _ rfl (fun hc137 => ?_) (fun hc137 => ?_)
    ·replace hM := iD hc137 hM
     refine Ad <| r_V (vB false) rfl <| Aa ?_
     cases hM
     exact aR eV1
    replace hM := iF hc137 hM
    refine Ah <| hK116 _ _ ?_
    refine Ax <| r_V (vI k16_) rfl ?_
    obtain ⟨ck139, hM⟩ := Ae hM
    refine r_X (vI (k16_ + 1)) rfl (AR rfl ck139.1 ck139.2) rfl <| r_V (vI (k16_ + 1)) rfl <| Aa <| fg _ (Sub.of (suK _ suN)) ?_
    exact ⟨n104 + 1, by omega, n104, (k16_ + 1), hM, Ak (by first | rfl | (simp only [hg127]; done) | (simp only [hg127]; rfl) | (simp only [Bc]; rfl)) rfl, rfl⟩
   replace hM := iD hg127 hM
   refine r_R [none, none, none, none, none, none, none, none, none, none, none, none, none, none, vB true] rfl <| Aa <| hK117 _ _ ?_
   refine Cd [(1, vP b2 0), (7, vI i14_), (8, vI k16_), (167, vB true)] rfl (fun T => ?_)
   refine Af true rfl (fun _ => ?_) (fun h_ => nomatch h_)
   refine Ad <| r_V (vB false) rfl <| Aa ?_
   cases hM
   exact aR eV1
  replace hM := iF hc115 hM
  refine AM <| hK102 _ _ ?_
  refine Ax <| r_V (vI i14_) rfl ?_
  obtain ⟨ck141, hM⟩ := Ae hM
  refine r_X (vI (i14_ + 1)) rfl (AR rfl ck141.1 ck141.2) rfl <| r_V (vI (i14_ + 1)) rfl <| Aa <| fg _ (Sub.of (suK _ suN)) ?_
  exact ⟨n98 + 1, by omega, n98, (i14_ + 1), hM, Ak rfl rfl, rfl⟩
 replace hM := iF hc101 hM
 refine AM <| hK96 _ _ ?_
 refine Ai fun K142 hK142 => Ad <| r_V (vI 0) rfl <| Aa <| Ap <| AS (fun tt ll nn => ∃ (n144 : Nat) (i18_ : Int), (Kl N m n144 i18_ = some r) ∧ Is [(1, vP b2 0), (9, vI i18_)] [(b2, 35, (Ac m mv))] tt ll ∧ nn = n144 + 1) (N + 1) ?_ ?_
 ·exact ⟨N, 0, hM, Ak rfl rfl, rfl⟩
 clear hM; rintro t l _ ⟨n144, i18_, hM, ⟨⟨T, rfl⟩, rfl⟩, rfl⟩
 rcases n144 with _ | n144
 ·exact absurd hM (by simp [Kl])
 rw [Kl] at hM
 refine Ai fun K145 hK145 => Ad <| r_R [vI i18_, vP b2 7] rfl <| rl mv.2.2.2.2.2.2.1 0 <| r_W (vI (m.2.2.2.2.2.2.2.1.length : Int)) rfl (Aj rfl rfl rfl (RdN.shp hm.2.2.2.2.2.2.1)) <| r_V (vB (decide (i18_ < (m.2.2.2.2.2.2.2.1.length : Int)))) rfl <| Aa <| Af _ rfl (fun hc147 => ?_) (fun hc147 => ?_)
 ·replace hM := iD hc147 hM
  refine Ah <| hK145 _ _ ?_
  refine Ai fun K148 hK148 => Ap <| Ad <| r_V (vP b2 7) rfl <| rl mv.2.2.2.2.2.2.1 0 <| r_V (vI i18_) rfl ?_
  obtain ⟨ck150, hM⟩ := Ae hM
  obtain ⟨_, ⟨s151, s152, hs153, hs154, rfl⟩, hat155⟩ := RdN.at (E := encr_79) hm.2.2.2.2.2.2.1 (AA ck150)
  refine r_W (elA mv.2.2.2.2.2.2.1 (i18_.toNat * 6)) rfl (AD (An rfl rfl rfl (RdN.shp hm.2.2.2.2.2.2.1) ck150)) <| Eo (vA #[vI ((m.2.2.2.2.2.2.2.1)[i18_.toNat]!.1), vI ((m.2.2.2.2.2.2.2.1)[i18_.toNat]!.2.1), s151, s152, vI ((m.2.2.2.2.2.2.2.1)[i18_.toNat]!.2.2.2.2.1), vI ((m.2.2.2.2.2.2.2.1)[i18_.toNat]!.2.2.2.2.2)]) (vs := [vI ((m.2.2.2.2.2.2.2.1)[i18_.toNat]!.1), vI ((m.2.2.2.2.2.2.2.1)[i18_.toNat]!.2.1), s151, s152, vI ((m.2.2.2.2.2.2.2.1)[i18_.toNat]!.2.2.2.2.1), vI ((m.2.2.2.2.2.2.2.1)[i18_.toNat]!.2.2.2.2.2)]) (i18_.toNat * 6) 0 rfl rfl (fun o w z_ => At.mono z_.ro_cell hat155) rfl ?_
  refine r_a (79, #[vI 0, vI 0, nS, nS, vI 0, vI 0]) rfl rfl rfl (fun b156 => ?_) (.inr rfl)
  refine r_s [(b156, 79, #[vI ((m.2.2.2.2.2.2.2.1)[i18_.toNat]!.1), vI ((m.2.2.2.2.2.2.2.1)[i18_.toNat]!.2.1), s151, s152, vI ((m.2.2.2.2.2.2.2.1)[i18_.toNat]!.2.2.2.2.1), vI ((m.2.2.2.2.2.2.2.1)[i18_.toNat]!.2.2.2.2.2)]), (b2, 35, (Ac m mv))] 0 _ _ _ _ _ (#[vI ((m.2.2.2.2.2.2.2.1)[i18_.toNat]!.1), vI ((m.2.2.2.2.2.2.2.1)[i18_.toNat]!.2.1), s151, s152, vI ((m.2.2.2.2.2.2.2.1)[i18_.toNat]!.2.2.2.2.1), vI ((m.2.2.2.2.2.2.2.1)[i18_.toNat]!.2.2.2.2.2)]) rfl rfl rfl rfl (.ofS rfl rfl (Ao rfl (Ao rfl (Ao (Shp.one (Rd.shp hs153)) (Ao (Shp.one (Rd.shp hs154)) (Ao rfl (Ao rfl Bi))))))) rfl rfl <| Aa ?_
  refine Ai fun K157 hK157 => Ax <| r_V (vP b156 4) rfl <| rl (vI ((m.2.2.2.2.2.2.2.1)[i18_.toNat]!.2.2.2.2.1)) 0 <| r_R [vI i18_, vB (decide (((m.2.2.2.2.2.2.2.1)[i18_.toNat]!.2.2.2.2.1 : Int) ≤ i18_)), vB (decide (((m.2.2.2.2.2.2.2.1)[i18_.toNat]!.2.2.2.2.1 : Int) ≤ i18_))] rfl ?_
  rcases hg158 : (decide (((m.2.2.2.2.2.2.2.1)[i18_.toNat]!.2.2.2.2.1 : Int) ≤ i18_)) with _ | _
  ·replace hM := iF hg158 hM
   refine r_R [vP b156 4] rfl <| r_y rfl <| rl (vI ((m.2.2.2.2.2.2.2.1)[i18_.toNat]!.2.2.2.2.1)) 0 <| r_R [vP b2 7] rfl <| r_y rfl <| rl mv.2.2.2.2.2.2.1 1 <| r_y rfl <| r_W (vI (m.2.2.2.2.2.2.2.1.length : Int)) rfl (Aj rfl rfl rfl (RdN.shp hm.2.2.2.2.2.2.1)) <| r_R [vB (decide (((m.2.2.2.2.2.2.2.1)[i18_.toNat]!.2.2.2.2.1 : Int) > (m.2.2.2.2.2.2.2.1.length : Int))), vB (decide (((m.2.2.2.2.2.2.2.1)[i18_.toNat]!.2.2.2.2.1 : Int) > (m.2.2.2.2.2.2.2.1.length : Int))), vB (decide (((m.2.2.2.2.2.2.2.1)[i18_.toNat]!.2.2.2.2.1 : Int) > (m.2.2.2.2.2.2.2.1.length : Int)))] rfl ?_
   rcases hg159 : (decide (((m.2.2.2.2.2.2.2.1)[i18_.toNat]!.2.2.2.2.1 : Int) > (m.2.2.2.2.2.2.2.1.length : Int))) with _ | _
   ·replace hM := iF hg159 hM
    refine r_R [vP b156 0] rfl <| r_y rfl <| rl (vI ((m.2.2.2.2.2.2.2.1)[i18_.toNat]!.1)) 0 <| r_R [vB (((m.2.2.2.2.2.2.2.1)[i18_.toNat]!.1 : Int) == 0), vB (((m.2.2.2.2.2.2.2.1)[i18_.toNat]!.1 : Int) == 0)] rfl ?_
    rcases hg160 : (((m.2.2.2.2.2.2.2.1)[i18_.toNat]!.1 : Int) == 0) with _ | _
    ·replace hM := iG hg160 hM
     refine r_R [none, none, none, none] rfl <| DC rfl rfl <| DC rfl rfl <| DC rfl rfl <| DC rfl rfl <| DC rfl rfl <| DC rfl rfl <| r_R [none, vB false, vB false] rfl <| Aa <| hK157 _ _ ?_
     refine Cd [(1, vP b2 0), (9, vI i18_), (209, vB false)] rfl (fun T => ?_)
     refine Af false rfl (fun h_ => nomatch h_) (fun _ => ?_)
     refine Ah <| hK148 _ _ ?_
     refine Ax <| r_V (vI i18_) rfl ?_
     obtain ⟨ck161, hM⟩ := Ae hM
     refine r_X (vI (i18_ + 1)) rfl (AR rfl ck161.1 ck161.2) rfl <| r_V (vI (i18_ + 1)) rfl <| Aa <| fg _ (Sub.of (suC _ (suK _ suN))) ?_
     exact ⟨n144 + 1, by omega, n144, (i18_ + 1), hM, Ak (by first | rfl | (simp only [hg158, hg159, hg160]; done) | (simp only [hg158, hg159, hg160]; rfl) | (simp only [Bc]; rfl)) rfl, rfl⟩
    replace hM := iE hg160 hM
    refine r_R [vP b156 1] rfl <| r_y rfl <| rl (vI ((m.2.2.2.2.2.2.2.1)[i18_.toNat]!.2.1)) 0 <| r_R [vB (decide (((m.2.2.2.2.2.2.2.1)[i18_.toNat]!.2.1 : Int) < 0)), vB (decide (((m.2.2.2.2.2.2.2.1)[i18_.toNat]!.2.1 : Int) < 0))] rfl ?_
    rcases hg162 : (decide (((m.2.2.2.2.2.2.2.1)[i18_.toNat]!.2.1 : Int) < 0)) with _ | _
    ·replace hM := iF hg162 hM
     refine r_R [vP b156 1] rfl <| r_y rfl <| rl (vI ((m.2.2.2.2.2.2.2.1)[i18_.toNat]!.2.1)) 0 <| r_R [vP b2 6] rfl <| r_y rfl <| rl mv.2.2.2.2.2.1 1 <| r_y rfl <| r_W (vI (m.2.2.2.2.2.2.1.length : Int)) rfl (Aj rfl rfl rfl (RdN.shp hm.2.2.2.2.2.1)) ?_
     refine r_R [vB (decide (((m.2.2.2.2.2.2.2.1)[i18_.toNat]!.2.1 : Int) ≥ (m.2.2.2.2.2.2.1.length : Int))), vB (decide (((m.2.2.2.2.2.2.2.1)[i18_.toNat]!.2.1 : Int) ≥ (m.2.2.2.2.2.2.1.length : Int))), vB (decide (((m.2.2.2.2.2.2.2.1)[i18_.toNat]!.2.1 : Int) ≥ (m.2.2.2.2.2.2.1.length : Int))), vB (decide (((m.2.2.2.2.2.2.2.1)[i18_.toNat]!.2.1 : Int) ≥ (m.2.2.2.2.2.2.1.length : Int)))] rfl <| Aa <| hK157 _ _ ?_
     refine Cd [(1, vP b2 0), (9, vI i18_), (209, vB (decide (((m.2.2.2.2.2.2.2.1)[i18_.toNat]!.2.1 : Int) ≥ (m.2.2.2.2.2.2.1.length : Int))))] rfl (fun T => ?_)
     refine Af _ rfl (fun hc163 => ?_) (fun hc163 => ?_)
     ·replace hM := iD hc163 hM
      refine Ad <| r_V (vB false) rfl <| Aa ?_
      cases hM
      exact aR eV1
     replace hM := iF hc163 hM
     refine Ah <| hK148 _ _ ?_
     refine Ax <| r_V (vI i18_) rfl ?_
     obtain ⟨ck165, hM⟩ := Ae hM
     refine r_X (vI (i18_ + 1)) rfl (AR rfl ck165.1 ck165.2) rfl <| r_V (vI (i18_ + 1)) rfl <| Aa <| fg _ (Sub.of (suC _ (suK _ suN))) ?_
     exact ⟨n144 + 1, by omega, n144, (i18_ + 1), hM, Ak (by first | rfl | (simp only [hg158, hg159, hg160, hg162]; done) | (simp only [hg158, hg159, hg160, hg162]; rfl) | (simp only [Bc]; rfl)) rfl, rfl⟩
    replace hM := iD hg162 hM
    refine r_R [none, none, none, none, none, none, vB true, vB true, vB true] rfl <| Aa <| hK157 _ _ ?_
    refine Cd [(1, vP b2 0), (9, vI i18_), (209, vB true)] rfl (fun T => ?_)
    refine Af true rfl (fun _ => ?_) (fun h_ => nomatch h_)
    refine Ad <| r_V (vB false) rfl <| Aa ?_
    cases hM
    exact aR eV1
   replace hM := iD hg159 hM
   refine r_R [none, none, none, none] rfl <| DC rfl rfl <| DC rfl rfl <| DC rfl rfl <| DC rfl rfl <| DC rfl rfl <| DC rfl rfl <| DC rfl rfl <| DC rfl rfl <| DC rfl rfl <| DC rfl rfl <| DC rfl rfl <| r_R [none, vB true] rfl <| Aa <| hK157 _ _ ?_
   refine Cd [(1, vP b2 0), (9, vI i18_), (209, vB true)] rfl (fun T => ?_)
   refine Af true rfl (fun _ => ?_) (fun h_ => nomatch h_)
   refine Ad <| r_V (vB false) rfl <| Aa ?_
   cases hM
   exact aR eV1
  replace hM := iD hg158 hM
  refine r_R [none, none, none, none, none, none, vB true, vB true, none, none, none, none] rfl <| DC rfl rfl <| DC rfl rfl <| DC rfl rfl <| DC rfl rfl <| DC rfl rfl <| DC rfl rfl <| DC rfl rfl <| DC rfl rfl <| DC rfl rfl <| DC rfl rfl <| DC rfl rfl <| r_R [none, vB true] rfl <| Aa <| hK157 _ _ ?_
  refine Cd [(1, vP b2 0), (9, vI i18_), (209, vB true)] rfl (fun T => ?_)
  refine Af true rfl (fun _ => ?_) (fun h_ => nomatch h_)
  refine Ad <| r_V (vB false) rfl <| Aa ?_
  cases hM
  exact aR eV1
 replace hM := iF hc147 hM
 refine AM <| hK142 _ _ ?_
 refine Ai fun K169 hK169 => BB [(some 220, false)] (conG prog [(220, cV (Db N ) fun u0_ => vB u0_)]) <| r_V (vP b2 0) rfl <| rl (vS m.1) 0 <| r_W (vI (m.1.length : Int)) rfl (Il rfl rfl rfl) <| r_R [vB (decide ((m.1.length : Int) > 0)), vB (decide ((m.1.length : Int) > 0))] rfl ?_
 rcases hg170 : (decide ((m.1.length : Int) > 0)) with _ | _
 ·replace hM := iF hg170 hM
  refine r_R [none, none, none, vB false, vB false, none, vB false, vB false] rfl <| Aa <| hK169 _ _ ?_
  cases hM
  exact aR eV1
 replace hM := iD hg170 hM
 refine r_R [vP b2 15] rfl <| r_y rfl <| rl (vI m.2.2.2.2.2.2.2.2.2.2.2.2.2.2.2.1) 0 <| r_R [vB (decide (m.2.2.2.2.2.2.2.2.2.2.2.2.2.2.2.1 ≥ 1)), vB (decide (m.2.2.2.2.2.2.2.2.2.2.2.2.2.2.2.1 ≥ 1)), vB (decide (m.2.2.2.2.2.2.2.2.2.2.2.2.2.2.2.1 ≥ 1))] rfl ?_
 rcases hg171 : (decide (m.2.2.2.2.2.2.2.2.2.2.2.2.2.2.2.1 ≥ 1)) with _ | _
 ·replace hM := iF hg171 hM
  refine r_R [none, vB false, vB false] rfl <| Aa <| hK169 _ _ ?_
  cases hM
  exact aR eV1
 replace hM := iD hg171 hM
 refine r_y rfl ?_
 obtain ⟨r172, hr173, hM⟩ := Ab hM
 refine rg (vB r172) (cF TK) (fun o w z_ => LC N  _ hr173 z_.view ) (AF hr173) <| r_R [vB r172, vB r172] rfl <| Aa <| hK169 _ _ ?_
 cases hM
 exact aR eV1
end Go.Proofs.YtjmdbbnnpmmpiaaGreatDoor
