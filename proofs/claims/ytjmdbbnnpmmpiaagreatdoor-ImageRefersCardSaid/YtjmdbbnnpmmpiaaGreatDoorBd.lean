import Derived.Test.YtjmdbbnnpmmpiaaGreatDoorBc
namespace Go.Proofs.YtjmdbbnnpmmpiaaGreatDoor
open Go Go.RowKit Go.Eng _root_.Go.Proofs.Tryz
set_option maxRecDepth 100000
set_option maxHeartbeats 8000000
abbrev La (b : Nat) (x0 : BitVec 64) (x1 : BitVec 64) : List Bl := [(b, 307, #[U x0, U x1])]
abbrev KZ (b : Nat) (x0 : Int) (x1 : BitVec 64) (x2 : BitVec 64) (x3 : Int) (x4 : BitVec 64) (x5 : BitVec 64) (x6 : Int) : List Bl := [(b, 66, #[vI x0, U x1, U x2, vI x3, U x4, U x5, vI x6])]
abbrev Np (b : Nat) (x0 : Int) (x1 : Int) (x2 : Int) : List Bl := [(b, 168, #[vI x0, vI x1, vI x2])]
abbrev Rq (b : Nat) (x0 : Int) : List Bl := [(b, 166, #[vI x0])]
abbrev FS (b : Nat) (x0 : List UInt8) (x1 : Value) (x2 : Value) (x3 : Value) (x4 : Int) : List Bl := [(b, 64, #[vS x0, x1, x2, x3, vI x4])]
abbrev MF (b : Nat) (x0 : Value) : List Bl := [(b, 61, #[x0])]
abbrev Qn (b : Nat) (x0 : Int) : List Bl := [(b, 3, #[vI x0])]
abbrev No (b : Nat) (x0 : Value) : List Bl := [(b, 197, #[x0])]
abbrev Ut (b : Nat) (x0 : Value) : List Bl := [(b, 81, #[x0])]
abbrev Qm (b : Nat) (x0 : List UInt8) (x1 : Value) (x2 : Value) : List Bl := [(b, 53, #[vS x0, x1, x2])]
abbrev LG (b : Nat) (x0 : Int) (x1 : Int) : List Bl := [(b, 370, #[vI x0, vI x1])]
abbrev Hh (b : Nat) (x0 : Int) (x1 : Int) (x2 : Int) (x3 : Int) (x4 : BitVec 64) (x5 : BitVec 64) : List Bl := [(b, 59, #[vI x0, vI x1, vI x2, vI x3, U x4, U x5])]
def IM (_ : Nat) (a : BitVec 128) : Option (BitVec 128) := some ((~~~(hi a)) ++ (~~~(lo a)))
theorem SW (N : Nat) (a r : BitVec 128) (hM : IM N a = some r) : Gives prog 244 #[vA #[U (hi a), U (lo a)]] (vA #[U (hi r), U (lo r)]) := by
 unfold IM at hM
 refine AC follows func244 rfl 10 rfl _ fz1 (fun base0_ => ?_)
 refine Ad <| r_a (307, #[U (hi a), U (lo a)]) rfl rfl rfl (fun b2 => ?_) (.inr rfl)
 refine r_a (307, #[U (0#64), U (0#64)]) rfl rfl rfl (fun b3 => ?_) (.inr rfl)
 refine Aa <| Ad <| r_V (vP b2 0) rfl <| rl (U (hi a)) 1 <| r_X (U (~~~(hi a))) rfl (cY (hi a)) rfl <| r_V (vP b2 1) rfl <| rl (U (lo a)) 1 <| r_X (U (~~~(lo a))) rfl (cY (lo a)) rfl <| r_W (vA #[U (~~~(hi a)), U (~~~(lo a))]) rfl (AE rfl rfl rfl rfl) <| r_s [(b3, 307, #[U (~~~(hi a)), U (~~~(lo a))]), (b2, 307, #[U (hi a), U (lo a)])] 0 _ _ _ _ _ (#[U (~~~(hi a)), U (~~~(lo a))]) rfl rfl rfl rfl (.of rfl rfl) rfl rfl <| Aa ?_
 cases hM
 refine AW (fun hn => CY (v0 := vA #[U (~~~(hi a)), U (~~~(lo a))]) (by first | rfl | (simp only [Bc]; done) | simp only [Bc]) (Cy (AZ hn 0 rfl rfl rfl)))
def IN (_ : Nat) (a : BitVec 128) (b : BitVec 128) : Option (BitVec 128) := some ((hi a &&& hi b) ++ (lo a &&& lo b))
theorem SX (N : Nat) (a b r : BitVec 128) (hM : IN N a b = some r) : Gives prog 242 #[vA #[U (hi a), U (lo a)], vA #[U (hi b), U (lo b)]] (vA #[U (hi r), U (lo r)]) := by
 unfold IN at hM
 refine AC follows func242 rfl 16 rfl _ fz2 (fun base0_ => ?_)
 refine Ad <| r_a (307, #[U (hi a), U (lo a)]) rfl rfl rfl (fun b2 => ?_) (.inr rfl)
 refine r_a (307, #[U (hi b), U (lo b)]) rfl rfl rfl (fun b3 => ?_) (.inr rfl)
 refine r_a (307, #[U (0#64), U (0#64)]) rfl rfl rfl (fun b4 => ?_) (.inr rfl)
 refine Aa <| Ad <| r_V (vP b2 0) rfl <| rl (U (hi a)) 2 <| r_V (vP b3 0) rfl <| rl (U (hi b)) 1 <| r_X (U (hi a &&& hi b)) rfl (cZ (hi a) (hi b)) rfl <| r_V (vP b2 1) rfl <| rl (U (lo a)) 2 <| r_V (vP b3 1) rfl <| rl (U (lo b)) 1 <| r_X (U (lo a &&& lo b)) rfl (cZ (lo a) (lo b)) rfl <| r_W (vA #[U (hi a &&& hi b), U (lo a &&& lo b)]) rfl (AE rfl rfl rfl rfl) ?_
 refine r_s [(b4, 307, #[U (hi a &&& hi b), U (lo a &&& lo b)]), (b3, 307, #[U (hi b), U (lo b)]), (b2, 307, #[U (hi a), U (lo a)])] 0 _ _ _ _ _ (#[U (hi a &&& hi b), U (lo a &&& lo b)]) rfl rfl rfl rfl (.of rfl rfl) rfl rfl <| Aa ?_
 cases hM
 refine AW (fun hn => CY (v0 := vA #[U (hi a &&& hi b), U (lo a &&& lo b)]) (by first | rfl | (simp only [Bc]; done) | simp only [Bc]) (Cy (AZ hn 0 rfl rfl rfl)))
def Gj (_ : Nat) (w : Int) : Option Bool := if w ≥ 1 then some (decide (w ≤ 128)) else some false
theorem MN (N : Nat) (w : Int) (r) (hM : Gj N w = some r) : Gives prog 292 #[vI w] (vB r) := by
 unfold Gj at hM
 refine AC follows func292 rfl 9 rfl _ fz1 (fun base0_ => ?_)
 refine Ad <| r_V (vB false) rfl <| Aa <| Ai fun K2 hK2 => Ax <| r_R [vI w, vB (decide (w ≥ 1)), vB (decide (w ≥ 1))] rfl ?_
 rcases hg3 : (decide (w ≥ 1)) with _ | _
 ·replace hM := iF hg3 hM
  refine r_R [none, none, vB false, vB false] rfl <| Aa <| hK2 _ _ ?_
  cases hM
  exact aR eE1
 replace hM := iD hg3 hM
 refine r_R [vI w, vB (decide (w ≤ 128)), vB (decide (w ≤ 128)), vB (decide (w ≤ 128))] rfl <| Aa <| hK2 _ _ ?_
 cases hM
 exact aR eE1
def HB (N : Nat) (v_0 : Int) (v_1 : BitVec 128) : Option Bool := (Gj N v_0).bind fun r4 => if r4 = true then (EM N v_0 v_1).bind fun r7 => some (decide ((((len128 r7 : Nat) : Int) : Int) ≤ v_0)) else some false
theorem Pi (N : Nat) (v_0 : Int) (v_1 : BitVec 128) (r) (hM : HB N v_0 v_1 = some r) : Gives prog 280 #[vA #[vI v_0, U (hi v_1), U (lo v_1)]] (vB r) := by
 unfold HB at hM
 refine AC follows func280 rfl 14 rfl _ fz1 (fun base0_ => ?_)
 refine Ad <| r_a (57, #[vI v_0, U (hi v_1), U (lo v_1)]) rfl rfl rfl (fun b2 => ?_) (.inr rfl)
 refine r_V (vB false) rfl <| Aa <| Ai fun K3 hK3 => Ge [] (by decide +kernel) (fun hn => Be) <| r_V (vP b2 0) rfl <| rl (vI v_0) 0 ?_
 obtain ⟨r4, hr5, hM⟩ := Ab hM
 refine rc (vB r4) (cF Yb) (MN N v_0 _ hr5) <| r_V (vB r4) rfl ?_
 rcases hg6 : r4 with _ | _
 ·replace hM := iB hg6 hM
  refine r_R [none, none, none, none, none, none, vB false, vB false] rfl <| Aa <| hK3 _ _ ?_
  cases hM
  exact aR eE1
 replace hM := ifp hg6 hM
 refine r_y rfl <| rl (vA #[vI v_0, U (hi v_1), U (lo v_1)]) 0 <| r_y rfl ?_
 obtain ⟨r7, hr8, hM⟩ := Ab hM
 refine rc (vA #[U (hi r7), U (lo r7)]) (cF Od) (Kr N v_0 v_1 _ hr8) <| r_y rfl <| rc (vI ((len128 r7 : Nat) : Int)) (cF Ya) (fD r7) <| r_R [vP b2 0] rfl <| r_y rfl <| rl (vI v_0) 0 <| r_R [vB (decide ((((len128 r7 : Nat) : Int) : Int) ≤ v_0)), vB (decide ((((len128 r7 : Nat) : Int) : Int) ≤ v_0)), vB (decide ((((len128 r7 : Nat) : Int) : Int) ≤ v_0))] rfl <| Aa <| hK3 _ _ ?_
 cases hM
 exact aR eE1
def Bh (N : Nat) (v_0 : Int) (v_1 : BitVec 128) (w : Int) : Option Bool := if v_0 = w then (HB N v_0 v_1).bind fun r5 => some r5 else some false
theorem It (N : Nat) (v_0 : Int) (v_1 : BitVec 128) (w : Int) (r) (hM : Bh N v_0 v_1 w = some r) : Gives prog 245 #[vA #[vI v_0, U (hi v_1), U (lo v_1)], vI w] (vB r) := by
 unfold Bh at hM
 refine AC follows func245 rfl 13 rfl _ fz2 (fun base0_ => ?_)
 refine Ad <| r_a (57, #[vI v_0, U (hi v_1), U (lo v_1)]) rfl rfl rfl (fun b2 => ?_) (.inr rfl)
 refine r_V (vB false) rfl <| Aa <| Ai fun K3 hK3 => Ax <| r_V (vP b2 0) rfl <| rl (vI v_0) 0 <| r_R [vI w, vB (v_0 == w), vB (v_0 == w)] rfl ?_
 rcases hg4 : (v_0 == w) with _ | _
 ·replace hM := iG hg4 hM
  refine r_R [none, none, vB false, vB false] rfl <| Aa <| hK3 _ _ ?_
  cases hM
  exact aR eE1
 replace hM := iE hg4 hM
 refine r_y rfl <| rl (vA #[vI v_0, U (hi v_1), U (lo v_1)]) 0 <| r_y rfl ?_
 obtain ⟨r5, hr6, hM⟩ := Ab hM
 refine rc (vB r5) (cF Su) (Pi N v_0 v_1 _ hr6) <| r_R [vB r5, vB r5] rfl <| Aa <| hK3 _ _ ?_
 cases hM
 exact aR eE1
def EU (N : Nat) (l' : List ((List UInt8) × (List (Int × Int)) × (List (Int × Int × Int)) × (List (Int × BitVec 128 × Int × BitVec 128 × Int)) × Int)) (i : Int) : Option Bool := ck ((-9223372036854775808 ≤ ((l'.length : Int) - 1) ∧ ((l'.length : Int) - 1) ≤ 9223372036854775807)) ((Az N i 0 ((l'.length : Int) - 1)).bind fun r4 => some r4)
theorem Nw (N : Nat) (l' : List ((List UInt8) × (List (Int × Int)) × (List (Int × Int × Int)) × (List (Int × BitVec 128 × Int × BitVec 128 × Int)) × Int)) (i : Int) (r) (hM : EU N l' i = some r) (ro : Ro) (l'v : Value) (hl' : RdN encr_64 ro l'v l') : Does prog 250 #[l'v, vI i] ro [] (pV (vB r)) := by
 unfold EU at hM
 refine Aq follows func250 rfl 10 rfl _ fz2 (fun base0_ => ?_)
 refine Ad <| r_V (vB false) rfl <| Aa <| Ad <| r_R [vI i, l'v] rfl <| r_W (vI (l'.length : Int)) rfl (Aj rfl rfl rfl (RdN.shp hl')) ?_
 obtain ⟨ck3, hM⟩ := Ae hM
 refine r_X (vI ((l'.length : Int) - 1)) rfl (AR rfl ck3.1 ck3.2) rfl ?_
 obtain ⟨r4, hr5, hM⟩ := Ab hM
 refine rc (vB r4) (cF BP) (AI N i 0 ((l'.length : Int) - 1) _ hr5) <| r_V (vB r4) rfl <| Aa ?_
 cases hM
 exact aR eV1
def Bg (N : Nat) (c : Al) (n : Int) : Option Int := (EU N c.2.2.2.2.1 n).bind fun r4 => if r4 = true then (Ag N true 5).bind fun r12 => some r12 else if n = -1 then (Ag N true 5).bind fun r10 => some r10 else (Ag N (n == -2) 5).bind fun r8 => some r8
theorem Jv (N : Nat) (c : Al) (n r : Int) (hM : Bg N c n = some r) (ro : Ro) (cv : AP) (hc : Bun35R ro cv c) : Does prog 185 #[vA (Ac c cv), vI n] ro [] (pV (vI r)) := by
 unfold Bg at hM
 refine Aq follows func185 rfl 19 rfl _ fz2 (fun base0_ => ?_)
 refine Ad <| r_a (92, (Ac c cv)) rfl rfl rfl (fun b2 => ?_) (.inr rfl)
 refine r_V (vI 0) rfl <| Aa <| Ai fun K3 hK3 => BB [(some 9, false)] (conG prog [(9, cV (EU N c.2.2.2.2.1 n) fun u0_ => vB u0_)]) <| r_R [vP b2 0, vP b2 4] rfl <| rl cv.2.2.2.1 0 <| r_V (vI n) rfl ?_
 obtain ⟨r4, hr5, hM⟩ := Ab hM
 refine rg (vB r4) (cF YB) (fun o w z_ => Nw N c.2.2.2.2.1 n _ hr5 z_.view cv.2.2.2.1 (RdN.mono z_.ro_cell hc.2.2.2.1)) (AF hr5) <| r_V (vB r4) rfl ?_
 rcases hg6 : r4 with _ | _
 ·replace hM := iB hg6 hM
  refine r_R [vI n, vB (n == -1), vB (n == -1), vB (n == -1)] rfl ?_
  rcases hg7 : (n == -1) with _ | _
  ·replace hM := iG hg7 hM
   refine r_R [vI n, vB (n == -2), vB (n == -2)] rfl ?_
   obtain ⟨r8, hr9, hM⟩ := Ab hM
   refine rc (vI r8) (cF AJ) (AB N (n == -2) 5 _ hr9) <| r_V (vI r8) rfl <| Aa <| hK3 _ _ ?_
   cases hM
   exact aR eV1
  replace hM := iE hg7 hM
  refine r_R [none, none, vB true] rfl ?_
  obtain ⟨r10, hr11, hM⟩ := Ab hM
  refine rc (vI r10) (cF AJ) (AB N true 5 _ hr11) <| r_V (vI r10) rfl <| Aa <| hK3 _ _ ?_
  cases hM
  exact aR eV1
 replace hM := ifp hg6 hM
 refine r_R [none, none, vB true, vB true, none, none, vB true] rfl ?_
 obtain ⟨r12, hr13, hM⟩ := Ab hM
 refine rc (vI r12) (cF AJ) (AB N true 5 _ hr13) <| r_V (vI r12) rfl <| Aa <| hK3 _ _ ?_
 cases hM
 exact aR eV1
def CA (N : Nat) (_ : Int) (x_0 : Int) (x_1 : BitVec 128) (x_2 : Int) (x_3 : BitVec 128) (x_4 : Int) (c2_ : List (Int × Int × Int)) (c3_ : Int) (c4_ : Al) : Option Int := (EM N x_0 x_1).bind fun r4 => (EM N x_2 x_3).bind fun r6 => (IM N r6).bind fun r8 => (IN N r4 r8).bind fun r10 => (Ag N (decide ((c2_.length : Int) > 0)) 4).bind fun r14 => (Bh N x_0 x_1 c3_).bind fun r16 => if r16 = true then (Bh N x_2 x_3 c3_).bind fun r30 => (Ag N r30 9).bind fun r32 => (Ag N (r10 == ((0#64) ++ (0#64))) 14).bind fun r34 => (Bg N c4_ x_4).bind fun r36 => (As N ([r14, r32, r34, r36])).bind fun r41 => some r41 else (Ag N false 9).bind fun r19 => (Ag N (r10 == ((0#64) ++ (0#64))) 14).bind fun r21 => (Bg N c4_ x_4).bind fun r23 => (As N ([r14, r19, r21, r23])).bind fun r28 => some r28
theorem My (N : Nat) (x x_0 : Int) (x_1 : BitVec 128) (x_2 : Int) (x_3 : BitVec 128) (x_4 : Int) (c2_ : List (Int × Int × Int)) (c3_ : Int) (c4_ : Al) (r) (hM : CA N x x_0 x_1 x_2 x_3 x_4 c2_ c3_ c4_ = some r) (ro : Ro) (bc2_ : Nat) (c2_v : Value) (hc2_ : Rd enc_168 ro c2_v c2_) (hbc2_ : Blk ro bc2_ [c2_v]) (bc3_ : Nat) (hbc3_ : Blk ro bc3_ [vI c3_]) (bc4_ : Nat) (c4_v : AP) (hc4_ : Bun35R ro c4_v c4_) (hbc4_ : Blk ro bc4_ (Ch c4_ c4_v)) : Does prog 241 #[vI x, vA #[vI x_0, U (hi x_1), U (lo x_1), vI x_2, U (hi x_3), U (lo x_3), vI x_4], vP bc2_ 0, vP bc3_ 0, vP bc4_ 0] ro [] (pV (vI r)) := by
 unfold CA at hM
 refine Aq follows func241 rfl 42 rfl _ fz5 (fun base0_ => ?_)
 refine Ad <| r_a (66, #[vI x_0, U (hi x_1), U (lo x_1), vI x_2, U (hi x_3), U (lo x_3), vI x_4]) rfl rfl rfl (fun b2 => ?_) (.inr rfl)
 refine r_V (vI 0) rfl <| Aa <| Ai fun K3 hK3 => Ge [] (by decide +kernel) (fun hn => Be) <| r_V (vP b2 0) rfl <| rl (vA #[vI x_0, U (hi x_1), U (lo x_1)]) 0 ?_
 obtain ⟨r4, hr5, hM⟩ := Ab hM
 refine rc (vA #[U (hi r4), U (lo r4)]) (cF Od) (Kr N x_0 x_1 _ hr5) <| r_V (vP b2 3) rfl <| rl (vA #[vI x_2, U (hi x_3), U (lo x_3)]) 0 ?_
 obtain ⟨r6, hr7, hM⟩ := Ab hM
 refine rc (vA #[U (hi r6), U (lo r6)]) (cF Od) (Kr N x_2 x_3 _ hr7) ?_
 obtain ⟨r8, hr9, hM⟩ := Ab hM
 refine rc (vA #[U (hi r8), U (lo r8)]) (cF YG) (SW N r6 _ hr9) ?_
 obtain ⟨r10, hr11, hM⟩ := Ab hM
 refine rc (vA #[U (hi r10), U (lo r10)]) (cF YH) (SX N r4 r8 _ hr11) <| r_a (307, #[U (0#64), U (0#64)]) rfl rfl rfl (fun b12 => ?_) (.inl rfl)
 refine ge [(b12, 307, #[U (hi r10), U (lo r10)]), (b2, 66, #[vI x_0, U (hi x_1), U (lo x_1), vI x_2, U (hi x_3), U (lo x_3), vI x_4])] 0 _ _ _ (#[U (0#64), U (0#64)]) (#[U (hi r10), U (lo r10)]) (#[U (hi r10), U (lo r10)]) rfl rfl rfl rfl rfl (.of rfl rfl) rfl rfl <| Aa <| hK3 _ _ ?_
 refine Ai fun K13 hK13 => ?_
 refine Ck [(some 39, false), (some 40, false), (some 41, false)] (conG prog [(39, cV (Bg N c4_ x_4) fun u0_ => vI u0_), (41, fun _ _ v_ L_ U_ => (∀ u0_, Ag N (decide ((c2_.length : Int) > 0)) 4 = some u0_ → ∀ u1_, Bh N x_0 x_1 c3_ = some u1_ → (if u1_ = true then (1 : Nat) else 0) = 0 → ∀ u3_, Ag N false 9 = some u3_ → ∀ u4_, Ag N (r10 == ((0#64) ++ (0#64))) 14 = some u4_ → ∀ u5_, Bg N c4_ x_4 = some u5_ → ∀ u6_, As N ([u0_, u3_, u4_, u5_]) = some u6_ → (pV (vI u6_)) v_ L_ U_) ∧ (∀ u0_, Ag N (decide ((c2_.length : Int) > 0)) 4 = some u0_ → ∀ u1_, Bh N x_0 x_1 c3_ = some u1_ → (if u1_ = true then (1 : Nat) else 0) = 1 → ∀ u3_, Bh N x_2 x_3 c3_ = some u3_ → ∀ u4_, Ag N u3_ 9 = some u4_ → ∀ u5_, Ag N (r10 == ((0#64) ++ (0#64))) 14 = some u5_ → ∀ u6_, Bg N c4_ x_4 = some u6_ → ∀ u7_, As N ([u0_, u4_, u5_, u6_]) = some u7_ → (pV (vI u7_)) v_ L_ U_))]) [] (by decide +kernel) (fun hn => Be) ?_
 refine CR c2_v (vs := [c2_v]) (o := 0) rfl rfl (AK hbc2_) rfl <| r_W (vI (c2_.length : Int)) rfl (Aj rfl rfl rfl (Rd.shp hc2_)) <| r_V (vB (decide ((c2_.length : Int) > 0))) rfl ?_
 obtain ⟨r14, hr15, hM⟩ := Ab hM
 refine rc (vI r14) (cF AJ) (AB N (decide ((c2_.length : Int) > 0)) 4 _ hr15) <| r_V (vP b2 0) rfl <| rl (vA #[vI x_0, U (hi x_1), U (lo x_1)]) 1 <| CR (vI c3_) (vs := [vI c3_]) (o := 0) rfl rfl (AK hbc3_) rfl ?_
 obtain ⟨r16, hr17, hM⟩ := Ab hM
 refine rc (vB r16) (cF Oc) (It N x_0 x_1 c3_ _ hr17) <| r_V (vB r16) rfl ?_
 rcases hg18 : r16 with _ | _
 ·replace hM := iB hg18 hM
  have hq18 : (if r16 = true then (1 : Nat) else 0) = 0 := (if_neg (Bool.eq_false_iff.1 hg18))
  refine r_R [none, none, none, none, vB false] rfl ?_
  obtain ⟨r19, hr20, hM⟩ := Ab hM
  refine rc (vI r19) (cF AJ) (AB N false 9 _ hr20) <| rl (vA #[U (hi r10), U (lo r10)]) 0 <| r_W (vA #[U (0#64), U (0#64)]) rfl (AE rfl rfl rfl rfl) <| r_W (vB (r10 == ((0#64) ++ (0#64)))) rfl (NT rfl rfl Xr (by have h_ := fun c => NU (c := c) r10 ((0#64) ++ (0#64)); simp only [Bc] at h_; exact h_ _)) ?_
  obtain ⟨r21, hr22, hM⟩ := Ab hM
  refine rc (vI r21) (cF AJ) (AB N (r10 == ((0#64) ++ (0#64))) 14 _ hr22) <| CR (vA (Ac c4_ c4_v)) (vs := (Ch c4_ c4_v)) (o := 0) rfl rfl (AK hbc4_) rfl <| r_V (vP b2 6) rfl <| rl (vI x_4) 1 ?_
  obtain ⟨r23, hr24, hM⟩ := Ab hM
  refine rg (vI r23) (cF Of) (fun o w z_ => Jv N c4_ x_4 _ hr24 z_.view c4_v (Bun35R.mono z_.ro_cell hc4_)) (AF hr24) ?_
  refine Dj (cs0 := [(39, cV (Bg N c4_ x_4) fun u0_ => vI u0_), (41, fun _ _ v_ L_ U_ => (∀ u0_, Ag N (decide ((c2_.length : Int) > 0)) 4 = some u0_ → ∀ u1_, Bh N x_0 x_1 c3_ = some u1_ → (if u1_ = true then (1 : Nat) else 0) = 0 → ∀ u3_, Ag N false 9 = some u3_ → ∀ u4_, Ag N (r10 == ((0#64) ++ (0#64))) 14 = some u4_ → ∀ u5_, Bg N c4_ x_4 = some u5_ → ∀ u6_, As N ([u0_, u3_, u4_, u5_]) = some u6_ → (pV (vI u6_)) v_ L_ U_) ∧ (∀ u0_, Ag N (decide ((c2_.length : Int) > 0)) 4 = some u0_ → ∀ u1_, Bh N x_0 x_1 c3_ = some u1_ → (if u1_ = true then (1 : Nat) else 0) = 1 → ∀ u3_, Bh N x_2 x_3 c3_ = some u3_ → ∀ u4_, Ag N u3_ 9 = some u4_ → ∀ u5_, Ag N (r10 == ((0#64) ++ (0#64))) 14 = some u5_ → ∀ u6_, Bg N c4_ x_4 = some u6_ → ∀ u7_, As N ([u0_, u4_, u5_, u6_]) = some u7_ → (pV (vI u7_)) v_ L_ U_))]) (Ls := [(La b12 (hi r10) (lo r10)), (KZ b2 x_0 (hi x_1) (lo x_1) x_2 (hi x_3) (lo x_3) x_4)]) 38 BK [r14, r19, r21, r23] [vI r14, vI r19, vI r21, vI r23] [vI 0, vI 0, vI 0, vI 0] rfl rfl rfl rfl rfl rfl rfl (by kernel_rfl) (by kernel_rfl) rfl rfl rfl (fun s25 S26 H27 => ?_)
  obtain ⟨r28, hr29, hM⟩ := Ab hM
  refine rg (vI r28) (cF Br) (fun o w z_ => Bb N ([r14, r19, r21, r23]) _ hr29 z_.view s25 ((AN H27 (Aw (Ls := [(La b12 (hi r10) (lo r10)), (KZ b2 x_0 (hi x_1) (lo x_1) x_2 (hi x_3) (lo x_3) x_4), S26]) (k := 2) rfl rfl)) o w z_)) (fun _ _ v_ L_ U_ => ⟨fun h_ => h_.1 _ hr15 _ hr17 hq18 _ hr20 _ hr22 _ hr24 _ hr29, fun h_ => ⟨by intro _ e_; cases Option.some.inj (e_.symm.trans hr15); intro _ e_; cases Option.some.inj (e_.symm.trans hr17); intro e_; first | (cases (e_.symm.trans hq18); done) | (cases (e_.symm.trans hq18); intro _ e_; cases Option.some.inj (e_.symm.trans hr20); intro _ e_; cases Option.some.inj (e_.symm.trans hr22); intro _ e_; cases Option.some.inj (e_.symm.trans hr24); intro _ e_; cases Option.some.inj (e_.symm.trans hr29); exact h_), by intro _ e_; cases Option.some.inj (e_.symm.trans hr15); intro _ e_; cases Option.some.inj (e_.symm.trans hr17); intro e_; first | (cases (e_.symm.trans hq18); done) | (cases (e_.symm.trans hq18); intro _ e_; cases Option.some.inj (e_.symm.trans hr31); intro _ e_; cases Option.some.inj (e_.symm.trans hr33); intro _ e_; cases Option.some.inj (e_.symm.trans hr35); intro _ e_; cases Option.some.inj (e_.symm.trans hr37); intro _ e_; cases Option.some.inj (e_.symm.trans hr42); exact h_)⟩⟩) ?_
  refine r_V (vI r28) rfl <| Aa <| hK13 _ _ ?_
  refine Cd [(7, vI r28)] rfl (fun T => ?_)
  cases hM
  exact aR eV1
 replace hM := ifp hg18 hM
 have hq18 : (if r16 = true then (1 : Nat) else 0) = 1 := (if_pos hg18)
 refine r_R [vP b2 3] rfl <| r_y rfl <| rl (vA #[vI x_2, U (hi x_3), U (lo x_3)]) 1 <| r_y rfl <| CR (vI c3_) (vs := [vI c3_]) (o := 0) rfl rfl (AK hbc3_) rfl <| r_y rfl ?_
 obtain ⟨r30, hr31, hM⟩ := Ab hM
 refine rc (vB r30) (cF Oc) (It N x_2 x_3 c3_ _ hr31) <| r_V (vB r30) rfl ?_
 obtain ⟨r32, hr33, hM⟩ := Ab hM
 refine rc (vI r32) (cF AJ) (AB N r30 9 _ hr33) <| rl (vA #[U (hi r10), U (lo r10)]) 0 <| r_W (vA #[U (0#64), U (0#64)]) rfl (AE rfl rfl rfl rfl) <| r_W (vB (r10 == ((0#64) ++ (0#64)))) rfl (NT rfl rfl Xr (by have h_ := fun c => NU (c := c) r10 ((0#64) ++ (0#64)); simp only [Bc] at h_; exact h_ _)) ?_
 obtain ⟨r34, hr35, hM⟩ := Ab hM
 refine rc (vI r34) (cF AJ) (AB N (r10 == ((0#64) ++ (0#64))) 14 _ hr35) <| CR (vA (Ac c4_ c4_v)) (vs := (Ch c4_ c4_v)) (o := 0) rfl rfl (AK hbc4_) rfl <| r_V (vP b2 6) rfl <| rl (vI x_4) 1 ?_
 obtain ⟨r36, hr37, hM⟩ := Ab hM
 refine rg (vI r36) (cF Of) (fun o w z_ => Jv N c4_ x_4 _ hr37 z_.view c4_v (Bun35R.mono z_.ro_cell hc4_)) (AF hr37) ?_
 refine Dj (cs0 := [(39, cV (Bg N c4_ x_4) fun u0_ => vI u0_), (41, fun _ _ v_ L_ U_ => (∀ u0_, Ag N (decide ((c2_.length : Int) > 0)) 4 = some u0_ → ∀ u1_, Bh N x_0 x_1 c3_ = some u1_ → (if u1_ = true then (1 : Nat) else 0) = 0 → ∀ u3_, Ag N false 9 = some u3_ → ∀ u4_, Ag N (r10 == ((0#64) ++ (0#64))) 14 = some u4_ → ∀ u5_, Bg N c4_ x_4 = some u5_ → ∀ u6_, As N ([u0_, u3_, u4_, u5_]) = some u6_ → (pV (vI u6_)) v_ L_ U_) ∧ (∀ u0_, Ag N (decide ((c2_.length : Int) > 0)) 4 = some u0_ → ∀ u1_, Bh N x_0 x_1 c3_ = some u1_ → (if u1_ = true then (1 : Nat) else 0) = 1 → ∀ u3_, Bh N x_2 x_3 c3_ = some u3_ → ∀ u4_, Ag N u3_ 9 = some u4_ → ∀ u5_, Ag N (r10 == ((0#64) ++ (0#64))) 14 = some u5_ → ∀ u6_, Bg N c4_ x_4 = some u6_ → ∀ u7_, As N ([u0_, u4_, u5_, u6_]) = some u7_ → (pV (vI u7_)) v_ L_ U_))]) (Ls := [(La b12 (hi r10) (lo r10)), (KZ b2 x_0 (hi x_1) (lo x_1) x_2 (hi x_3) (lo x_3) x_4)]) 38 BK [r14, r32, r34, r36] [vI r14, vI r32, vI r34, vI r36] [vI 0, vI 0, vI 0, vI 0] rfl rfl rfl rfl rfl rfl rfl (by kernel_rfl) (by kernel_rfl) rfl rfl rfl (fun s38 S39 H40 => ?_)
 obtain ⟨r41, hr42, hM⟩ := Ab hM
 refine rg (vI r41) (cF Br) (fun o w z_ => Bb N ([r14, r32, r34, r36]) _ hr42 z_.view s38 ((AN H40 (Aw (Ls := [(La b12 (hi r10) (lo r10)), (KZ b2 x_0 (hi x_1) (lo x_1) x_2 (hi x_3) (lo x_3) x_4), S39]) (k := 2) rfl rfl)) o w z_)) (fun _ _ v_ L_ U_ => ⟨fun h_ => h_.2 _ hr15 _ hr17 hq18 _ hr31 _ hr33 _ hr35 _ hr37 _ hr42, fun h_ => ⟨by intro _ e_; cases Option.some.inj (e_.symm.trans hr15); intro _ e_; cases Option.some.inj (e_.symm.trans hr17); intro e_; first | (cases (e_.symm.trans hq18); done) | (cases (e_.symm.trans hq18); intro _ e_; cases Option.some.inj (e_.symm.trans hr20); intro _ e_; cases Option.some.inj (e_.symm.trans hr22); intro _ e_; cases Option.some.inj (e_.symm.trans hr24); intro _ e_; cases Option.some.inj (e_.symm.trans hr29); exact h_), by intro _ e_; cases Option.some.inj (e_.symm.trans hr15); intro _ e_; cases Option.some.inj (e_.symm.trans hr17); intro e_; first | (cases (e_.symm.trans hq18); done) | (cases (e_.symm.trans hq18); intro _ e_; cases Option.some.inj (e_.symm.trans hr31); intro _ e_; cases Option.some.inj (e_.symm.trans hr33); intro _ e_; cases Option.some.inj (e_.symm.trans hr35); intro _ e_; cases Option.some.inj (e_.symm.trans hr37); intro _ e_; cases Option.some.inj (e_.symm.trans hr42); exact h_)⟩⟩) ?_
 refine r_V (vI r41) rfl <| Aa <| hK13 _ _ ?_
 refine Cd [(7, vI r41)] rfl (fun T => ?_)
 cases hM
 exact aR eV1
def EC (N : Nat) (l' : List (Int × BitVec 128 × Int × BitVec 128 × Int)) (ask0_ : List (Int × Int × Int)) (ask1_ : Int) (ask2_ : Al) : Nat → Int → Option (Int × Int)
  | 0, _ => none
  | n8 + 1, x1_ => if x1_ < (l'.length : Int) then ck (0 ≤ x1_ ∧ x1_ < (l'.length : Int)) ((CA N x1_ ((l'[x1_.toNat]!).1) ((l'[x1_.toNat]!).2.1) ((l'[x1_.toNat]!).2.2.1) ((l'[x1_.toNat]!).2.2.2.1) ((l'[x1_.toNat]!).2.2.2.2) ask0_ ask1_ ask2_).bind fun r17 => if (r17 : Int) ≠ 0 then some (x1_, r17) else ck (-9223372036854775808 ≤ (x1_ + 1) ∧ (x1_ + 1) ≤ 9223372036854775807) ((EC N l' ask0_ ask1_ ask2_ n8) (x1_ + 1))) else some (0, 0)
def Gy (N : Nat) (l' : List (Int × BitVec 128 × Int × BitVec 128 × Int)) (most : Int) (ask0_ : List (Int × Int × Int)) (ask1_ : Int) (ask2_ : Al) : Option (Int × Int) := if (l'.length : Int) > most then some (0, 2) else EC N l' ask0_ ask1_ ask2_ N 0
theorem Qu (N : Nat) (l' : List (Int × BitVec 128 × Int × BitVec 128 × Int)) (most : Int) (ask0_ : List (Int × Int × Int)) (ask1_ : Int) (ask2_ : Al) (r) (hM : Gy N l' most ask0_ ask1_ ask2_ = some r) (ro : Ro) (l'v : Value) (hl' : Rd enc_66 ro l'v l') (bask0_ : Nat) (ask0_v : Value) (hask0_ : Rd enc_168 ro ask0_v ask0_) (hbask0_ : Blk ro bask0_ [ask0_v]) (bask1_ : Nat) (hbask1_ : Blk ro bask1_ [vI ask1_]) (bask2_ : Nat) (ask2_v : AP) (hask2_ : Bun35R ro ask2_v ask2_) (hbask2_ : Blk ro bask2_ (Ch ask2_ ask2_v)) : Does prog 182 #[l'v, vI most, vF 241 #[] #[vP bask0_ 0, vP bask1_ 0, vP bask2_ 0]] ro [] (pV (vT #[vI r.1, vI r.2])) := by
 unfold Gy at hM
 refine Aq follows func182 rfl 31 rfl _ fz3 (fun base0_ => ?_)
 refine Ad <| r_R [vI 0, vI 0] rfl <| Aa <| Ai fun K2 hK2 => Ad <| r_V l'v rfl <| r_W (vI (l'.length : Int)) rfl (Aj rfl rfl rfl (Rd.shp hl')) <| r_R [vI most, vB (decide ((l'.length : Int) > most))] rfl <| Aa <| Af _ rfl (fun hc4 => ?_) (fun hc4 => ?_)
 ·replace hM := iD hc4 hM
  refine Ad <| r_R [vI 0, vI 2] rfl <| Aa ?_
  cases hM
  exact aR eV2
 replace hM := iF hc4 hM
 refine Ah <| hK2 _ _ ?_
 refine Ai fun K6 hK6 => Ad <| r_V l'v rfl <| r_W (vI (l'.length : Int)) rfl (Aj rfl rfl rfl (Rd.shp hl')) <| r_V (vI 0) rfl <| Aa <| Ap <| AS (fun tt ll nn => ∃ (n8 : Nat) (x1_ : Int), (EC N l' ask0_ ask1_ ask2_ n8 x1_ = some r) ∧ Is [(2, vF 241 #[] #[vP bask0_ 0, vP bask1_ 0, vP bask2_ 0]), (15, l'v), (16, vI (l'.length : Int)), (17, vI x1_)] [] tt ll ∧ nn = n8 + 1) (N + 1) ?_ ?_
 ·exact ⟨N, 0, hM, Ak rfl rfl, rfl⟩
 clear hM; rintro t l _ ⟨n8, x1_, hM, ⟨⟨T, rfl⟩, rfl⟩, rfl⟩
 rcases n8 with _ | n8
 ·exact absurd hM (by simp [EC])
 rw [EC] at hM
 refine Ad <| r_V (vB (decide (x1_ < (l'.length : Int)))) rfl <| Aa <| Ai fun K10 hK10 => Af _ rfl (fun hc11 => ?_) (fun hc11 => ?_)
 ·replace hM := iD hc11 hM
  refine Ah <| hK10 _ _ ?_
  refine Ai fun K12 hK12 => Ap <| Ad <| r_V (vI x1_) rfl ?_
  obtain ⟨ck14, hM⟩ := Ae hM
  refine r_W (elA l'v (x1_.toNat * 7)) rfl (AD (An rfl rfl rfl (Rd.shp hl') ck14)) <| Bw (vA #[vI ((l'[x1_.toNat]!).1), U (hi ((l'[x1_.toNat]!).2.1)), U (lo ((l'[x1_.toNat]!).2.1)), vI ((l'[x1_.toNat]!).2.2.1), U (hi ((l'[x1_.toNat]!).2.2.2.1)), U (lo ((l'[x1_.toNat]!).2.2.2.1)), vI ((l'[x1_.toNat]!).2.2.2.2)]) (En := enc_66) (l'[x1_.toNat]!) (x1_.toNat) 0 rfl rfl (Av hl') (AA ck14) rfl <| r_a (66, #[vI 0, U (0#64), U (0#64), vI 0, U (0#64), U (0#64), vI 0]) rfl rfl rfl (fun b15 => ?_) (.inr rfl)
  refine r_V (vI x1_) rfl <| r_s (KZ b15 ((l'[x1_.toNat]!).1) (hi ((l'[x1_.toNat]!).2.1)) (lo ((l'[x1_.toNat]!).2.1)) ((l'[x1_.toNat]!).2.2.1) (hi ((l'[x1_.toNat]!).2.2.2.1)) (lo ((l'[x1_.toNat]!).2.2.2.1)) ((l'[x1_.toNat]!).2.2.2.2)) 0 _ _ _ _ _ (#[vI ((l'[x1_.toNat]!).1), U (hi ((l'[x1_.toNat]!).2.1)), U (lo ((l'[x1_.toNat]!).2.1)), vI ((l'[x1_.toNat]!).2.2.1), U (hi ((l'[x1_.toNat]!).2.2.2.1)), U (lo ((l'[x1_.toNat]!).2.2.2.1)), vI ((l'[x1_.toNat]!).2.2.2.2)]) rfl rfl rfl rfl (.of rfl rfl) rfl rfl <| Aa ?_
  refine AL [(some 25, false)] (conG prog [(25, cV (CA N x1_ ((l'[x1_.toNat]!).1) ((l'[x1_.toNat]!).2.1) ((l'[x1_.toNat]!).2.2.1) ((l'[x1_.toNat]!).2.2.2.1) ((l'[x1_.toNat]!).2.2.2.2) ask0_ ask1_ ask2_) fun u0_ => vI u0_)]) <| r_R [vF 241 #[] #[vP bask0_ 0, vP bask1_ 0, vP bask2_ 0], vI x1_] rfl ?_
  refine rl (vA #[vI ((l'[x1_.toNat]!).1), U (hi ((l'[x1_.toNat]!).2.1)), U (lo ((l'[x1_.toNat]!).2.1)), vI ((l'[x1_.toNat]!).2.2.1), U (hi ((l'[x1_.toNat]!).2.2.2.1)), U (lo ((l'[x1_.toNat]!).2.2.2.1)), vI ((l'[x1_.toNat]!).2.2.2.2)]) 0 ?_
  obtain ⟨r17, hr18, hM⟩ := Ab hM
  refine rg (vI r17) (AX (caps := [vP bask0_ 0, vP bask1_ 0, vP bask2_ 0]) rfl YI rfl) (fun o w z_ => My N x1_ ((l'[x1_.toNat]!).1) ((l'[x1_.toNat]!).2.1) ((l'[x1_.toNat]!).2.2.1) ((l'[x1_.toNat]!).2.2.2.1) ((l'[x1_.toNat]!).2.2.2.2) ask0_ ask1_ ask2_ _ hr18 z_.view bask0_ ask0_v ((Av hask0_) o w z_) (AK hbask0_ o w z_) bask1_ (AK hbask1_ o w z_) bask2_ ask2_v (Bun35R.mono z_.ro_cell hask2_) (AK hbask2_ o w z_)) (AF hr18) <| r_V (vI r17) rfl <| Aa <| Ad <| r_R [vI r17, vB (r17 != 0)] rfl <| Aa <| Af _ rfl (fun hc20 => ?_) (fun hc20 => ?_)
  ·replace hM := iN hc20 hM
   refine Ad <| r_R [vI x1_, vI r17, vI x1_, vI r17] rfl <| Aa ?_
   cases hM
   exact aR eV2
  replace hM := iM hc20 hM
  refine Ah <| hK12 _ _ ?_
  refine Ax ?_
  obtain ⟨ck22, hM⟩ := Ae hM
  refine r_X (vI (x1_ + 1)) rfl (AR rfl ck22.1 ck22.2) rfl <| r_V (vI (x1_ + 1)) rfl <| Aa <| fg _ (Sub.of (suC _ suN)) ?_
  exact ⟨n8 + 1, by omega, n8, (x1_ + 1), hM, Ak rfl rfl, rfl⟩
 replace hM := iF hc11 hM
 refine AM <| hK6 _ _ ?_
 refine Ad <| r_R [vI 0, vI 0] rfl <| Aa ?_
 cases hM
 exact aR eV2
def BH (_ : Nat) (n : Int) (least : Int) (most : Int) : Option Bool := if n ≥ least then some (decide (n ≤ most)) else some false
theorem IF (N : Nat) (n least most : Int) (r) (hM : BH N n least most = some r) : Gives prog 248 #[vI n, vI least, vI most] (vB r) := by
 unfold BH at hM
 refine AC follows func248 rfl 15 rfl _ fz3 (fun base0_ => ?_)
 refine Ad <| r_V (vB false) rfl <| Aa <| Ai fun K2 hK2 => Ax <| r_R [vI n, vI least, vB (decide (n ≥ least)), vB (decide (n ≥ least))] rfl ?_
 rcases hg3 : (decide (n ≥ least)) with _ | _
 ·replace hM := iF hg3 hM
  refine r_R [none, none, none, vB false, vB false] rfl <| Aa <| hK2 _ _ ?_
  cases hM
  exact aR eE1
 replace hM := iD hg3 hM
 refine r_R [vI n, vI most, vB (decide (n ≤ most)), vB (decide (n ≤ most)), vB (decide (n ≤ most))] rfl <| Aa <| hK2 _ _ ?_
 cases hM
 exact aR eE1
def Cc (N : Nat) (r5 : Int × Bool) (inRange1_ : Bool) : Option Int := (Ag N r5.2 5).bind fun r9 => (Ag N inRange1_ 7).bind fun r11 => (As N ([r9, r11])).bind fun r16 => some r16
def BZ (N : Nat) (c : Al) (k_0 : Int) (k_1 : Int) (k_2 : Int) : Option Int := (BT N c k_0 k_1 k_2).bind fun r5 => if k_0 = 1 then Cc N r5 (k_2 == 0) else if k_0 = 2 then (Az N k_1 0 1024).bind fun r23 => if r23 = true then (Az N k_2 1 64).bind fun r26 => Cc N r5 r26 else Cc N r5 false else Cc N r5 true
theorem NH (N : Nat) (c : Al) (k_0 k_1 k_2 r : Int) (hM : BZ N c k_0 k_1 k_2 = some r) (ro : Ro) (cv : AP) (hc : Bun35R ro cv c) : DoesI prog 249 #[vA (Ac c cv), vA #[vI k_0, vI k_1, vI k_2]] DZ ro [] (pV (vI r)) := by
 unfold BZ at hM
 refine AO follows func249 rfl 38 rfl _ fz2 AT (fun base0_ => ?_)
 refine Ad <| r_a (92, (Ac c cv)) rfl rfl rfl (fun b2 => ?_) (.inr rfl)
 refine r_a (168, #[vI k_0, vI k_1, vI k_2]) rfl rfl rfl (fun b3 => ?_) (.inr rfl)
 refine r_V (vI 0) rfl <| Aa <| AL [(some 12, false)] (conG prog [(12, cV (BT N c k_0 k_1 k_2) fun u0_ => vT #[vI u0_.1, vB u0_.2])]) <| r_V (vP b2 0) rfl <| rl (vA (Ac c cv)) 1 <| rl (vA #[vI k_0, vI k_1, vI k_2]) 0 ?_
 obtain ⟨r5, hr6, hM⟩ := Ab hM
 refine rg (vT #[vI r5.1, vB r5.2]) (cF Sv) (fun o w z_ => IG N c k_0 k_1 k_2 _ hr6 z_.view cv (Bun35R.mono z_.ro_cell hc)) (AF hr6) <| r_R [vT #[vI r5.1, vB r5.2], vI r5.1, vB r5.2, vI r5.1, vB r5.2] rfl <| Aa <| Ad <| r_V (vB true) rfl <| Aa <| Bm (fun tt ll => ∃ (inRange1_ : Bool), (Cc N r5 inRange1_ = some r) ∧ Is [(6, vB r5.2), (7, vB inRange1_)] [] tt ll) ?_ ?_
 ·refine Ad <| r_V (vP b3 0) rfl <| rl (vI k_0) 0 <| Aa <| Ap <| Ad <| r_R [vB (k_0 == 1), vB (k_0 == 1)] rfl <| Aa <| Af _ rfl (fun hc20 => ?_) (fun hc20 => ?_)
  ·replace hM := iE hc20 hM
   refine Ax <| r_V (vP b3 2) rfl <| rl (vI k_2) 0 <| r_R [vB (k_2 == 0), vB (k_2 == 0)] rfl <| Aa <| fg _ (Sub.of (suC _ (suC _ suN))) ?_
   exact ⟨(k_2 == 0), hM, Ak rfl rfl⟩
  replace hM := iG hc20 hM
  refine Ad <| r_R [vB (k_0 == 2), vB (k_0 == 2)] rfl <| Aa <| Af _ rfl (fun hc22 => ?_) (fun hc22 => ?_)
  ·replace hM := iE hc22 hM
   refine Ax <| r_V (vP b3 1) rfl <| rl (vI k_1) 0 ?_
   obtain ⟨r23, hr24, hM⟩ := Ab hM
   refine rc (vB r23) (cF BP) (AI N k_1 0 1024 _ hr24) <| r_V (vB r23) rfl ?_
   rcases hg25 : r23 with _ | _
   ·replace hM := iB hg25 hM
    refine r_R [none, none, none, vB false, vB false] rfl <| Aa <| fg _ (Sub.of (suC _ (suC _ suN))) ?_
    exact ⟨false, hM, Ak (by first | rfl | (simp only [hg25]; done) | (simp only [hg25]; rfl) | (simp only [Bc]; rfl)) rfl⟩
   replace hM := ifp hg25 hM
   refine r_R [vP b3 2] rfl <| r_y rfl <| rl (vI k_2) 0 <| r_y rfl ?_
   obtain ⟨r26, hr27, hM⟩ := Ab hM
   refine rc (vB r26) (cF BP) (AI N k_2 1 64 _ hr27) <| r_R [vB r26, vB r26] rfl <| Aa <| fg _ (Sub.of (suC _ (suC _ suN))) ?_
   exact ⟨r26, hM, Ak (by first | rfl | (simp only [hg25]; done) | (simp only [hg25]; rfl) | (simp only [Bc]; rfl)) rfl⟩
  replace hM := iG hc22 hM
  refine Ah <| fg _ (Sub.of (suC _ (suC _ suN))) ?_
  exact ⟨true, hM, Ak rfl rfl⟩
 clear hM; rintro t l ⟨inRange1_, hM, ⟨T, rfl⟩, rfl⟩
 unfold Cc at hM
 refine AL [(some 36, false), (some 37, false)] (conG prog [(37, fun _ _ v_ L_ U_ => ∀ u0_, Ag N r5.2 5 = some u0_ → ∀ u1_, Ag N inRange1_ 7 = some u1_ → ∀ u2_, As N ([u0_, u1_]) = some u2_ → (pV (vI u2_)) v_ L_ U_)]) <| r_V (vB r5.2) rfl ?_
 obtain ⟨r9, hr10, hM⟩ := Ab hM
 refine rc (vI r9) (cF AJ) (AB N r5.2 5 _ hr10) <| r_V (vB inRange1_) rfl ?_
 obtain ⟨r11, hr12, hM⟩ := Ab hM
 refine rc (vI r11) (cF AJ) (AB N inRange1_ 7 _ hr12) <| Dj (cs0 := [(37, fun _ _ v_ L_ U_ => ∀ u0_, Ag N r5.2 5 = some u0_ → ∀ u1_, Ag N inRange1_ 7 = some u1_ → ∀ u2_, As N ([u0_, u1_]) = some u2_ → (pV (vI u2_)) v_ L_ U_)]) (Ls := []) 38 BK [r9, r11] [vI r9, vI r11] [vI 0, vI 0] rfl rfl rfl rfl rfl rfl rfl (by kernel_rfl) (by kernel_rfl) rfl rfl rfl (fun s13 S14 H15 => ?_)
 obtain ⟨r16, hr17, hM⟩ := Ab hM
 refine rg (vI r16) (cF Br) (fun o w z_ => (Does.inv (Bb N ([r9, r11]) _ hr17 z_.view s13 ((AN H15 (Aw (Ls := [S14]) (k := 0) rfl rfl)) o w z_)) _)) (fun _ _ v_ L_ U_ => ⟨fun h_ => h_ _ hr10 _ hr12 _ hr17, fun h_ => by intro _ e_; cases Option.some.inj (e_.symm.trans hr10); intro _ e_; cases Option.some.inj (e_.symm.trans hr12); intro _ e_; cases Option.some.inj (e_.symm.trans hr17); exact h_⟩) ?_
 refine r_V (vI r16) rfl <| Aa ?_
 cases hM
 exact aR eV1
def Ei (N : Nat) (_ : Int) (k_0 : Int) (k_1 : Int) (k_2 : Int) (c2_ : Int) (c3_ : Al) : Option Int := ck (-9223372036854775808 ≤ (c2_ - 1) ∧ (c2_ - 1) ≤ 9223372036854775807) ((BH N k_0 0 (c2_ - 1)).bind fun r5 => (Ag N r5 10).bind fun r7 => (BZ N c3_ k_0 k_1 k_2).bind fun r9 => (As N ([r7, r9])).bind fun r14 => some r14)
theorem QB (N : Nat) (x k_0 k_1 k_2 c2_ : Int) (c3_ : Al) (r) (hM : Ei N x k_0 k_1 k_2 c2_ c3_ = some r) (ro : Ro) (bc2_ : Nat) (hbc2_ : Blk ro bc2_ [vI c2_]) (bc3_ : Nat) (c3_v : AP) (hc3_ : Bun35R ro c3_v c3_) (hbc3_ : Blk ro bc3_ (Ch c3_ c3_v)) : DoesI prog 247 #[vI x, vA #[vI k_0, vI k_1, vI k_2], vP bc2_ 0, vP bc3_ 0] DZ ro [] (pV (vI r)) := by
 unfold Ei at hM
 refine AO follows func247 rfl 18 rfl _ fz4 AT (fun base0_ => ?_)
 refine Ad <| r_a (168, #[vI k_0, vI k_1, vI k_2]) rfl rfl rfl (fun b2 => ?_) (.inr rfl)
 refine r_V (vI 0) rfl <| Aa <| Ai fun K3 hK3 => Ck [(some 15, false), (some 16, false), (some 17, false)] (conG prog [(15, cV (BZ N c3_ k_0 k_1 k_2) fun u0_ => vI u0_), (17, fun _ _ v_ L_ U_ => ∀ u0_, BH N k_0 0 (c2_ - 1) = some u0_ → ∀ u1_, Ag N u0_ 10 = some u1_ → ∀ u2_, BZ N c3_ k_0 k_1 k_2 = some u2_ → ∀ u3_, As N ([u1_, u2_]) = some u3_ → (pV (vI u3_)) v_ L_ U_)]) [] (by decide +kernel) (fun hn => Be) <| r_V (vP b2 0) rfl <| rl (vI k_0) 0 ?_
 refine CR (vI c2_) (vs := [vI c2_]) (o := 0) rfl rfl (AK hbc2_) rfl ?_
 obtain ⟨ck4, hM⟩ := Ae hM
 refine r_X (vI (c2_ - 1)) rfl (AR rfl ck4.1 ck4.2) rfl ?_
 obtain ⟨r5, hr6, hM⟩ := Ab hM
 refine rc (vB r5) (cF YD) (IF N k_0 0 (c2_ - 1) _ hr6) ?_
 obtain ⟨r7, hr8, hM⟩ := Ab hM
 refine rc (vI r7) (cF AJ) (AB N r5 10 _ hr8) <| CR (vA (Ac c3_ c3_v)) (vs := (Ch c3_ c3_v)) (o := 0) rfl rfl (AK hbc3_) rfl <| rl (vA #[vI k_0, vI k_1, vI k_2]) 0 ?_
 obtain ⟨r9, hr10, hM⟩ := Ab hM
 refine rg (vI r9) (cF YC) (fun o w z_ => NH N c3_ k_0 k_1 k_2 _ hr10 z_.view c3_v (Bun35R.mono z_.ro_cell hc3_)) (AF hr10) ?_
 refine Dj (cs0 := [(15, cV (BZ N c3_ k_0 k_1 k_2) fun u0_ => vI u0_), (17, fun _ _ v_ L_ U_ => ∀ u0_, BH N k_0 0 (c2_ - 1) = some u0_ → ∀ u1_, Ag N u0_ 10 = some u1_ → ∀ u2_, BZ N c3_ k_0 k_1 k_2 = some u2_ → ∀ u3_, As N ([u1_, u2_]) = some u3_ → (pV (vI u3_)) v_ L_ U_)]) (Ls := [(Np b2 k_0 k_1 k_2)]) 38 BK [r7, r9] [vI r7, vI r9] [vI 0, vI 0] rfl rfl rfl rfl rfl rfl rfl (by kernel_rfl) (by kernel_rfl) rfl rfl rfl (fun s11 S12 H13 => ?_)
 obtain ⟨r14, hr15, hM⟩ := Ab hM
 refine rg (vI r14) (cF Br) (fun o w z_ => (Does.inv (Bb N ([r7, r9]) _ hr15 z_.view s11 ((AN H13 (Aw (Ls := [(Np b2 k_0 k_1 k_2), S12]) (k := 1) rfl rfl)) o w z_)) _)) (fun _ _ v_ L_ U_ => ⟨fun h_ => h_ _ hr6 _ hr8 _ hr10 _ hr15, fun h_ => by intro _ e_; cases Option.some.inj (e_.symm.trans hr6); intro _ e_; cases Option.some.inj (e_.symm.trans hr8); intro _ e_; cases Option.some.inj (e_.symm.trans hr10); intro _ e_; cases Option.some.inj (e_.symm.trans hr15); exact h_⟩) ?_
 refine r_V (vI r14) rfl <| Aa <| hK3 _ _ ?_
 cases hM
 exact aR eV1
def Fw (N : Nat) (l' : List (Int × Int × Int)) (ask0_ : Int) (ask1_ : Al) : Nat → Int → Option (Int × Int)
  | 0, _ => none
  | n8 + 1, x1_ => if x1_ < (l'.length : Int) then ck (0 ≤ x1_ ∧ x1_ < (l'.length : Int)) ((Ei N x1_ ((l'[x1_.toNat]!).1) ((l'[x1_.toNat]!).2.1) ((l'[x1_.toNat]!).2.2) ask0_ ask1_).bind fun r17 => if (r17 : Int) ≠ 0 then some (x1_, r17) else ck (-9223372036854775808 ≤ (x1_ + 1) ∧ (x1_ + 1) ≤ 9223372036854775807) ((Fw N l' ask0_ ask1_ n8) (x1_ + 1))) else some (0, 0)
def Hp (N : Nat) (l' : List (Int × Int × Int)) (most : Int) (ask0_ : Int) (ask1_ : Al) : Option (Int × Int) := if (l'.length : Int) > most then some (0, 2) else Fw N l' ask0_ ask1_ N 0
theorem RC (N : Nat) (l' : List (Int × Int × Int)) (most ask0_ : Int) (ask1_ : Al) (r) (hM : Hp N l' most ask0_ ask1_ = some r) (ro : Ro) (l'v : Value) (hl' : Rd enc_168 ro l'v l') (bask0_ : Nat) (hbask0_ : Blk ro bask0_ [vI ask0_]) (bask1_ : Nat) (ask1_v : AP) (hask1_ : Bun35R ro ask1_v ask1_) (hbask1_ : Blk ro bask1_ (Ch ask1_ ask1_v)) : DoesI prog 246 #[l'v, vI most, vF 247 #[] #[vP bask0_ 0, vP bask1_ 0]] DZ ro [] (pV (vT #[vI r.1, vI r.2])) := by
 unfold Hp at hM
 refine AO follows func246 rfl 31 rfl _ fz3 AT (fun base0_ => ?_)
 refine Ad <| r_R [vI 0, vI 0] rfl <| Aa <| Ai fun K2 hK2 => Ad <| r_V l'v rfl <| r_W (vI (l'.length : Int)) rfl (Aj rfl rfl rfl (Rd.shp hl')) <| r_R [vI most, vB (decide ((l'.length : Int) > most))] rfl <| Aa <| Af _ rfl (fun hc4 => ?_) (fun hc4 => ?_)
 ·replace hM := iD hc4 hM
  refine Ad <| r_R [vI 0, vI 2] rfl <| Aa ?_
  cases hM
  exact aR eV2
 replace hM := iF hc4 hM
 refine Ah <| hK2 _ _ ?_
 refine Ai fun K6 hK6 => Ad <| r_V l'v rfl <| r_W (vI (l'.length : Int)) rfl (Aj rfl rfl rfl (Rd.shp hl')) <| r_V (vI 0) rfl <| Aa <| Ap <| AS (fun tt ll nn => ∃ (n8 : Nat) (x1_ : Int), (Fw N l' ask0_ ask1_ n8 x1_ = some r) ∧ Is [(2, vF 247 #[] #[vP bask0_ 0, vP bask1_ 0]), (15, l'v), (16, vI (l'.length : Int)), (17, vI x1_)] [] tt ll ∧ nn = n8 + 1) (N + 1) ?_ ?_
 ·exact ⟨N, 0, hM, Ak rfl rfl, rfl⟩
 clear hM; rintro t l _ ⟨n8, x1_, hM, ⟨⟨T, rfl⟩, rfl⟩, rfl⟩
 rcases n8 with _ | n8
 ·exact absurd hM (by simp [Fw])
 rw [Fw] at hM
 refine Ad <| r_V (vB (decide (x1_ < (l'.length : Int)))) rfl <| Aa <| Ai fun K10 hK10 => Af _ rfl (fun hc11 => ?_) (fun hc11 => ?_)
 ·replace hM := iD hc11 hM
  refine Ah <| hK10 _ _ ?_
  refine Ai fun K12 hK12 => Ap <| Ad <| r_V (vI x1_) rfl ?_
  obtain ⟨ck14, hM⟩ := Ae hM
  refine r_W (elA l'v (x1_.toNat * 3)) rfl (AD (An rfl rfl rfl (Rd.shp hl') ck14)) <| Bw (vA #[vI ((l'[x1_.toNat]!).1), vI ((l'[x1_.toNat]!).2.1), vI ((l'[x1_.toNat]!).2.2)]) (En := enc_168) (l'[x1_.toNat]!) (x1_.toNat) 0 rfl rfl (Av hl') (AA ck14) rfl <| r_a (168, #[vI 0, vI 0, vI 0]) rfl rfl rfl (fun b15 => ?_) (.inr rfl)
  refine r_V (vI x1_) rfl <| r_s (Np b15 ((l'[x1_.toNat]!).1) ((l'[x1_.toNat]!).2.1) ((l'[x1_.toNat]!).2.2)) 0 _ _ _ _ _ (#[vI ((l'[x1_.toNat]!).1), vI ((l'[x1_.toNat]!).2.1), vI ((l'[x1_.toNat]!).2.2)]) rfl rfl rfl rfl (.of rfl rfl) rfl rfl <| Aa <| AL [(some 25, false)] (conG prog [(25, cV (Ei N x1_ ((l'[x1_.toNat]!).1) ((l'[x1_.toNat]!).2.1) ((l'[x1_.toNat]!).2.2) ask0_ ask1_) fun u0_ => vI u0_)]) <| r_R [vF 247 #[] #[vP bask0_ 0, vP bask1_ 0], vI x1_] rfl ?_
  refine rl (vA #[vI ((l'[x1_.toNat]!).1), vI ((l'[x1_.toNat]!).2.1), vI ((l'[x1_.toNat]!).2.2)]) 0 ?_
  obtain ⟨r17, hr18, hM⟩ := Ab hM
  refine rg (vI r17) (AX (caps := [vP bask0_ 0, vP bask1_ 0]) rfl YE rfl) (fun o w z_ => QB N x1_ ((l'[x1_.toNat]!).1) ((l'[x1_.toNat]!).2.1) ((l'[x1_.toNat]!).2.2) ask0_ ask1_ _ hr18 z_.view bask0_ (AK hbask0_ o w z_) bask1_ ask1_v (Bun35R.mono z_.ro_cell hask1_) (AK hbask1_ o w z_)) (AF hr18) <| r_V (vI r17) rfl <| Aa <| Ad <| r_R [vI r17, vB (r17 != 0)] rfl <| Aa <| Af _ rfl (fun hc20 => ?_) (fun hc20 => ?_)
  ·replace hM := iN hc20 hM
   refine Ad <| r_R [vI x1_, vI r17, vI x1_, vI r17] rfl <| Aa ?_
   cases hM
   exact aR eV2
  replace hM := iM hc20 hM
  refine Ah <| hK12 _ _ ?_
  refine Ax ?_
  obtain ⟨ck22, hM⟩ := Ae hM
  refine r_X (vI (x1_ + 1)) rfl (AR rfl ck22.1 ck22.2) rfl <| r_V (vI (x1_ + 1)) rfl <| Aa <| fg _ (Sub.of (suC _ suN)) ?_
  exact ⟨n8 + 1, by omega, n8, (x1_ + 1), hM, Ak rfl rfl, rfl⟩
 replace hM := iF hc11 hM
 refine AM <| hK6 _ _ ?_
 refine Ad <| r_R [vI 0, vI 0] rfl <| Aa ?_
 cases hM
 exact aR eV2
def BY (N : Nat) (c : Al) (l' : List (Int × Int × Int)) (kinds : Int) : Option Int := (Hp N l' 4 kinds c).bind fun r5 => (Gb N c l').bind fun r8 => (Ag N r8.2 9).bind fun r11 => (As N ([r5.2, r11])).bind fun r16 => some r16
theorem NG (N : Nat) (c : Al) (l' : List (Int × Int × Int)) (kinds r : Int) (hM : BY N c l' kinds = some r) (ro : Ro) (cv : AP) (hc : Bun35R ro cv c) (l'v : Value) (hl' : Rd enc_168 ro l'v l') : DoesI prog 184 #[vA (Ac c cv), l'v, vI kinds] DZ ro [] (pV (vI r)) := by
 unfold BY at hM
 refine AO follows func184 rfl 29 rfl _ fz3 AT (fun base0_ => ?_)
 refine Ad <| r_a (92, (Ac c cv)) rfl rfl rfl (fun b2 => ?_) (.inr rfl)
 refine r_a (166, #[vI kinds]) rfl rfl rfl (fun b3 => ?_) (.inr rfl)
 refine r_V (vI 0) rfl <| Aa <| AL [(some 14, false)] (conG prog [(14, cV (Hp N l' 4 kinds c) fun u0_ => vT #[vI u0_.1, vI u0_.2])]) <| r_V l'v rfl <| r_W (vF 247 #[] #[vP b3 0, vP b2 0]) rfl (DV rfl) ?_
 obtain ⟨r5, hr6, hM⟩ := Ab hM
 refine rg (vT #[vI r5.1, vI r5.2]) (cF YF) (fun o w z_ => RC N l' 4 kinds c _ hr6 z_.view l'v ((Av hl') o w z_) b3 (Bq 0 rfl rfl o w z_) b2 cv (Bun35R.mono z_.ro_cell hc) (Bq 1 rfl rfl o w z_)) (AF hr6) <| r_R [vT #[vI r5.1, vI r5.2], vI r5.1, vI r5.2, vI r5.1, vI r5.2] rfl <| Aa <| AL [(some 21, false)] (conG prog [(21, cV (Gb N c l') fun u0_ => vT #[vI u0_.1, vB u0_.2])]) <| r_V (vP b2 0) rfl <| rl (vA (Ac c cv)) 1 <| r_V l'v rfl ?_
 obtain ⟨r8, hr9, hM⟩ := Ab hM
 refine rg (vT #[vI r8.1, vB r8.2]) (cF Sw) (fun o w z_ => Nt N c l' _ hr9 z_.view cv (Bun35R.mono z_.ro_cell hc) l'v ((Av hl') o w z_)) (AF hr9) <| r_R [vT #[vI r8.1, vB r8.2], vI r8.1, vB r8.2, vI r8.1, vB r8.2] rfl <| Aa <| AL [(some 27, false), (some 28, false)] (conG prog [(28, fun _ _ v_ L_ U_ => ∀ u0_, Ag N r8.2 9 = some u0_ → ∀ u1_, As N ([r5.2, u0_]) = some u1_ → (pV (vI u1_)) v_ L_ U_)]) <| r_R [vI r5.2, vB r8.2] rfl ?_
 obtain ⟨r11, hr12, hM⟩ := Ab hM
 refine rc (vI r11) (cF AJ) (AB N r8.2 9 _ hr12) <| Dj (cs0 := [(28, fun _ _ v_ L_ U_ => ∀ u0_, Ag N r8.2 9 = some u0_ → ∀ u1_, As N ([r5.2, u0_]) = some u1_ → (pV (vI u1_)) v_ L_ U_)]) (Ls := [(Rq b3 kinds), [(b2, 92, (Ac c cv))]]) 38 BK [r5.2, r11] [vI r5.2, vI r11] [vI 0, vI 0] rfl rfl rfl rfl rfl rfl rfl (by kernel_rfl) (by kernel_rfl) rfl rfl rfl (fun s13 S14 H15 => ?_)
 obtain ⟨r16, hr17, hM⟩ := Ab hM
 refine rg (vI r16) (cF Br) (fun o w z_ => (Does.inv (Bb N ([r5.2, r11]) _ hr17 z_.view s13 ((AN H15 (Aw (Ls := [(Rq b3 kinds), [(b2, 92, (Ac c cv))], S14]) (k := 2) rfl rfl)) o w z_)) _)) (fun _ _ v_ L_ U_ => ⟨fun h_ => h_ _ hr12 _ hr17, fun h_ => by intro _ e_; cases Option.some.inj (e_.symm.trans hr12); intro _ e_; cases Option.some.inj (e_.symm.trans hr17); exact h_⟩) ?_
 refine r_V (vI r16) rfl <| Aa <| Cd [(6, vI r16)] rfl (fun T => ?_)
 cases hM
 exact aR eV1
def CH (N : Nat) (c : Al) (_ : List UInt8) (s_1 : List (Int × Int)) (s_2 : List (Int × Int × Int)) (s_3 : List (Int × BitVec 128 × Int × BitVec 128 × Int)) (s_4 : Int) : Option Int := (Hq N s_1 4 c).bind fun r5 => (DB N c s_2).bind fun r8 => (Gy N s_3 8 s_2 r8 c).bind fun r13 => (BY N c s_2 3).bind fun r16 => (Bg N c s_4).bind fun r18 => (As N ([r5.2, r16, r13.2, r18])).bind fun r23 => some r23
theorem Qw (N : Nat) (c : Al) (s_0 : List UInt8) (s_1 : List (Int × Int)) (s_2 : List (Int × Int × Int)) (s_3 : List (Int × BitVec 128 × Int × BitVec 128 × Int)) (s_4 r : Int) (hM : CH N c s_0 s_1 s_2 s_3 s_4 = some r) (ro : Ro) (cv : AP) (hc : Bun35R ro cv c) (s_1v : Value) (hs_1 : Rd enc_164 ro s_1v s_1) (s_2v : Value) (hs_2 : Rd enc_168 ro s_2v s_2) (s_3v : Value) (hs_3 : Rd enc_66 ro s_3v s_3) : DoesI prog 124 #[vA (Ac c cv), vA #[vS s_0, s_1v, s_2v, s_3v, vI s_4]] DZ ro [] (pV (vI r)) := by
 unfold CH at hM
 refine AO follows func124 rfl 39 rfl _ fz2 AT (fun base0_ => ?_)
 refine Ad <| r_a (92, (Ac c cv)) rfl rfl rfl (fun b2 => ?_) (.inr rfl)
 refine r_a (64, #[vS s_0, s_1v, s_2v, s_3v, vI s_4]) rfl rfl rfl (fun b3 => ?_) (.inr rfl)
 refine r_V (vI 0) rfl <| Aa <| AL [(some 14, false)] (conG prog [(14, cV (Hq N s_1 4 c) fun u0_ => vT #[vI u0_.1, vI u0_.2])]) <| r_V (vP b3 1) rfl <| rl s_1v 0 <| rl (vA (Ac c cv)) 1 <| r_W (vF 181 #[vA (Ac c cv)] #[]) rfl (Ej rfl rfl) ?_
 obtain ⟨r5, hr6, hM⟩ := Ab hM
 refine rg (vT #[vI r5.1, vI r5.2]) (cF Zt) (fun o w z_ => (Does.inv (RD N s_1 4 c _ hr6 z_.view s_1v ((Av hs_1) o w z_) cv (Bun35R.mono z_.ro_cell hc)) _)) (AF hr6) <| r_R [vT #[vI r5.1, vI r5.2], vI r5.1, vI r5.2, vI r5.1, vI r5.2] rfl <| Aa <| Ai fun K7 hK7 => ?_
 refine UM (Ls := [(FS b3 s_0 s_1v s_2v s_3v s_4), [(b2, 92, (Ac c cv))]]) [(some 23, true), (some 24, false), (some 1000000024, true)] [(23, fun _ _ v_ L_ U_ => (pH ((List.flatten ([] : List (List Bl))).map (·.1)) (fun v_ L_ U_ => ∀ u0_, DB N c s_2 = some u0_ → (pO (List.flatten []) (oB 61 #[s_2v] fun b_0 => (oB 3 #[vI u0_] fun b_1 => (oB 92 (Ac c cv) fun b_2 => (oE (vF 241 #[] #[vP b_0 0, vP b_1 0, vP b_2 0]) []))))) v_ L_ U_) v_ L_ U_)), (24, fun _ _ v_ L_ U_ => ∀ u0_, DB N c s_2 = some u0_ → ∀ u1_, Gy N s_3 8 s_2 u0_ c = some u1_ → (pV (vT #[vI u1_.1, vI u1_.2])) v_ L_ U_)] [] [0, 1] [] (by decide +kernel) (fun hn => Be) (by decide +kernel) rfl (⟨.inr (fun _ _ _ _ _ h_ => dD (Wp (Ls := [(FS b3 s_0 s_1v s_2v s_3v s_4), [(b2, 92, (Ac c cv))]]) (is := []) (js := []) rfl) h_), ⟨.inl rfl, trivial⟩⟩) (fun hnb_ => ?_)
 refine r_V (vP b3 3) rfl <| aT s_3v 0 _ _ _ _ rfl rfl rfl rfl rfl (hnb_ b3 (List.mem_of_getElem? (i := 0) rfl)) <| aT (vA (Ac c cv)) 1 _ _ _ _ rfl rfl rfl rfl rfl (hnb_ b2 (List.mem_of_getElem? (i := 1) rfl)) <| r_V (vP b3 2) rfl <| aT s_2v 0 _ _ _ _ rfl rfl rfl rfl rfl (hnb_ b3 (List.mem_of_getElem? (i := 0) rfl)) ?_
 obtain ⟨r8, hr9, hM⟩ := Ab hM
 refine Lz (Ls := [(FS b3 s_0 s_1v s_2v s_3v s_4), [(b2, 92, (Ac c cv))]]) (FL := []) [] _ (some 23) 183 _ rfl rfl rfl rfl rfl (cF Zq) (fun o w hn_ z_ => Pd N c s_2 _ hr9 _ cv (Bun35R.mono (PZ (Ls := [(FS b3 s_0 s_1v s_2v s_3v s_4), [(b2, 92, (Ac c cv))]]) (is := []) rfl z_) hc) s_2v (Rd.mono (PZ (Ls := [(FS b3 s_0 s_1v s_2v s_3v s_4), [(b2, 92, (Ac c cv))]]) (is := []) rfl z_) hs_2)) (fun a_ c_ v_ L_ U_ => dC (q := fun v_ L_ U_ => ∀ u0_, DB N c s_2 = some u0_ → (pO (List.flatten []) (oB 61 #[s_2v] fun b_0 => (oB 3 #[vI u0_] fun b_1 => (oB 92 (Ac c cv) fun b_2 => (oE (vF 241 #[] #[vP b_0 0, vP b_1 0, vP b_2 0]) []))))) v_ L_ U_) ((AF hr9) a_ c_ v_ L_ U_)) (fun _ => (NiceO.sub (R := []) (WE fun b_0 => (WE fun b_1 => (WE fun b_2 => (fA rfl)))) (Sub.pick [] [] rfl))) ?_
 rintro _ _ ⟨b12, _, ⟨b11, _, ⟨b10, _, ⟨rfl, rfl⟩, rfl⟩, rfl⟩, rfl⟩
 refine Cw (Ls := [(FS b3 s_0 s_1v s_2v s_3v s_4), [(b2, 92, (Ac c cv))], (MF b12 s_2v), (Qn b11 r8), [(b10, 92, (Ac c cv))]]) (Ls' := [(FS b3 s_0 s_1v s_2v s_3v s_4), [(b2, 92, (Ac c cv))], (MF b12 s_2v), (Qn b11 r8), [(b10, 92, (Ac c cv))]]) [0, 1, 2, 3, 4] rfl rfl ?_
 obtain ⟨r13, hr14, hM⟩ := Ab hM
 refine rg (vT #[vI r13.1, vI r13.2]) (cF Zr) (fun o w z_ => (Does.inv (Qu N s_3 8 s_2 r8 c _ hr14 z_.view s_3v ((Av hs_3) o w z_) b12 s_2v ((Av hs_2) o w z_) (Bq 2 rfl rfl o w z_) b11 (Bq 3 rfl rfl o w z_) b10 cv (Bun35R.mono z_.ro_cell hc) (Bq 4 rfl rfl o w z_)) _)) (fun _ _ v_ L_ U_ => ⟨fun h_ => h_ _ hr9 _ hr14, fun h_ => by intro _ e_; cases Option.some.inj (e_.symm.trans hr9); intro _ e_; cases Option.some.inj (e_.symm.trans hr14); exact h_⟩) ?_
 refine r_R [vT #[vI r13.1, vI r13.2], vI r13.1, vI r13.2, vI r13.1, vI r13.2] rfl <| Aa <| hK7 _ _ ?_
 refine Ai fun K15 hK15 => Ck [(some 31, false), (some 36, false), (some 37, false), (some 38, false)] (conG prog [(31, cV (BY N c s_2 3) fun u0_ => vI u0_), (36, cV (Bg N c s_4) fun u0_ => vI u0_), (38, fun _ _ v_ L_ U_ => ∀ u0_, BY N c s_2 3 = some u0_ → ∀ u1_, Bg N c s_4 = some u1_ → ∀ u2_, As N ([r5.2, u0_, r13.2, u1_]) = some u2_ → (pV (vI u2_)) v_ L_ U_)]) [] (by decide +kernel) (fun hn => Be) <| r_V (vI r5.2) rfl <| rl (vA (Ac c cv)) 1 ?_
 refine r_V (vP b3 2) rfl <| rl s_2v 0 ?_
 obtain ⟨r16, hr17, hM⟩ := Ab hM
 refine rg (vI r16) (cF SE) (fun o w z_ => NG N c s_2 3 _ hr17 z_.view cv (Bun35R.mono z_.ro_cell hc) s_2v ((Av hs_2) o w z_)) (AF hr17) <| r_V (vI r13.2) rfl <| rl (vA (Ac c cv)) 1 <| r_V (vP b3 4) rfl <| rl (vI s_4) 0 ?_
 obtain ⟨r18, hr19, hM⟩ := Ab hM
 refine rg (vI r18) (cF Of) (fun o w z_ => (Does.inv (Jv N c s_4 _ hr19 z_.view cv (Bun35R.mono z_.ro_cell hc)) _)) (AF hr19) ?_
 refine Dj (cs0 := [(31, cV (BY N c s_2 3) fun u0_ => vI u0_), (36, cV (Bg N c s_4) fun u0_ => vI u0_), (38, fun _ _ v_ L_ U_ => ∀ u0_, BY N c s_2 3 = some u0_ → ∀ u1_, Bg N c s_4 = some u1_ → ∀ u2_, As N ([r5.2, u0_, r13.2, u1_]) = some u2_ → (pV (vI u2_)) v_ L_ U_)]) (Ls := [(FS b3 s_0 s_1v s_2v s_3v s_4), [(b2, 92, (Ac c cv))], (MF b12 s_2v), (Qn b11 r8), [(b10, 92, (Ac c cv))]]) 38 BK [r5.2, r16, r13.2, r18] [vI r5.2, vI r16, vI r13.2, vI r18] [vI 0, vI 0, vI 0, vI 0] rfl rfl rfl rfl rfl rfl rfl (by kernel_rfl) (by kernel_rfl) rfl rfl rfl (fun s20 S21 H22 => ?_)
 obtain ⟨r23, hr24, hM⟩ := Ab hM
 refine rg (vI r23) (cF Br) (fun o w z_ => (Does.inv (Bb N ([r5.2, r16, r13.2, r18]) _ hr24 z_.view s20 ((AN H22 (Aw (Ls := [(FS b3 s_0 s_1v s_2v s_3v s_4), [(b2, 92, (Ac c cv))], (MF b12 s_2v), (Qn b11 r8), [(b10, 92, (Ac c cv))], S21]) (k := 5) rfl rfl)) o w z_)) _)) (fun _ _ v_ L_ U_ => ⟨fun h_ => h_ _ hr17 _ hr19 _ hr24, fun h_ => by intro _ e_; cases Option.some.inj (e_.symm.trans hr17); intro _ e_; cases Option.some.inj (e_.symm.trans hr19); intro _ e_; cases Option.some.inj (e_.symm.trans hr24); exact h_⟩) ?_
 refine r_V (vI r23) rfl <| Aa <| hK15 _ _ ?_
 refine Cd [(4, vI r23)] rfl (fun T => ?_)
 cases hM
 exact aR eV1
def Et (N : Nat) (i : Int) (x_0 : List UInt8) (x_1 : List (Int × Int)) (x_2 : List (Int × Int × Int)) (x_3 : List (Int × BitVec 128 × Int × BitVec 128 × Int)) (x_4 : Int) (c2_ : List (List UInt8)) (c3_p0_0_ : Al) : Option Int := ck (0 ≤ i ∧ i < (c2_.length : Int)) ((Bf N (c2_[i.toNat]!)).bind fun r5 => (Ag N r5 4).bind fun r7 => (Ay N c2_ i).bind fun r9 => (CH N c3_p0_0_ x_0 x_1 x_2 x_3 x_4).bind fun r11 => (As N ([r7, r9, r11])).bind fun r16 => some r16)
theorem Ml (N : Nat) (i : Int) (x_0 : List UInt8) (x_1 : List (Int × Int)) (x_2 : List (Int × Int × Int)) (x_3 : List (Int × BitVec 128 × Int × BitVec 128 × Int)) (x_4 : Int) (c2_ : List (List UInt8)) (c3_p0_0_ : Al) (r) (hM : Et N i x_0 x_1 x_2 x_3 x_4 c2_ c3_p0_0_ = some r) (ro : Ro) (x_1v : Value) (hx_1 : Rd enc_164 ro x_1v x_1) (x_2v : Value) (hx_2 : Rd enc_168 ro x_2v x_2) (x_3v : Value) (hx_3 : Rd enc_66 ro x_3v x_3) (bc2_ : Nat) (c2_v : Value) (hc2_ : Rd encS ro c2_v c2_) (hbc2_ : Blk ro bc2_ [c2_v]) (bc3_ : Nat) (c3_p0_0_v : AP) (hc3_p0_0_ : Bun35R ro c3_p0_0_v c3_p0_0_) (hbc3_ : Blk ro bc3_ [vF 124 #[vA (Ac c3_p0_0_ c3_p0_0_v)] #[]]) : DoesI prog 179 #[vI i, vA #[vS x_0, x_1v, x_2v, x_3v, vI x_4], vP bc2_ 0, vP bc3_ 0] DZ ro [] (pV (vI r)) := by
 unfold Et at hM
 refine AO follows func179 rfl 21 rfl _ fz4 AT (fun base0_ => ?_)
 refine Ad <| r_a (64, #[vS x_0, x_1v, x_2v, x_3v, vI x_4]) rfl rfl rfl (fun b2 => ?_) (.inr rfl)
 refine r_V (vI 0) rfl <| Aa <| Ai fun K3 hK3 => ?_
 refine Ck [(some 15, false), (some 18, false), (some 19, false), (some 20, false)] (conG prog [(15, cV (Ay N c2_ i) fun u0_ => vI u0_), (18, cV (CH N c3_p0_0_ x_0 x_1 x_2 x_3 x_4) fun u0_ => vI u0_), (20, fun _ _ v_ L_ U_ => ∀ u0_, Bf N (c2_[i.toNat]!) = some u0_ → ∀ u1_, Ag N u0_ 4 = some u1_ → ∀ u2_, Ay N c2_ i = some u2_ → ∀ u3_, CH N c3_p0_0_ x_0 x_1 x_2 x_3 x_4 = some u3_ → ∀ u4_, As N ([u1_, u2_, u3_]) = some u4_ → (pV (vI u4_)) v_ L_ U_)]) [] (by decide +kernel) (fun hn => Be) ?_
 refine CR c2_v (vs := [c2_v]) (o := 0) rfl rfl (AK hbc2_) rfl <| r_V (vI i) rfl ?_
 obtain ⟨ck4, hM⟩ := Ae hM
 refine r_W (elA c2_v (i.toNat * 1)) rfl (AD (An rfl rfl rfl (Rd.shp hc2_) ck4)) <| Bw (vS (c2_[i.toNat]!)) (En := encS) (c2_[i.toNat]!) (i.toNat) 0 rfl rfl (Av hc2_) (AA ck4) rfl ?_
 obtain ⟨r5, hr6, hM⟩ := Ab hM
 refine rc (vB r5) (cF HT) (GJ N (c2_[i.toNat]!) _ hr6) ?_
 obtain ⟨r7, hr8, hM⟩ := Ab hM
 refine rc (vI r7) (cF AJ) (AB N r5 4 _ hr8) <| CR c2_v (vs := [c2_v]) (o := 0) rfl rfl (AK hbc2_) rfl <| r_V (vI i) rfl ?_
 obtain ⟨r9, hr10, hM⟩ := Ab hM
 refine rg (vI r9) (cF Hu) (fun o w z_ => (Does.inv (Dn N c2_ i _ hr10 z_.view c2_v ((Av hc2_) o w z_)) _)) (AF hr10) <| CR (vF 124 #[vA (Ac c3_p0_0_ c3_p0_0_v)] #[]) (vs := [vF 124 #[vA (Ac c3_p0_0_ c3_p0_0_v)] #[]]) (o := 0) rfl rfl (AK hbc3_) rfl <| rl (vA #[vS x_0, x_1v, x_2v, x_3v, vI x_4]) 0 ?_
 obtain ⟨r11, hr12, hM⟩ := Ab hM
 refine rg (vI r11) (Ca (bd := [vA (Ac c3_p0_0_ c3_p0_0_v)]) (caps := []) rfl ZY rfl) (fun o w z_ => Qw N c3_p0_0_ x_0 x_1 x_2 x_3 x_4 _ hr12 z_.view c3_p0_0_v (Bun35R.mono z_.ro_cell hc3_p0_0_) x_1v ((Av hx_1) o w z_) x_2v ((Av hx_2) o w z_) x_3v ((Av hx_3) o w z_)) (AF hr12) ?_
 refine Dj (cs0 := [(15, cV (Ay N c2_ i) fun u0_ => vI u0_), (18, cV (CH N c3_p0_0_ x_0 x_1 x_2 x_3 x_4) fun u0_ => vI u0_), (20, fun _ _ v_ L_ U_ => ∀ u0_, Bf N (c2_[i.toNat]!) = some u0_ → ∀ u1_, Ag N u0_ 4 = some u1_ → ∀ u2_, Ay N c2_ i = some u2_ → ∀ u3_, CH N c3_p0_0_ x_0 x_1 x_2 x_3 x_4 = some u3_ → ∀ u4_, As N ([u1_, u2_, u3_]) = some u4_ → (pV (vI u4_)) v_ L_ U_)]) (Ls := [(FS b2 x_0 x_1v x_2v x_3v x_4)]) 38 BK [r7, r9, r11] [vI r7, vI r9, vI r11] [vI 0, vI 0, vI 0] rfl rfl rfl rfl rfl rfl rfl (by kernel_rfl) (by kernel_rfl) rfl rfl rfl (fun s13 S14 H15 => ?_)
 obtain ⟨r16, hr17, hM⟩ := Ab hM
 refine rg (vI r16) (cF Br) (fun o w z_ => (Does.inv (Bb N ([r7, r9, r11]) _ hr17 z_.view s13 ((AN H15 (Aw (Ls := [(FS b2 x_0 x_1v x_2v x_3v x_4), S14]) (k := 1) rfl rfl)) o w z_)) _)) (fun _ _ v_ L_ U_ => ⟨fun h_ => h_ _ hr6 _ hr8 _ hr10 _ hr12 _ hr17, fun h_ => by intro _ e_; cases Option.some.inj (e_.symm.trans hr6); intro _ e_; cases Option.some.inj (e_.symm.trans hr8); intro _ e_; cases Option.some.inj (e_.symm.trans hr10); intro _ e_; cases Option.some.inj (e_.symm.trans hr12); intro _ e_; cases Option.some.inj (e_.symm.trans hr17); exact h_⟩) ?_
 refine r_V (vI r16) rfl <| Aa <| hK3 _ _ ?_
 cases hM
 exact aR eV1
def DQ (N : Nat) (l' : List ((List UInt8) × (List (Int × Int)) × (List (Int × Int × Int)) × (List (Int × BitVec 128 × Int × BitVec 128 × Int)) × Int)) (ask0_ : List (List UInt8)) (ask1_p0_0_ : Al) : Nat → Int → Option (Int × Int)
  | 0, _ => none
  | n8 + 1, x1_ => if x1_ < (l'.length : Int) then ck (0 ≤ x1_ ∧ x1_ < (l'.length : Int)) ((Et N x1_ (l'[x1_.toNat]!.1) (l'[x1_.toNat]!.2.1) (l'[x1_.toNat]!.2.2.1) (l'[x1_.toNat]!.2.2.2.1) (l'[x1_.toNat]!.2.2.2.2) ask0_ ask1_p0_0_).bind fun r24 => if (r24 : Int) ≠ 0 then some (x1_, r24) else ck (-9223372036854775808 ≤ (x1_ + 1) ∧ (x1_ + 1) ≤ 9223372036854775807) ((DQ N l' ask0_ ask1_p0_0_ n8) (x1_ + 1))) else some (0, 0)
def FI (N : Nat) (l' : List ((List UInt8) × (List (Int × Int)) × (List (Int × Int × Int)) × (List (Int × BitVec 128 × Int × BitVec 128 × Int)) × Int)) (most : Int) (ask0_ : List (List UInt8)) (ask1_p0_0_ : Al) : Option (Int × Int) := if (l'.length : Int) > most then some (0, 2) else DQ N l' ask0_ ask1_p0_0_ N 0
theorem OT (N : Nat) (l' : List ((List UInt8) × (List (Int × Int)) × (List (Int × Int × Int)) × (List (Int × BitVec 128 × Int × BitVec 128 × Int)) × Int)) (most : Int) (ask0_ : List (List UInt8)) (ask1_p0_0_ : Al) (r) (hM : FI N l' most ask0_ ask1_p0_0_ = some r) (ro : Ro) (l'v : Value) (hl' : RdN encr_64 ro l'v l') (bask0_ : Nat) (ask0_v : Value) (hask0_ : Rd encS ro ask0_v ask0_) (hbask0_ : Blk ro bask0_ [ask0_v]) (bask1_ : Nat) (ask1_p0_0_v : AP) (hask1_p0_0_ : Bun35R ro ask1_p0_0_v ask1_p0_0_) (hbask1_ : Blk ro bask1_ [vF 124 #[vA (Ac ask1_p0_0_ ask1_p0_0_v)] #[]]) : DoesI prog 178 #[l'v, vI most, vF 179 #[] #[vP bask0_ 0, vP bask1_ 0]] DZ ro [] (pV (vT #[vI r.1, vI r.2])) := by
 unfold FI at hM
 refine AO follows func178 rfl 31 rfl _ fz3 AT (fun base0_ => ?_)
 refine Ad <| r_R [vI 0, vI 0] rfl <| Aa <| Ai fun K2 hK2 => Ad <| r_V l'v rfl <| r_W (vI (l'.length : Int)) rfl (Aj rfl rfl rfl (RdN.shp hl')) <| r_R [vI most, vB (decide ((l'.length : Int) > most))] rfl <| Aa <| Af _ rfl (fun hc4 => ?_) (fun hc4 => ?_)
 ·replace hM := iD hc4 hM
  refine Ad <| r_R [vI 0, vI 2] rfl <| Aa ?_
  cases hM
  exact aR eV2
 replace hM := iF hc4 hM
 refine Ah <| hK2 _ _ ?_
 refine Ai fun K6 hK6 => Ad <| r_V l'v rfl <| r_W (vI (l'.length : Int)) rfl (Aj rfl rfl rfl (RdN.shp hl')) <| r_V (vI 0) rfl <| Aa <| Ap <| AS (fun tt ll nn => ∃ (n8 : Nat) (x1_ : Int), (DQ N l' ask0_ ask1_p0_0_ n8 x1_ = some r) ∧ Is [(2, vF 179 #[] #[vP bask0_ 0, vP bask1_ 0]), (15, l'v), (16, vI (l'.length : Int)), (17, vI x1_)] [] tt ll ∧ nn = n8 + 1) (N + 1) ?_ ?_
 ·exact ⟨N, 0, hM, Ak rfl rfl, rfl⟩
 clear hM; rintro t l _ ⟨n8, x1_, hM, ⟨⟨T, rfl⟩, rfl⟩, rfl⟩
 rcases n8 with _ | n8
 ·exact absurd hM (by simp [DQ])
 rw [DQ] at hM
 refine Ad <| r_V (vB (decide (x1_ < (l'.length : Int)))) rfl <| Aa <| Ai fun K10 hK10 => Af _ rfl (fun hc11 => ?_) (fun hc11 => ?_)
 ·replace hM := iD hc11 hM
  refine Ah <| hK10 _ _ ?_
  refine Ai fun K12 hK12 => Ap <| Ad <| r_V (vI x1_) rfl ?_
  obtain ⟨ck14, hM⟩ := Ae hM
  obtain ⟨_, ⟨s15, s16, s17, hs18, hs19, hs20, rfl⟩, hat21⟩ := RdN.at (E := encr_64) hl' (AA ck14)
  refine r_W (elA l'v (x1_.toNat * 5)) rfl (AD (An rfl rfl rfl (RdN.shp hl') ck14)) <| Eo (vA #[vS (l'[x1_.toNat]!.1), s15, s16, s17, vI (l'[x1_.toNat]!.2.2.2.2)]) (vs := [vS (l'[x1_.toNat]!.1), s15, s16, s17, vI (l'[x1_.toNat]!.2.2.2.2)]) (x1_.toNat * 5) 0 rfl rfl (fun o w z_ => At.mono z_.ro_cell hat21) rfl <| r_a (64, #[Value.string (⟨#[]⟩), nS, nS, nS, vI 0]) rfl rfl rfl (fun b22 => ?_) (.inr rfl)
  refine r_V (vI x1_) rfl <| r_s (FS b22 (l'[x1_.toNat]!.1) s15 s16 s17 (l'[x1_.toNat]!.2.2.2.2)) 0 _ _ _ _ _ (#[vS (l'[x1_.toNat]!.1), s15, s16, s17, vI (l'[x1_.toNat]!.2.2.2.2)]) rfl rfl rfl rfl (.ofS rfl rfl (Ao rfl (Ao (Shp.one (Rd.shp hs18)) (Ao (Shp.one (Rd.shp hs19)) (Ao (Shp.one (Rd.shp hs20)) (Ao rfl Bi)))))) rfl rfl <| Aa ?_
  refine AL [(some 25, false)] (conG prog [(25, cV (Et N x1_ (l'[x1_.toNat]!.1) (l'[x1_.toNat]!.2.1) (l'[x1_.toNat]!.2.2.1) (l'[x1_.toNat]!.2.2.2.1) (l'[x1_.toNat]!.2.2.2.2) ask0_ ask1_p0_0_) fun u0_ => vI u0_)]) <| r_R [vF 179 #[] #[vP bask0_ 0, vP bask1_ 0], vI x1_] rfl <| rl (vA #[vS (l'[x1_.toNat]!.1), s15, s16, s17, vI (l'[x1_.toNat]!.2.2.2.2)]) 0 ?_
  obtain ⟨r24, hr25, hM⟩ := Ab hM
  refine rg (vI r24) (AX (caps := [vP bask0_ 0, vP bask1_ 0]) rfl Zu rfl) (fun o w z_ => Ml N x1_ (l'[x1_.toNat]!.1) (l'[x1_.toNat]!.2.1) (l'[x1_.toNat]!.2.2.1) (l'[x1_.toNat]!.2.2.2.1) (l'[x1_.toNat]!.2.2.2.2) ask0_ ask1_p0_0_ _ hr25 z_.view s15 ((Av hs18) o w z_) s16 ((Av hs19) o w z_) s17 ((Av hs20) o w z_) bask0_ ask0_v ((Av hask0_) o w z_) (AK hbask0_ o w z_) bask1_ ask1_p0_0_v (Bun35R.mono z_.ro_cell hask1_p0_0_) (AK hbask1_ o w z_)) (AF hr25) <| r_V (vI r24) rfl <| Aa <| Ad <| r_R [vI r24, vB (r24 != 0)] rfl <| Aa ?_
  refine Af _ rfl (fun hc27 => ?_) (fun hc27 => ?_)
  ·replace hM := iN hc27 hM
   refine Ad <| r_R [vI x1_, vI r24, vI x1_, vI r24] rfl <| Aa ?_
   cases hM
   exact aR eV2
  replace hM := iM hc27 hM
  refine Ah <| hK12 _ _ ?_
  refine Ax ?_
  obtain ⟨ck29, hM⟩ := Ae hM
  refine r_X (vI (x1_ + 1)) rfl (AR rfl ck29.1 ck29.2) rfl <| r_V (vI (x1_ + 1)) rfl <| Aa <| fg _ (Sub.of (suC _ suN)) ?_
  exact ⟨n8 + 1, by omega, n8, (x1_ + 1), hM, Ak rfl rfl, rfl⟩
 replace hM := iF hc11 hM
 refine AM <| hK6 _ _ ?_
 refine Ad <| r_R [vI 0, vI 0] rfl <| Aa ?_
 cases hM
 exact aR eV2
def GT (N : Nat) (l' : List ((List UInt8) × (List (Int × Int)) × (List (Int × Int × Int)) × (List (Int × BitVec 128 × Int × BitVec 128 × Int)) × Int)) (most : Int) (ask0_ : Al) : Option (Int × Int) := (GX N l').bind fun r4 => (FI N l' most r4 ask0_).bind fun r11 => some (r11.1, r11.2)
theorem OK (N : Nat) (l' : List ((List UInt8) × (List (Int × Int)) × (List (Int × Int × Int)) × (List (Int × BitVec 128 × Int × BitVec 128 × Int)) × Int)) (most : Int) (ask0_ : Al) (r) (hM : GT N l' most ask0_ = some r) (ro : Ro) (l'v : Value) (hl' : RdN encr_64 ro l'v l') (ask0_v : AP) (hask0_ : Bun35R ro ask0_v ask0_) : DoesI prog 122 #[l'v, vI most, vF 123 #[] #[], vF 124 #[vA (Ac ask0_ ask0_v)] #[]] DZ ro [] (pV (vT #[vI r.1, vI r.2])) := by
 unfold GT at hM
 refine AO follows func122 rfl 20 rfl _ fz4 AT (fun base0_ => ?_)
 refine Ad <| r_a (197, #[vF 124 #[vA (Ac ask0_ ask0_v)] #[]]) rfl rfl rfl (fun b2 => ?_) (.inr rfl)
 refine r_R [vI 0, vI 0] rfl <| Aa <| AL [(some 13, false)] (conG prog [(13, fun _ _ v_ L_ U_ => ∀ u0_, GX N l' = some u0_ → (p1 (fun s_ => s_) 9 encS u0_) v_ L_ U_)]) <| r_R [l'v, vF 123 #[] #[]] rfl ?_
 obtain ⟨r4, hr5, hM⟩ := Ab hM
 refine Iy (Ls := [(No b2 (vF 124 #[vA (Ac ask0_ ask0_v)] #[]))]) (fun s6 => s6) 9 encS r4 177 _ rfl rfl rfl (cF Zw) (fun o w z_ => (Does.inv (OP N l' _ hr5 z_.view l'v (RdN.mono z_.ro_cell hl')) _)) (AF hr5) (fun s6 S7 H8 => ?_)
 refine r_a (81, #[nS]) rfl rfl rfl (fun b9 => ?_) (.inr rfl)
 refine r_s (List.flatten [(Ut b9 s6), (No b2 (vF 124 #[vA (Ac ask0_ ask0_v)] #[])), S7]) 0 _ _ _ _ _ (#[s6]) rfl rfl rfl (Du rfl (Sl.shp H8)) (.ofS rfl rfl (Ao (Shp.one (Sl.shp H8)) Bi)) rfl rfl <| Aa <| AL [(some 17, false)] (conG prog [(17, cV (FI N l' most r4 ask0_) fun u0_ => vT #[vI u0_.1, vI u0_.2])]) <| r_R [l'v, vI most] rfl <| r_W (vF 179 #[] #[vP b9 0, vP b2 0]) rfl (DV rfl) ?_
 obtain ⟨r11, hr12, hM⟩ := Ab hM
 refine rg (vT #[vI r11.1, vI r11.2]) (cF Zv) (fun o w z_ => OT N l' most r4 ask0_ _ hr12 z_.view l'v (RdN.mono z_.ro_cell hl') b9 s6 ((AN H8 (Aw (Ls := [(Ut b9 s6), (No b2 (vF 124 #[vA (Ac ask0_ ask0_v)] #[])), S7]) (k := 2) rfl rfl)) o w z_) (Bq 0 rfl rfl o w z_) b2 ask0_v (Bun35R.mono z_.ro_cell hask0_) (Bq 1 rfl rfl o w z_)) (AF hr12) <| r_R [vI r11.1, vI r11.2, vI r11.1, vI r11.2] rfl <| Aa ?_
 cases hM
 exact aR eV2
def CK (N : Nat) (c : Al) : Option (Int × Int) := if (c.2.2.2.2.1.length : Int) = 0 then some (0, 5) else (GT N c.2.2.2.2.1 16 c).bind fun r8 => some (r8.1, r8.2)
theorem OY (N : Nat) (c : Al) (r) (hM : CK N c = some r) (ro : Ro) (cv : AP) (hc : Bun35R ro cv c) : DoesI prog 67 #[vA (Ac c cv)] DZ ro [] (pV (vT #[vI r.1, vI r.2])) := by
 unfold CK at hM
 refine AO follows func67 rfl 17 rfl _ fz1 AT (fun base0_ => ?_)
 refine Ad <| r_a (92, (Ac c cv)) rfl rfl rfl (fun b2 => ?_) (.inr rfl)
 refine r_R [vI 0, vI 0] rfl <| Aa <| Ai fun K3 hK3 => Ad <| r_R [vP b2 0, vP b2 4] rfl <| rl cv.2.2.2.1 0 <| r_W (vI (c.2.2.2.2.1.length : Int)) rfl (Aj rfl rfl rfl (RdN.shp hc.2.2.2.1)) <| r_V (vB (((c.2.2.2.2.1.length : Int) == 0))) rfl <| Aa <| Af _ rfl (fun hc5 => ?_) (fun hc5 => ?_)
 ·replace hM := iE hc5 hM
  refine Ad <| r_R [vI 0, vI 5] rfl <| Aa ?_
  cases hM
  exact aR eV2
 replace hM := iG hc5 hM
 refine Ah <| hK3 _ _ ?_
 refine AL [(some 14, false)] (conG prog [(14, cV (GT N c.2.2.2.2.1 16 c) fun u0_ => vT #[vI u0_.1, vI u0_.2])]) <| r_R [vP b2 0, vP b2 4] rfl <| rl cv.2.2.2.1 0 <| rl (vA (Ac c cv)) 0 <| r_W (vF 124 #[vA (Ac c cv)] #[]) rfl (Ej rfl rfl) ?_
 obtain ⟨r8, hr9, hM⟩ := Ab hM
 refine rg (vT #[vI r8.1, vI r8.2]) (cF aa) (fun o w z_ => OK N c.2.2.2.2.1 16 c _ hr9 z_.view cv.2.2.2.1 (RdN.mono z_.ro_cell hc.2.2.2.1) cv (Bun35R.mono z_.ro_cell hc)) (AF hr9) <| r_R [vI r8.1, vI r8.2, vI r8.1, vI r8.2] rfl <| Aa ?_
 cases hM
 exact aR eV2
def FA (_ : Nat) (x_0 : List UInt8) (_ : List Int) (_ : List (Int × Int × Int × Int × BitVec 128)) : Option (List UInt8) := some x_0
theorem LP (N : Nat) (x_0 : List UInt8) (x_1 : List Int) (x_2 : List (Int × Int × Int × Int × BitVec 128)) (r) (hM : FA N x_0 x_1 x_2 = some r) (ro : Ro) (x_1v : Value) (_hx_1 : Rd BK ro x_1v x_1) (x_2v : Value) (_hx_2 : Rd enc_59 ro x_2v x_2) : Does prog 126 #[vA #[vS x_0, x_1v, x_2v]] ro [] (pV (vS r)) := by
 unfold FA at hM
 refine Aq follows func126 rfl 5 rfl _ fz1 (fun base0_ => ?_)
 refine Ad <| r_a (53, #[vS x_0, x_1v, x_2v]) rfl rfl rfl (fun b2 => ?_) (.inr rfl)
 refine r_V (Value.string (⟨#[]⟩)) rfl <| Aa <| Ad <| r_V (vP b2 0) rfl <| rl (vS x_0) 0 <| r_V (vS x_0) rfl <| Aa ?_
 cases hM
 exact aR eV1
def Dd (N : Nat) (l' : List ((List UInt8) × (List Int) × (List (Int × Int × Int × Int × BitVec 128)))) : Nat → List (List UInt8) → Int → Option (List (List UInt8))
  | 0, _, _ => none
  | n9 + 1, s1_, x2_ => if x2_ < (l'.length : Int) then ck (0 ≤ x2_ ∧ x2_ < (l'.length : Int)) ((FA N (l'[x2_.toNat]!.1) (l'[x2_.toNat]!.2.1) (l'[x2_.toNat]!.2.2)).bind fun r22 => ck (0 ≤ x2_ ∧ x2_ < (s1_.length : Int)) (ck (-9223372036854775808 ≤ (x2_ + 1) ∧ (x2_ + 1) ≤ 9223372036854775807) ((Dd N l' n9) ((s1_).set (x2_.toNat) r22) (x2_ + 1)))) else some s1_
def Gw (N : Nat) (l' : List ((List UInt8) × (List Int) × (List (Int × Int × Int × Int × BitVec 128)))) : Option (List (List UInt8)) := ck (0 ≤ (l'.length : Int) ∧ (l'.length : Int) ≤ 8796093022208) (Dd N l' N ((List.replicate ((l'.length : Int)).toNat ([]))) 0)
theorem NB (N : Nat) (l' : List ((List UInt8) × (List Int) × (List (Int × Int × Int × Int × BitVec 128)))) (r) (hM : Gw N l' = some r) (ro : Ro) (l'v : Value) (hl' : RdN encr_53 ro l'v l') : Does prog 186 #[l'v, vF 126 #[] #[]] ro [] (p1 (fun s_ => s_) 9 encS r) := by
 unfold Gw at hM
 refine Aq follows func186 rfl 26 rfl _ fz2 (fun base0_ => ?_)
 refine Ad <| r_V nS rfl <| Aa <| AL [(some 10, false)] (conG prog [(10, fun _ _ v_ L_ U_ => (p1 (fun v => v) 9 encS (List.replicate ((l'.length : Int)).toNat ([]))) v_ L_ U_)]) <| r_V l'v rfl <| r_W (vI (l'.length : Int)) rfl (Aj rfl rfl rfl (RdN.shp hl')) ?_
 obtain ⟨ck3, hM⟩ := Ae hM
 refine MW (Ls := []) 9 encS ([]) (l'.length : Int) rfl rfl rfl rfl rfl rfl rfl rfl rfl rfl 8796093022208 rfl ck3 (fun _ _ _ _ _ => Iff.rfl) (fun s4 S5 H6 => ?_)
 refine r_V s4 rfl <| Aa <| Ai fun K7 hK7 => Ad <| r_V l'v rfl <| r_W (vI (l'.length : Int)) rfl (Aj rfl rfl rfl (RdN.shp hl')) <| r_V (vI 0) rfl <| Aa <| Ap <| BF _ (Sub.pick [S5] [0] rfl) <| AS (fun tt ll nn => ∃ (n9 : Nat) (s1_ : List (List UInt8)) (x2_ : Int), (Dd N l' n9 s1_ x2_ = some r) ∧ ∃ (Ss1_ : List Bl), Sl 9 encS s4 s1_ Ss1_ ∧ Is [(1, vF 126 #[] #[]), (5, s4), (11, l'v), (12, vI (l'.length : Int)), (13, vI x2_)] (List.flatten [Ss1_]) tt ll ∧ nn = n9 + 1) (N + 1) ?_ ?_
 ·exact ⟨N, (List.replicate ((l'.length : Int)).toNat ([])), 0, hM, S5, H6, Ak rfl rfl, rfl⟩
 clear hM; rintro t l _ ⟨n9, s1_, x2_, hM, Ss1_, hs1_, ⟨⟨T, rfl⟩, rfl⟩, rfl⟩
 rcases n9 with _ | n9
 ·exact absurd hM (by simp [Dd])
 rw [Dd] at hM
 refine Ad <| r_V (vB (decide (x2_ < (l'.length : Int)))) rfl <| Aa <| Ai fun K11 hK11 => Af _ rfl (fun hc12 => ?_) (fun hc12 => ?_)
 ·replace hM := iD hc12 hM
  refine Ah <| hK11 _ _ ?_
  refine Ai fun K13 hK13 => Ap <| Ad <| r_V (vI x2_) rfl ?_
  obtain ⟨ck15, hM⟩ := Ae hM
  obtain ⟨_, ⟨s16, s17, hs18, hs19, rfl⟩, hat20⟩ := RdN.at (E := encr_53) hl' (AA ck15)
  refine r_W (elA l'v (x2_.toNat * 3)) rfl (AD (An rfl rfl rfl (RdN.shp hl') ck15)) <| Eo (vA #[vS (l'[x2_.toNat]!.1), s16, s17]) (vs := [vS (l'[x2_.toNat]!.1), s16, s17]) (x2_.toNat * 3) 0 rfl rfl (fun o w z_ => At.mono z_.ro_cell hat20) rfl <| r_a (53, #[Value.string (⟨#[]⟩), nS, nS]) rfl rfl rfl (fun b21 => ?_) (.inr rfl)
  refine r_V (vI x2_) rfl <| r_s (List.flatten [(Qm b21 (l'[x2_.toNat]!.1) s16 s17), Ss1_]) 0 _ _ _ _ _ (#[vS (l'[x2_.toNat]!.1), s16, s17]) rfl rfl rfl rfl (.ofS rfl rfl (Ao rfl (Ao (Shp.one (Rd.shp hs18)) (Ao (Shp.one (Rd.shp hs19)) Bi)))) rfl rfl <| Aa <| BB [(some 22, false)] (conG prog [(22, cV (FA N (l'[x2_.toNat]!.1) (l'[x2_.toNat]!.2.1) (l'[x2_.toNat]!.2.2)) fun u0_ => vS u0_)]) <| r_R [s4, vI x2_, vF 126 #[] #[]] rfl <| rl (vA #[vS (l'[x2_.toNat]!.1), s16, s17]) 0 ?_
  obtain ⟨r22, hr23, hM⟩ := Ab hM
  refine rg (vS r22) (AX (caps := []) rfl ZW rfl) (fun o w z_ => LP N (l'[x2_.toNat]!.1) (l'[x2_.toNat]!.2.1) (l'[x2_.toNat]!.2.2) _ hr23 z_.view s16 ((Av hs18) o w z_) s17 ((Av hs19) o w z_)) (AF hr23) ?_
  obtain ⟨ck24, hM⟩ := Ae hM
  refine r_W (elA s4 (x2_.toNat * 1)) rfl (AD (An rfl rfl rfl (Sl.shp hs1_) ck24)) <| MV (Ls := [(Qm b21 (l'[x2_.toNat]!.1) s16 s17), Ss1_]) 1 (En := encS) (s1_[x2_.toNat]!) r22 (x2_.toNat) 0 rfl rfl rfl hs1_ (AA ck24) rfl rfl rfl (Gr rfl) rfl (fun S25 H26 => ?_)
  refine Aa <| hK13 _ _ ?_
  refine Ax ?_
  obtain ⟨ck27, hM⟩ := Ae hM
  refine r_X (vI (x2_ + 1)) rfl (AR rfl ck27.1 ck27.2) rfl <| r_V (vI (x2_ + 1)) rfl <| Aa <| fg _ (Sub.pick [(Qm b21 (l'[x2_.toNat]!.1) s16 s17), S25] [1] rfl) ?_
  exact ⟨n9 + 1, by omega, n9, (s1_).set (x2_.toNat) r22, (x2_ + 1), hM, S25, H26, Ak rfl rfl, rfl⟩
 replace hM := iF hc12 hM
 refine AM <| hK7 _ _ ?_
 refine Ad <| r_R [s4, s4] rfl <| Aa ?_
 cases hM
 refine AW (fun hn => Ex (v0 := s4) hs1_ (Cv (Sub.pick [Ss1_] [0] rfl)) rfl (Cy rfl))
def HA (N : Nat) (_ : Int) (w : Int) : Option Int := (CE N w).bind fun r3 => some r3
theorem QE (N : Nat) (x w r : Int) (hM : HA N x w = some r) : Gives prog 189 #[vI x, vI w] (vI r) := by
 unfold HA at hM
 refine AC follows func189 rfl 7 rfl _ fz2 (fun base0_ => ?_)
 refine Ad <| r_V (vI 0) rfl <| Aa <| Ad <| r_V (vI w) rfl ?_
 obtain ⟨r3, hr4, hM⟩ := Ab hM
 refine rc (vI r3) (cF Ok) (IW N w _ hr4) <| r_V (vI r3) rfl <| Aa ?_
 cases hM
 exact aR eE1
def Fp (N : Nat) (l' : List Int) : Nat → Int → Option (Int × Int)
  | 0, _ => none
  | n8 + 1, x1_ => if x1_ < (l'.length : Int) then ck (0 ≤ x1_ ∧ x1_ < (l'.length : Int)) ((HA N x1_ (l'[x1_.toNat]!)).bind fun r16 => if (r16 : Int) ≠ 0 then some (x1_, r16) else ck (-9223372036854775808 ≤ (x1_ + 1) ∧ (x1_ + 1) ≤ 9223372036854775807) ((Fp N l' n8) (x1_ + 1))) else some (0, 0)
def Hl (N : Nat) (l' : List Int) (most : Int) : Option (Int × Int) := if (l'.length : Int) > most then some (0, 2) else Fp N l' N 0
theorem Rw (N : Nat) (l' : List Int) (most : Int) (r) (hM : Hl N l' most = some r) (ro : Ro) (l'v : Value) (hl' : Rd BK ro l'v l') : Does prog 132 #[l'v, vI most, vF 189 #[] #[]] ro [] (pV (vT #[vI r.1, vI r.2])) := by
 unfold Hl at hM
 refine Aq follows func132 rfl 31 rfl _ fz3 (fun base0_ => ?_)
 refine Ad <| r_R [vI 0, vI 0] rfl <| Aa <| Ai fun K2 hK2 => Ad <| r_V l'v rfl <| r_W (vI (l'.length : Int)) rfl (Aj rfl rfl rfl (Rd.shp hl')) <| r_R [vI most, vB (decide ((l'.length : Int) > most))] rfl <| Aa <| Af _ rfl (fun hc4 => ?_) (fun hc4 => ?_)
 ·replace hM := iD hc4 hM
  refine Ad <| r_R [vI 0, vI 2] rfl <| Aa ?_
  cases hM
  exact aR eV2
 replace hM := iF hc4 hM
 refine Ah <| hK2 _ _ ?_
 refine Ai fun K6 hK6 => Ad <| r_V l'v rfl <| r_W (vI (l'.length : Int)) rfl (Aj rfl rfl rfl (Rd.shp hl')) <| r_V (vI 0) rfl <| Aa <| Ap <| AS (fun tt ll nn => ∃ (n8 : Nat) (x1_ : Int), (Fp N l' n8 x1_ = some r) ∧ Is [(2, vF 189 #[] #[]), (15, l'v), (16, vI (l'.length : Int)), (17, vI x1_)] [] tt ll ∧ nn = n8 + 1) (N + 1) ?_ ?_
 ·exact ⟨N, 0, hM, Ak rfl rfl, rfl⟩
 clear hM; rintro t l _ ⟨n8, x1_, hM, ⟨⟨T, rfl⟩, rfl⟩, rfl⟩
 rcases n8 with _ | n8
 ·exact absurd hM (by simp [Fp])
 rw [Fp] at hM
 refine Ad <| r_V (vB (decide (x1_ < (l'.length : Int)))) rfl <| Aa <| Ai fun K10 hK10 => Af _ rfl (fun hc11 => ?_) (fun hc11 => ?_)
 ·replace hM := iD hc11 hM
  refine Ah <| hK10 _ _ ?_
  refine Ai fun K12 hK12 => Ap <| Ad <| r_V (vI x1_) rfl ?_
  obtain ⟨ck14, hM⟩ := Ae hM
  refine r_W (elA l'v (x1_.toNat * 1)) rfl (AD (An rfl rfl rfl (Rd.shp hl') ck14)) <| Bw (vI (l'[x1_.toNat]!)) (En := BK) (l'[x1_.toNat]!) (x1_.toNat) 0 rfl rfl (Av hl') (AA ck14) rfl <| r_R [vI x1_, vI (l'[x1_.toNat]!)] rfl <| Aa <| Ad <| r_R [vF 189 #[] #[], vI x1_, vI (l'[x1_.toNat]!)] rfl ?_
  obtain ⟨r16, hr17, hM⟩ := Ab hM
  refine rc (vI r16) (AX (caps := []) rfl Zm rfl) (QE N x1_ (l'[x1_.toNat]!) _ hr17) <| r_V (vI r16) rfl <| Aa <| Ad <| r_R [vI r16, vB (r16 != 0)] rfl <| Aa <| Af _ rfl (fun hc19 => ?_) (fun hc19 => ?_)
  ·replace hM := iN hc19 hM
   refine Ad <| r_R [vI x1_, vI r16, vI x1_, vI r16] rfl <| Aa ?_
   cases hM
   exact aR eV2
  replace hM := iM hc19 hM
  refine Ah <| hK12 _ _ ?_
  refine Ax ?_
  obtain ⟨ck21, hM⟩ := Ae hM
  refine r_X (vI (x1_ + 1)) rfl (AR rfl ck21.1 ck21.2) rfl <| r_V (vI (x1_ + 1)) rfl <| Aa <| fg _ (Sub.of suN) ?_
  exact ⟨n8 + 1, by omega, n8, (x1_ + 1), hM, Ak rfl rfl, rfl⟩
 replace hM := iF hc11 hM
 refine AM <| hK6 _ _ ?_
 refine Ad <| r_R [vI 0, vI 0] rfl <| Aa ?_
 cases hM
 exact aR eV2
def DX (_ : Nat) (n : Int) : Option (Int × Int) := ck (-9223372036854775808 ≤ (n - 1) ∧ (n - 1) ≤ 9223372036854775807) (some (0, (n - 1)))
theorem FC (N : Nat) (n : Int) (r) (hM : DX N n = some r) : Gives prog 311 #[vI n] (vA #[vI r.1, vI r.2]) := by
 unfold DX at hM
 refine AC follows func311 rfl 6 rfl _ fz1 (fun base0_ => ?_)
 refine Ad <| r_a (370, #[vI 0, vI 0]) rfl rfl rfl (fun b2 => ?_) (.inr rfl)
 refine Aa <| Ad <| r_V (vI n) rfl ?_
 obtain ⟨ck4, hM⟩ := Ae hM
 refine r_X (vI (n - 1)) rfl (AR rfl ck4.1 ck4.2) rfl <| r_W (vA #[vI 0, vI (n - 1)]) rfl (AE rfl rfl rfl rfl) <| r_s (LG b2 0 (n - 1)) 0 _ _ _ _ _ (#[vI 0, vI (n - 1)]) rfl rfl rfl rfl (.of rfl rfl) rfl rfl <| Aa ?_
 cases hM
 refine AW (fun hn => CY (v0 := vA #[vI 0, vI (n - 1)]) rfl (Cy (AZ hn 0 rfl rfl rfl)))
def HQ (N : Nat) (x_0 : Int) (x13_ : Bool) : Option (Int × Int × Int × Int) := if x13_ = true then some (0, 64, 0, 0) else if x_0 = 33 then (DX N 32).bind fun r49 => some (r49.1, r49.2, 0, 64) else some (0, 0, 0, 0)
def HR (N : Nat) (x_0 : Int) (x11_ : Bool) : Option (Int × Int × Int × Int) := if x11_ = true then (DX N 16).bind fun r42 => some (r42.1, r42.2, 1, 4) else if x_0 = 31 then HQ N x_0 (x_0 == 31) else HQ N x_0 (x_0 == 32)
def HS (N : Nat) (x_0 : Int) (x_1 : Int) (x9_ : Bool) : Option (Int × Int × Int × Int) := if x9_ = true then some (0, 128, 0, 0) else if x_0 = 10 then (DX N 128).bind fun r35 => some (r35.1, r35.2, 0, x_1) else if x_0 = 11 then some (1, 128, 0, 0) else if x_0 = 27 then HR N x_0 (x_0 == 27) else HR N x_0 (x_0 == 28)
def GM (N : Nat) (x_0 : Int) (x_1 : Int) (x7_ : Bool) : Option (Int × Int × Int × Int) := if x7_ = true then (DX N 8).bind fun r28 => some (r28.1, r28.2, 0, 0) else if x_0 = 8 then HS N x_0 x_1 (x_0 == 8) else HS N x_0 x_1 (x_0 == 9)
def HH (N : Nat) (x_0 : Int) (x_1 : Int) (x5_ : Bool) : Option (Int × Int × Int × Int) := if x5_ = true then (DX N 32).bind fun r24 => some (r24.1, r24.2, 0, 0) else if x_0 = 5 then GM N x_0 x_1 (x_0 == 5) else if x_0 = 24 then GM N x_0 x_1 (x_0 == 24) else if x_0 = 29 then GM N x_0 x_1 (x_0 == 29) else GM N x_0 x_1 (x_0 == 30)
def IK (N : Nat) (x_0 : Int) (x_1 : Int) (x3_ : Bool) : Option (Int × Int × Int × Int) := if x3_ = true then (DX N 24).bind fun r15 => some (r15.1, r15.2, 0, 0) else if x_0 = 3 then (DX N 8).bind fun r20 => some (r20.1, r20.2, 0, 0) else if x_0 = 4 then HH N x_0 x_1 (x_0 == 4) else if x_0 = 25 then HH N x_0 x_1 (x_0 == 25) else HH N x_0 x_1 (x_0 == 26)
def IL (N : Nat) (x_0 : Int) (x_1 : Int) (x1_ : Bool) : Option (Int × Int × Int × Int) := if x1_ = true then (DX N 32).bind fun r9 => (DX N 16).bind fun r11 => some (r9.1, r9.2, r11.1, r11.2) else if x_0 = 2 then IK N x_0 x_1 (x_0 == 2) else IK N x_0 x_1 (x_0 == 23)
def HP (N : Nat) (x_0 : Int) (x_1 : Int) (_ : Int) (_ : Int) (_ : BitVec 128) : Option (Int × Int × Int × Int) := if x_0 = 1 then IL N x_0 x_1 (x_0 == 1) else IL N x_0 x_1 (x_0 == 22)
theorem XA (N : Nat) (x_0 x_1 x_2 x_3 : Int) (x_4 : BitVec 128) (r) (hM : HP N x_0 x_1 x_2 x_3 x_4 = some r) : Gives prog 305 #[vA #[vI x_0, vI x_1, vI x_2, vI x_3, U (hi x_4), U (lo x_4)]] (vT #[vA #[vI r.1, vI r.2.1], vA #[vI r.2.2.1, vI r.2.2.2]]) := by
 unfold HP at hM
 refine AC follows func305 rfl 64 rfl _ fz1 (fun base0_ => ?_)
 refine Ad <| r_a (59, #[vI x_0, vI x_1, vI x_2, vI x_3, U (hi x_4), U (lo x_4)]) rfl rfl rfl (fun b2 => ?_) (.inr rfl)
 refine r_a (370, #[vI 0, vI 0]) rfl rfl rfl (fun b3 => ?_) (.inr rfl)
 refine r_a (370, #[vI 0, vI 0]) rfl rfl rfl (fun b4 => ?_) (.inr rfl)
 refine Aa <| Ai fun K5 hK5 => Ad <| r_V (vP b2 0) rfl <| rl (vI x_0) 2 <| Aa <| Ap <| Bm (fun tt ll => ∃ (x1_ : Bool), (IL N x_0 x_1 x1_ = some r) ∧ Is [(1, vP b2 0), (2, vP b3 0), (3, vP b4 0), (5, vI x_0), (6, vB x1_)] [(b4, 370, #[vI 0, vI 0]), (b3, 370, #[vI 0, vI 0]), (b2, 59, #[vI x_0, vI x_1, vI x_2, vI x_3, U (hi x_4), U (lo x_4)])] tt ll) ?_ ?_
 ·refine Ad <| r_R [vB (x_0 == 1), vB (x_0 == 1)] rfl <| Aa <| Af _ rfl (fun hc71 => ?_) (fun hc71 => ?_)
  ·replace hM := iE hc71 hM
   refine Ah <| fg _ (Sub.of (suK _ (suK _ (suK _ suN)))) ?_
   exact ⟨(x_0 == 1), hM, Ak rfl rfl⟩
  replace hM := iG hc71 hM
  refine Ax <| r_R [vB (x_0 == 22), vB (x_0 == 22)] rfl <| Aa <| fg _ (Sub.of (suK _ (suK _ (suK _ suN)))) ?_
  exact ⟨(x_0 == 22), hM, Ak rfl rfl⟩
 clear hM; rintro t l ⟨x1_, hM, ⟨T, rfl⟩, rfl⟩
 unfold IL at hM
 refine Af _ rfl (fun hc7 => ?_) (fun hc7 => ?_)
 ·replace hM := ifp hc7 hM
  refine Ad ?_
  obtain ⟨r9, hr10, hM⟩ := Ab hM
  refine rc (vA #[vI r9.1, vI r9.2]) (cF GB) (FC N 32 _ hr10) ?_
  obtain ⟨r11, hr12, hM⟩ := Ab hM
  refine rc (vA #[vI r11.1, vI r11.2]) (cF GB) (FC N 16 _ hr12) <| r_s [(b4, 370, #[vI 0, vI 0]), (b3, 370, #[vI r9.1, vI r9.2]), (b2, 59, #[vI x_0, vI x_1, vI x_2, vI x_3, U (hi x_4), U (lo x_4)])] 1 _ _ _ _ _ (#[vI r9.1, vI r9.2]) rfl rfl rfl rfl (.of rfl rfl) rfl rfl <| r_s [(b4, 370, #[vI r11.1, vI r11.2]), (b3, 370, #[vI r9.1, vI r9.2]), (b2, 59, #[vI x_0, vI x_1, vI x_2, vI x_3, U (hi x_4), U (lo x_4)])] 0 _ _ _ _ _ (#[vI r11.1, vI r11.2]) rfl rfl rfl rfl (.of rfl rfl) rfl rfl <| Aa ?_
  cases hM
  refine AW (fun hn => CY (v0 := vT #[vA #[vI r9.1, vI r9.2], vA #[vI r11.1, vI r11.2]]) rfl (Iw (AZ hn 1 rfl rfl rfl) (AZ hn 0 rfl rfl rfl)))
 replace hM := iB hc7 hM
 refine Bm (fun tt ll => ∃ (x3_ : Bool), (IK N x_0 x_1 x3_ = some r) ∧ Is [(1, vP b2 0), (2, vP b3 0), (3, vP b4 0), (5, vI x_0), (11, vB x3_)] [(b4, 370, #[vI 0, vI 0]), (b3, 370, #[vI 0, vI 0]), (b2, 59, #[vI x_0, vI x_1, vI x_2, vI x_3, U (hi x_4), U (lo x_4)])] tt ll) ?_ ?_
 ·refine Ad <| r_R [vB (x_0 == 2), vB (x_0 == 2)] rfl <| Aa <| Af _ rfl (fun hc69 => ?_) (fun hc69 => ?_)
  ·replace hM := iE hc69 hM
   refine Ah <| fg _ (Sub.of (suK _ (suK _ (suK _ suN)))) ?_
   exact ⟨(x_0 == 2), hM, Ak rfl rfl⟩
  replace hM := iG hc69 hM
  refine Ax <| r_R [vB (x_0 == 23), vB (x_0 == 23)] rfl <| Aa <| fg _ (Sub.of (suK _ (suK _ (suK _ suN)))) ?_
  exact ⟨(x_0 == 23), hM, Ak rfl rfl⟩
 clear hM; rintro t l ⟨x3_, hM, ⟨T, rfl⟩, rfl⟩
 unfold IK at hM
 refine Af _ rfl (fun hc13 => ?_) (fun hc13 => ?_)
 ·replace hM := ifp hc13 hM
  refine Ad ?_
  obtain ⟨r15, hr16, hM⟩ := Ab hM
  refine rc (vA #[vI r15.1, vI r15.2]) (cF GB) (FC N 24 _ hr16) <| r_W (vA #[vI 0, vI 0]) rfl (AE rfl rfl rfl rfl) <| r_s [(b4, 370, #[vI 0, vI 0]), (b3, 370, #[vI r15.1, vI r15.2]), (b2, 59, #[vI x_0, vI x_1, vI x_2, vI x_3, U (hi x_4), U (lo x_4)])] 1 _ _ _ _ _ (#[vI r15.1, vI r15.2]) rfl rfl rfl rfl (.of rfl rfl) rfl rfl <| r_s [(b4, 370, #[vI 0, vI 0]), (b3, 370, #[vI r15.1, vI r15.2]), (b2, 59, #[vI x_0, vI x_1, vI x_2, vI x_3, U (hi x_4), U (lo x_4)])] 0 _ _ _ _ _ (#[vI 0, vI 0]) rfl rfl rfl rfl (.of rfl rfl) rfl rfl <| Aa ?_
  cases hM
  refine AW (fun hn => CY (v0 := vT #[vA #[vI r15.1, vI r15.2], vA #[vI 0, vI 0]]) rfl (Iw (AZ hn 1 rfl rfl rfl) (AZ hn 0 rfl rfl rfl)))
 replace hM := iB hc13 hM
 refine Ad <| r_R [vB (x_0 == 3), vB (x_0 == 3)] rfl <| Aa <| Af _ rfl (fun hc18 => ?_) (fun hc18 => ?_)
 ·replace hM := iE hc18 hM
  refine Ad ?_
  obtain ⟨r20, hr21, hM⟩ := Ab hM
  refine rc (vA #[vI r20.1, vI r20.2]) (cF GB) (FC N 8 _ hr21) <| r_W (vA #[vI 0, vI 0]) rfl (AE rfl rfl rfl rfl) <| r_s [(b4, 370, #[vI 0, vI 0]), (b3, 370, #[vI r20.1, vI r20.2]), (b2, 59, #[vI x_0, vI x_1, vI x_2, vI x_3, U (hi x_4), U (lo x_4)])] 1 _ _ _ _ _ (#[vI r20.1, vI r20.2]) rfl rfl rfl rfl (.of rfl rfl) rfl rfl <| r_s [(b4, 370, #[vI 0, vI 0]), (b3, 370, #[vI r20.1, vI r20.2]), (b2, 59, #[vI x_0, vI x_1, vI x_2, vI x_3, U (hi x_4), U (lo x_4)])] 0 _ _ _ _ _ (#[vI 0, vI 0]) rfl rfl rfl rfl (.of rfl rfl) rfl rfl <| Aa ?_
  cases hM
  refine AW (fun hn => CY (v0 := vT #[vA #[vI r20.1, vI r20.2], vA #[vI 0, vI 0]]) rfl (Iw (AZ hn 1 rfl rfl rfl) (AZ hn 0 rfl rfl rfl)))
 replace hM := iG hc18 hM
 refine Bm (fun tt ll => ∃ (x5_ : Bool), (HH N x_0 x_1 x5_ = some r) ∧ Is [(1, vP b2 0), (2, vP b3 0), (3, vP b4 0), (5, vI x_0), (20, vB x5_)] [(b4, 370, #[vI 0, vI 0]), (b3, 370, #[vI 0, vI 0]), (b2, 59, #[vI x_0, vI x_1, vI x_2, vI x_3, U (hi x_4), U (lo x_4)])] tt ll) ?_ ?_
 ·refine Ad <| r_R [vB (x_0 == 4), vB (x_0 == 4)] rfl <| Aa <| Af _ rfl (fun hc65 => ?_) (fun hc65 => ?_)
  ·replace hM := iE hc65 hM
   refine Ah <| fg _ (Sub.of (suK _ (suK _ (suK _ suN)))) ?_
   exact ⟨(x_0 == 4), hM, Ak rfl rfl⟩
  replace hM := iG hc65 hM
  refine Ad <| r_R [vB (x_0 == 25), vB (x_0 == 25)] rfl <| Aa <| Af _ rfl (fun hc67 => ?_) (fun hc67 => ?_)
  ·replace hM := iE hc67 hM
   refine Ah <| fg _ (Sub.of (suK _ (suK _ (suK _ suN)))) ?_
   exact ⟨(x_0 == 25), hM, Ak rfl rfl⟩
  replace hM := iG hc67 hM
  refine Ax <| r_R [vB (x_0 == 26), vB (x_0 == 26)] rfl <| Aa <| fg _ (Sub.of (suK _ (suK _ (suK _ suN)))) ?_
  exact ⟨(x_0 == 26), hM, Ak rfl rfl⟩
 clear hM; rintro t l ⟨x5_, hM, ⟨T, rfl⟩, rfl⟩
 unfold HH at hM
 refine Af _ rfl (fun hc22 => ?_) (fun hc22 => ?_)
 ·replace hM := ifp hc22 hM
  refine Ad ?_
  obtain ⟨r24, hr25, hM⟩ := Ab hM
  refine rc (vA #[vI r24.1, vI r24.2]) (cF GB) (FC N 32 _ hr25) <| r_W (vA #[vI 0, vI 0]) rfl (AE rfl rfl rfl rfl) <| r_s [(b4, 370, #[vI 0, vI 0]), (b3, 370, #[vI r24.1, vI r24.2]), (b2, 59, #[vI x_0, vI x_1, vI x_2, vI x_3, U (hi x_4), U (lo x_4)])] 1 _ _ _ _ _ (#[vI r24.1, vI r24.2]) rfl rfl rfl rfl (.of rfl rfl) rfl rfl <| r_s [(b4, 370, #[vI 0, vI 0]), (b3, 370, #[vI r24.1, vI r24.2]), (b2, 59, #[vI x_0, vI x_1, vI x_2, vI x_3, U (hi x_4), U (lo x_4)])] 0 _ _ _ _ _ (#[vI 0, vI 0]) rfl rfl rfl rfl (.of rfl rfl) rfl rfl <| Aa ?_
  cases hM
  refine AW (fun hn => CY (v0 := vT #[vA #[vI r24.1, vI r24.2], vA #[vI 0, vI 0]]) rfl (Iw (AZ hn 1 rfl rfl rfl) (AZ hn 0 rfl rfl rfl)))
 replace hM := iB hc22 hM
 refine Bm (fun tt ll => ∃ (x7_ : Bool), (GM N x_0 x_1 x7_ = some r) ∧ Is [(1, vP b2 0), (2, vP b3 0), (3, vP b4 0), (5, vI x_0), (26, vB x7_)] [(b4, 370, #[vI 0, vI 0]), (b3, 370, #[vI 0, vI 0]), (b2, 59, #[vI x_0, vI x_1, vI x_2, vI x_3, U (hi x_4), U (lo x_4)])] tt ll) ?_ ?_
 ·refine Ad <| r_R [vB (x_0 == 5), vB (x_0 == 5)] rfl <| Aa <| Af _ rfl (fun hc59 => ?_) (fun hc59 => ?_)
  ·replace hM := iE hc59 hM
   refine Ah <| fg _ (Sub.of (suK _ (suK _ (suK _ suN)))) ?_
   exact ⟨(x_0 == 5), hM, Ak rfl rfl⟩
  replace hM := iG hc59 hM
  refine Ad <| r_R [vB (x_0 == 24), vB (x_0 == 24)] rfl <| Aa <| Af _ rfl (fun hc61 => ?_) (fun hc61 => ?_)
  ·replace hM := iE hc61 hM
   refine Ah <| fg _ (Sub.of (suK _ (suK _ (suK _ suN)))) ?_
   exact ⟨(x_0 == 24), hM, Ak rfl rfl⟩
  replace hM := iG hc61 hM
  refine Ad <| r_R [vB (x_0 == 29), vB (x_0 == 29)] rfl <| Aa <| Af _ rfl (fun hc63 => ?_) (fun hc63 => ?_)
  ·replace hM := iE hc63 hM
   refine Ah <| fg _ (Sub.of (suK _ (suK _ (suK _ suN)))) ?_
   exact ⟨(x_0 == 29), hM, Ak rfl rfl⟩
  replace hM := iG hc63 hM
  refine Ax <| r_R [vB (x_0 == 30), vB (x_0 == 30)] rfl <| Aa <| fg _ (Sub.of (suK _ (suK _ (suK _ suN)))) ?_
  exact ⟨(x_0 == 30), hM, Ak rfl rfl⟩
 clear hM; rintro t l ⟨x7_, hM, ⟨T, rfl⟩, rfl⟩
 unfold GM at hM
 refine Af _ rfl (fun hc26 => ?_) (fun hc26 => ?_)
 ·replace hM := ifp hc26 hM
  refine Ad ?_
  obtain ⟨r28, hr29, hM⟩ := Ab hM
  refine rc (vA #[vI r28.1, vI r28.2]) (cF GB) (FC N 8 _ hr29) <| r_W (vA #[vI 0, vI 0]) rfl (AE rfl rfl rfl rfl) <| r_s [(b4, 370, #[vI 0, vI 0]), (b3, 370, #[vI r28.1, vI r28.2]), (b2, 59, #[vI x_0, vI x_1, vI x_2, vI x_3, U (hi x_4), U (lo x_4)])] 1 _ _ _ _ _ (#[vI r28.1, vI r28.2]) rfl rfl rfl rfl (.of rfl rfl) rfl rfl <| r_s [(b4, 370, #[vI 0, vI 0]), (b3, 370, #[vI r28.1, vI r28.2]), (b2, 59, #[vI x_0, vI x_1, vI x_2, vI x_3, U (hi x_4), U (lo x_4)])] 0 _ _ _ _ _ (#[vI 0, vI 0]) rfl rfl rfl rfl (.of rfl rfl) rfl rfl <| Aa ?_
  cases hM
  refine AW (fun hn => CY (v0 := vT #[vA #[vI r28.1, vI r28.2], vA #[vI 0, vI 0]]) rfl (Iw (AZ hn 1 rfl rfl rfl) (AZ hn 0 rfl rfl rfl)))
 replace hM := iB hc26 hM
 refine Bm (fun tt ll => ∃ (x9_ : Bool), (HS N x_0 x_1 x9_ = some r) ∧ Is [(1, vP b2 0), (2, vP b3 0), (3, vP b4 0), (5, vI x_0), (33, vB x9_)] [(b4, 370, #[vI 0, vI 0]), (b3, 370, #[vI 0, vI 0]), (b2, 59, #[vI x_0, vI x_1, vI x_2, vI x_3, U (hi x_4), U (lo x_4)])] tt ll) ?_ ?_
 ·refine Ad <| r_R [vB (x_0 == 8), vB (x_0 == 8)] rfl <| Aa <| Af _ rfl (fun hc57 => ?_) (fun hc57 => ?_)
  ·replace hM := iE hc57 hM
   refine Ah <| fg _ (Sub.of (suK _ (suK _ (suK _ suN)))) ?_
   exact ⟨(x_0 == 8), hM, Ak rfl rfl⟩
  replace hM := iG hc57 hM
  refine Ax <| r_R [vB (x_0 == 9), vB (x_0 == 9)] rfl <| Aa <| fg _ (Sub.of (suK _ (suK _ (suK _ suN)))) ?_
  exact ⟨(x_0 == 9), hM, Ak rfl rfl⟩
 clear hM; rintro t l ⟨x9_, hM, ⟨T, rfl⟩, rfl⟩
 unfold HS at hM
 refine Af _ rfl (fun hc30 => ?_) (fun hc30 => ?_)
 ·replace hM := ifp hc30 hM
  refine Ad <| r_W (vA #[vI 0, vI 128]) rfl (AE rfl rfl rfl rfl) <| r_W (vA #[vI 0, vI 0]) rfl (AE rfl rfl rfl rfl) <| r_s [(b4, 370, #[vI 0, vI 0]), (b3, 370, #[vI 0, vI 128]), (b2, 59, #[vI x_0, vI x_1, vI x_2, vI x_3, U (hi x_4), U (lo x_4)])] 1 _ _ _ _ _ (#[vI 0, vI 128]) rfl rfl rfl rfl (.of rfl rfl) rfl rfl <| r_s [(b4, 370, #[vI 0, vI 0]), (b3, 370, #[vI 0, vI 128]), (b2, 59, #[vI x_0, vI x_1, vI x_2, vI x_3, U (hi x_4), U (lo x_4)])] 0 _ _ _ _ _ (#[vI 0, vI 0]) rfl rfl rfl rfl (.of rfl rfl) rfl rfl <| Aa ?_
  cases hM
  refine AW (fun hn => CY (v0 := vT #[vA #[vI 0, vI 128], vA #[vI 0, vI 0]]) rfl (Iw (AZ hn 1 rfl rfl rfl) (AZ hn 0 rfl rfl rfl)))
 replace hM := iB hc30 hM
 refine Ad <| r_R [vB (x_0 == 10), vB (x_0 == 10)] rfl <| Aa <| Af _ rfl (fun hc33 => ?_) (fun hc33 => ?_)
 ·replace hM := iE hc33 hM
  refine Ai fun K34 hK34 => UM (Ls := [(LG b4 0 0), (LG b3 0 0), (Hh b2 x_0 x_1 x_2 x_3 (hi x_4) (lo x_4))]) [(some 1000000000, true)] [] [1, 0] [2] [] (by decide +kernel) (fun hn => Be) (by decide +kernel) rfl trivial (fun hnb_ => ?_)
  obtain ⟨r35, hr36, hM⟩ := Ab hM
  refine rc (vA #[vI r35.1, vI r35.2]) (cF GB) (FC N 128 _ hr36) <| r_V (vP b2 1) rfl <| aT (vI x_1) 2 _ _ _ _ rfl rfl rfl rfl rfl (hnb_ b2 (List.mem_of_getElem? (i := 0) rfl)) <| r_W (vA #[vI 0, vI x_1]) rfl (AE rfl rfl rfl rfl) <| eV [(b4, 370, #[vI 0, vI 0]), (b3, 370, #[vI r35.1, vI r35.2]), (b2, 59, #[vI x_0, vI x_1, vI x_2, vI x_3, U (hi x_4), U (lo x_4)])] 1 _ _ _ (#[vI 0, vI 0]) (#[vI r35.1, vI r35.2]) (#[vI r35.1, vI r35.2]) rfl rfl rfl rfl (.of rfl rfl) rfl rfl (List.mem_of_getElem? (i := 0) rfl) ?_
  refine eV [(b4, 370, #[vI 0, vI x_1]), (b3, 370, #[vI r35.1, vI r35.2]), (b2, 59, #[vI x_0, vI x_1, vI x_2, vI x_3, U (hi x_4), U (lo x_4)])] 0 _ _ _ (#[vI 0, vI 0]) (#[vI 0, vI x_1]) (#[vI 0, vI x_1]) rfl rfl rfl rfl (.of rfl rfl) rfl rfl (List.mem_of_getElem? (i := 1) rfl) <| Aa <| hK34 _ _ ?_
  cases hM
  refine AW (fun hn => CY (v0 := vT #[vA #[vI r35.1, vI r35.2], vA #[vI 0, vI x_1]]) rfl (Iw (AZ hn 1 rfl rfl rfl) (AZ hn 0 rfl rfl rfl)))
 replace hM := iG hc33 hM
 refine Ad <| r_R [vB (x_0 == 11), vB (x_0 == 11)] rfl <| Aa <| Af _ rfl (fun hc38 => ?_) (fun hc38 => ?_)
 ·replace hM := iE hc38 hM
  refine Ad <| r_W (vA #[vI 1, vI 128]) rfl (AE rfl rfl rfl rfl) <| r_W (vA #[vI 0, vI 0]) rfl (AE rfl rfl rfl rfl) <| r_s [(b4, 370, #[vI 0, vI 0]), (b3, 370, #[vI 1, vI 128]), (b2, 59, #[vI x_0, vI x_1, vI x_2, vI x_3, U (hi x_4), U (lo x_4)])] 1 _ _ _ _ _ (#[vI 1, vI 128]) rfl rfl rfl rfl (.of rfl rfl) rfl rfl <| r_s [(b4, 370, #[vI 0, vI 0]), (b3, 370, #[vI 1, vI 128]), (b2, 59, #[vI x_0, vI x_1, vI x_2, vI x_3, U (hi x_4), U (lo x_4)])] 0 _ _ _ _ _ (#[vI 0, vI 0]) rfl rfl rfl rfl (.of rfl rfl) rfl rfl <| Aa ?_
  cases hM
  refine AW (fun hn => CY (v0 := vT #[vA #[vI 1, vI 128], vA #[vI 0, vI 0]]) rfl (Iw (AZ hn 1 rfl rfl rfl) (AZ hn 0 rfl rfl rfl)))
 replace hM := iG hc38 hM
 refine Bm (fun tt ll => ∃ (x11_ : Bool), (HR N x_0 x11_ = some r) ∧ Is [(2, vP b3 0), (3, vP b4 0), (5, vI x_0), (48, vB x11_)] [(b4, 370, #[vI 0, vI 0]), (b3, 370, #[vI 0, vI 0])] tt ll) ?_ ?_
 ·refine Ad <| r_R [vB (x_0 == 27), vB (x_0 == 27)] rfl <| Aa <| Af _ rfl (fun hc55 => ?_) (fun hc55 => ?_)
  ·replace hM := iE hc55 hM
   refine Ah <| fg _ (Sub.of (suK _ (suK _ (suC _ suN)))) ?_
   exact ⟨(x_0 == 27), hM, Ak rfl rfl⟩
  replace hM := iG hc55 hM
  refine Ax <| r_R [vB (x_0 == 28), vB (x_0 == 28)] rfl <| Aa <| fg _ (Sub.of (suK _ (suK _ (suC _ suN)))) ?_
  exact ⟨(x_0 == 28), hM, Ak rfl rfl⟩
 clear hM; rintro t l ⟨x11_, hM, ⟨T, rfl⟩, rfl⟩
 unfold HR at hM
 refine Af _ rfl (fun hc40 => ?_) (fun hc40 => ?_)
 ·replace hM := ifp hc40 hM
  refine Ad ?_
  obtain ⟨r42, hr43, hM⟩ := Ab hM
  refine rc (vA #[vI r42.1, vI r42.2]) (cF GB) (FC N 16 _ hr43) <| r_W (vA #[vI 1, vI 4]) rfl (AE rfl rfl rfl rfl) <| r_s [(b4, 370, #[vI 0, vI 0]), (b3, 370, #[vI r42.1, vI r42.2])] 1 _ _ _ _ _ (#[vI r42.1, vI r42.2]) rfl rfl rfl rfl (.of rfl rfl) rfl rfl <| r_s [(b4, 370, #[vI 1, vI 4]), (b3, 370, #[vI r42.1, vI r42.2])] 0 _ _ _ _ _ (#[vI 1, vI 4]) rfl rfl rfl rfl (.of rfl rfl) rfl rfl <| Aa ?_
  cases hM
  refine AW (fun hn => CY (v0 := vT #[vA #[vI r42.1, vI r42.2], vA #[vI 1, vI 4]]) rfl (Iw (AZ hn 1 rfl rfl rfl) (AZ hn 0 rfl rfl rfl)))
 replace hM := iB hc40 hM
 refine Bm (fun tt ll => ∃ (x13_ : Bool), (HQ N x_0 x13_ = some r) ∧ Is [(2, vP b3 0), (3, vP b4 0), (5, vI x_0), (53, vB x13_)] [(b4, 370, #[vI 0, vI 0]), (b3, 370, #[vI 0, vI 0])] tt ll) ?_ ?_
 ·refine Ad <| r_R [vB (x_0 == 31), vB (x_0 == 31)] rfl <| Aa <| Af _ rfl (fun hc53 => ?_) (fun hc53 => ?_)
  ·replace hM := iE hc53 hM
   refine Ah <| fg _ (Sub.of (suK _ (suK _ suN))) ?_
   exact ⟨(x_0 == 31), hM, Ak rfl rfl⟩
  replace hM := iG hc53 hM
  refine Ax <| r_R [vB (x_0 == 32), vB (x_0 == 32)] rfl <| Aa <| fg _ (Sub.of (suK _ (suK _ suN))) ?_
  exact ⟨(x_0 == 32), hM, Ak rfl rfl⟩
 clear hM; rintro t l ⟨x13_, hM, ⟨T, rfl⟩, rfl⟩
 unfold HQ at hM
 refine Af _ rfl (fun hc44 => ?_) (fun hc44 => ?_)
 ·replace hM := ifp hc44 hM
  refine Ad <| r_W (vA #[vI 0, vI 64]) rfl (AE rfl rfl rfl rfl) <| r_W (vA #[vI 0, vI 0]) rfl (AE rfl rfl rfl rfl) <| r_s [(b4, 370, #[vI 0, vI 0]), (b3, 370, #[vI 0, vI 64])] 1 _ _ _ _ _ (#[vI 0, vI 64]) rfl rfl rfl rfl (.of rfl rfl) rfl rfl <| r_s [(b4, 370, #[vI 0, vI 0]), (b3, 370, #[vI 0, vI 64])] 0 _ _ _ _ _ (#[vI 0, vI 0]) rfl rfl rfl rfl (.of rfl rfl) rfl rfl <| Aa ?_
  cases hM
  refine AW (fun hn => CY (v0 := vT #[vA #[vI 0, vI 64], vA #[vI 0, vI 0]]) rfl (Iw (AZ hn 1 rfl rfl rfl) (AZ hn 0 rfl rfl rfl)))
 replace hM := iB hc44 hM
 refine Ad <| r_R [vB (x_0 == 33), vB (x_0 == 33)] rfl <| Aa <| Af _ rfl (fun hc47 => ?_) (fun hc47 => ?_)
 ·replace hM := iE hc47 hM
  refine Ad ?_
  obtain ⟨r49, hr50, hM⟩ := Ab hM
  refine rc (vA #[vI r49.1, vI r49.2]) (cF GB) (FC N 32 _ hr50) <| r_W (vA #[vI 0, vI 64]) rfl (AE rfl rfl rfl rfl) <| r_s [(b4, 370, #[vI 0, vI 0]), (b3, 370, #[vI r49.1, vI r49.2])] 1 _ _ _ _ _ (#[vI r49.1, vI r49.2]) rfl rfl rfl rfl (.of rfl rfl) rfl rfl <| r_s [(b4, 370, #[vI 0, vI 64]), (b3, 370, #[vI r49.1, vI r49.2])] 0 _ _ _ _ _ (#[vI 0, vI 64]) rfl rfl rfl rfl (.of rfl rfl) rfl rfl <| Aa ?_
  cases hM
  refine AW (fun hn => CY (v0 := vT #[vA #[vI r49.1, vI r49.2], vA #[vI 0, vI 64]]) rfl (Iw (AZ hn 1 rfl rfl rfl) (AZ hn 0 rfl rfl rfl)))
 replace hM := iG hc47 hM
 refine Ah <| hK5 _ _ ?_
 refine Ad <| r_W (vA #[vI 0, vI 0]) rfl (AE rfl rfl rfl rfl) <| r_W (vA #[vI 0, vI 0]) rfl (AE rfl rfl rfl rfl) <| r_s [(b4, 370, #[vI 0, vI 0]), (b3, 370, #[vI 0, vI 0])] 1 _ _ _ _ _ (#[vI 0, vI 0]) rfl rfl rfl rfl (.of rfl rfl) rfl rfl <| r_s [(b4, 370, #[vI 0, vI 0]), (b3, 370, #[vI 0, vI 0])] 0 _ _ _ _ _ (#[vI 0, vI 0]) rfl rfl rfl rfl (.of rfl rfl) rfl rfl <| Aa ?_
 cases hM
 refine AW (fun hn => CY (v0 := vT #[vA #[vI 0, vI 0], vA #[vI 0, vI 0]]) rfl (Iw (AZ hn 1 rfl rfl rfl) (AZ hn 0 rfl rfl rfl)))
def JA (_ : Nat) (o : Int) : Option Bool := if o ≥ 0 then some (decide (o < 35)) else some false
theorem Xz (N : Nat) (o : Int) (r) (hM : JA N o = some r) : Gives prog 306 #[vI o] (vB r) := by
 unfold JA at hM
 refine AC follows func306 rfl 9 rfl _ fz1 (fun base0_ => ?_)
 refine Ad <| r_V (vB false) rfl <| Aa <| Ai fun K2 hK2 => Ax <| r_R [vI o, vB (decide (o ≥ 0)), vB (decide (o ≥ 0))] rfl ?_
 rcases hg3 : (decide (o ≥ 0)) with _ | _
 ·replace hM := iF hg3 hM
  refine r_R [none, none, vB false, vB false] rfl <| Aa <| hK2 _ _ ?_
  cases hM
  exact aR eE1
 replace hM := iD hg3 hM
 refine r_R [vI o, vB (decide (o < 35)), vB (decide (o < 35)), vB (decide (o < 35))] rfl <| Aa <| hK2 _ _ ?_
 cases hM
 exact aR eE1
def El (_ : Nat) (s_0 : Int) (s_1 : Int) (n : Int) : Option Bool := if n ≥ s_0 then some (decide (n ≤ s_1)) else some false
theorem Li (N : Nat) (s_0 s_1 n : Int) (r) (hM : El N s_0 s_1 n = some r) : Gives prog 307 #[vA #[vI s_0, vI s_1], vI n] (vB r) := by
 unfold El at hM
 refine AC follows func307 rfl 15 rfl _ fz2 (fun base0_ => ?_)
 refine Ad <| r_a (370, #[vI s_0, vI s_1]) rfl rfl rfl (fun b2 => ?_) (.inr rfl)
 refine r_V (vB false) rfl <| Aa <| Ai fun K3 hK3 => Ax <| r_R [vI n, vP b2 0] rfl <| rl (vI s_0) 0 <| r_R [vB (decide (n ≥ s_0)), vB (decide (n ≥ s_0))] rfl ?_
 rcases hg4 : (decide (n ≥ s_0)) with _ | _
 ·replace hM := iF hg4 hM
  refine r_R [none, none, none, none, vB false, vB false] rfl <| Aa <| hK3 _ _ ?_
  cases hM
  exact aR eE1
 replace hM := iD hg4 hM
 refine r_R [vI n, vP b2 1] rfl <| r_y rfl <| rl (vI s_1) 0 <| r_R [vB (decide (n ≤ s_1)), vB (decide (n ≤ s_1)), vB (decide (n ≤ s_1))] rfl <| Aa <| hK3 _ _ ?_
 cases hM
 exact aR eE1
theorem fT  : prog.eqGuardType prog.depth 57 = false := by kernel_rfl
theorem eT  : prog.stoodInHeld 57 = false := by kernel_rfl
set_option maxRecDepth 100000 in
theorem bL  {c : Addr → Option Value} (x0 y0 : Int) (x1 y1 : BitVec 128) : ev prog c (Op.equal 57 (.agg #[vI x0, U (hi x1), U (lo x1)]) (.agg #[vI y0, U (hi y1), U (lo y1)])) = some ((x0 == y0) && (x1 == y1)) := by
 have h := Mh (P := prog) (c := c) 9999 (t := 57) #[vI x0, U (hi x1), U (lo x1)] #[vI y0, U (hi y1), U (lo y1)] rfl eT (fun f => if f.offset = 0 then (x0 == y0) else if f.offset = 1 then (((hi x1).toNat : Int) == ((hi y1).toNat : Int)) else (((lo x1).toNat : Int) == ((lo y1).toNat : Int)))
   (fun f hf => by
     simp only [List.mem_cons, List.not_mem_nil, or_false] at hf
     rcases hf with rfl | rfl | rfl
     · exact ⟨by decide, _, _, FM (P := prog) (t := 3) rfl (by intro fs h; cases h) (by intro n e h; cases h) _ _ rfl, FM (P := prog) (t := 3) rfl (by intro fs h; cases h) (by intro n e h; cases h) _ _ rfl, Jy _ _ _ rfl⟩
     · exact ⟨by decide, _, _, FM (P := prog) (t := 55) rfl (by intro fs h; cases h) (by intro n e h; cases h) _ _ rfl, FM (P := prog) (t := 55) rfl (by intro fs h; cases h) (by intro n e h; cases h) _ _ rfl, Jy _ _ _ rfl⟩
     · exact ⟨by decide, _, _, FM (P := prog) (t := 55) rfl (by intro fs h; cases h) (by intro n e h; cases h) _ _ rfl, FM (P := prog) (t := 55) rfl (by intro fs h; cases h) (by intro n e h; cases h) _ _ rfl, Jy _ _ _ rfl⟩)
 rw [← QR x1 y1]; rw [show Op.equal 57 (.agg #[vI x0, U (hi x1), U (lo x1)]) (.agg #[vI y0, U (hi y1), U (lo y1)]) = Op.equalIn (9999 + 1) 57 (.agg #[vI x0, U (hi x1), U (lo x1)]) (.agg #[vI y0, U (hi y1), U (lo y1)]) from rfl, h]
 first | (simp; done) | simp [Bool.and_assoc]
def FN (N : Nat) (x_0 : Int) (_ : Int) (_ : Int) (x_3 : Int) (x_4 : BitVec 128) : Option Bool := if x_0 = 0 then (HB N x_3 x_4).bind fun r7 => some r7 else some ((x_3 == 0) && (x_4 == ((0#64) ++ (0#64))))
theorem Pg (N : Nat) (x_0 x_1 x_2 x_3 : Int) (x_4 : BitVec 128) (r) (hM : FN N x_0 x_1 x_2 x_3 x_4 = some r) : Gives prog 308 #[vA #[vI x_0, vI x_1, vI x_2, vI x_3, U (hi x_4), U (lo x_4)]] (vB r) := by
 unfold FN at hM
 refine AC follows func308 rfl 13 rfl _ fz1 (fun base0_ => ?_)
 refine Ad <| r_a (59, #[vI x_0, vI x_1, vI x_2, vI x_3, U (hi x_4), U (lo x_4)]) rfl rfl rfl (fun b2 => ?_) (.inr rfl)
 refine r_V (vB false) rfl <| Aa <| Ai fun K3 hK3 => Ad <| r_V (vP b2 0) rfl <| rl (vI x_0) 0 <| r_V (vB (x_0 == 0)) rfl <| Aa <| Af _ rfl (fun hc5 => ?_) (fun hc5 => ?_)
 ·replace hM := iE hc5 hM
  refine Ad <| r_V (vP b2 3) rfl <| rl (vA #[vI x_3, U (hi x_4), U (lo x_4)]) 0 ?_
  obtain ⟨r7, hr8, hM⟩ := Ab hM
  refine rc (vB r7) (cF Su) (Pi N x_3 x_4 _ hr8) <| r_V (vB r7) rfl <| Aa ?_
  cases hM
  exact aR eE1
 replace hM := iG hc5 hM
 refine Ah <| hK3 _ _ ?_
 refine Ad <| r_V (vP b2 3) rfl <| rl (vA #[vI x_3, U (hi x_4), U (lo x_4)]) 0 <| r_W (vA #[vI 0, U (0#64), U (0#64)]) rfl (AE rfl rfl rfl rfl) <| r_W (vB ((x_3 == 0) && (x_4 == ((0#64) ++ (0#64))))) rfl (NT rfl rfl fT (by have h_ := fun c => bL (c := c) x_3 0 x_4 ((0#64) ++ (0#64)); simp only [Bc] at h_; exact h_ _)) ?_
 refine r_V (vB ((x_3 == 0) && (x_4 == ((0#64) ++ (0#64))))) rfl <| Aa ?_
 cases hM
 exact aR eE1
def Hs (N : Nat) (x_0 : Int) (x_1 : Int) (x_2 : Int) (x_3 : Int) (x_4 : BitVec 128) (x1_ : Bool) : Option Int := if x1_ = true then some 7 else (FN N x_0 x_1 x_2 x_3 x_4).bind fun r17 => if r17 = true then some 0 else some 1
def Lj (N : Nat) (x_0 : Int) (x_1 : Int) (x_2 : Int) (x_3 : Int) (x_4 : BitVec 128) : Option Int := (HP N x_0 x_1 x_2 x_3 x_4).bind fun r4 => (JA N x_0).bind fun r10 => if r10 = true then (El N r4.1 r4.2.1 x_1).bind fun r22 => if r22 = true then (El N r4.2.2.1 r4.2.2.2 x_2).bind fun r25 => Hs N x_0 x_1 x_2 x_3 x_4 (!(r25)) else Hs N x_0 x_1 x_2 x_3 x_4 true else some 10
theorem bS (N : Nat) (x_0 x_1 x_2 x_3 : Int) (x_4 : BitVec 128) (r) (hM : Lj N x_0 x_1 x_2 x_3 x_4 = some r) : Gives prog 294 #[vA #[vI x_0, vI x_1, vI x_2, vI x_3, U (hi x_4), U (lo x_4)]] (vI r) := by
 unfold Lj at hM
 refine AC follows func294 rfl 32 rfl _ fz1 (fun base0_ => ?_)
 refine Ad <| r_a (59, #[vI x_0, vI x_1, vI x_2, vI x_3, U (hi x_4), U (lo x_4)]) rfl rfl rfl (fun b2 => ?_) (.inr rfl)
 refine r_V (vI 0) rfl <| Aa <| Ad <| rl (vA #[vI x_0, vI x_1, vI x_2, vI x_3, U (hi x_4), U (lo x_4)]) 0 ?_
 obtain ⟨r4, hr5, hM⟩ := Ab hM
 refine rc (vT #[vA #[vI r4.1, vI r4.2.1], vA #[vI r4.2.2.1, vI r4.2.2.2]]) (cF XV) (XA N x_0 x_1 x_2 x_3 x_4 _ hr5) <| r_R [vT #[vA #[vI r4.1, vI r4.2.1], vA #[vI r4.2.2.1, vI r4.2.2.2]], vA #[vI r4.1, vI r4.2.1], vA #[vI r4.2.2.1, vI r4.2.2.2]] rfl <| r_a (370, #[vI 0, vI 0]) rfl rfl rfl (fun b6 => ?_) (.inr rfl)
 refine r_a (370, #[vI 0, vI 0]) rfl rfl rfl (fun b7 => ?_) (.inr rfl)
 refine r_s [(b7, 370, #[vI 0, vI 0]), (b6, 370, #[vI r4.1, vI r4.2.1]), (b2, 59, #[vI x_0, vI x_1, vI x_2, vI x_3, U (hi x_4), U (lo x_4)])] 1 _ _ _ _ _ (#[vI r4.1, vI r4.2.1]) rfl rfl rfl rfl (.of rfl rfl) rfl rfl <| r_s [(b7, 370, #[vI r4.2.2.1, vI r4.2.2.2]), (b6, 370, #[vI r4.1, vI r4.2.1]), (b2, 59, #[vI x_0, vI x_1, vI x_2, vI x_3, U (hi x_4), U (lo x_4)])] 0 _ _ _ _ _ (#[vI r4.2.2.1, vI r4.2.2.2]) rfl rfl rfl rfl (.of rfl rfl) rfl rfl <| Aa <| Ai fun K8 hK8 => Ap <| Ad <| r_V (vP b2 0) rfl <| rl (vI x_0) 2 ?_
 obtain ⟨r10, hr11, hM⟩ := Ab hM
 refine rc (vB r10) (cF XU) (Xz N x_0 _ hr11) <| r_R [vB (!(r10)), vB (!(r10))] rfl <| Aa <| Af _ rfl (fun hc12 => ?_) (fun hc12 => ?_)
 ·replace hM := ifn (Bool.eq_false_iff.1 (CZ hc12)) hM
  refine Ad <| r_V (vI 10) rfl <| Aa ?_
  cases hM
  exact aR eE1
 replace hM := ifp (Da hc12) hM
 refine Bm (fun tt ll => ∃ (x1_ : Bool), (Hs N x_0 x_1 x_2 x_3 x_4 x1_ = some r) ∧ Is [(1, vP b2 0), (15, vB x1_)] (Hh b2 x_0 x_1 x_2 x_3 (hi x_4) (lo x_4)) tt ll) ?_ ?_
 ·refine Ax <| rl (vA #[vI r4.1, vI r4.2.1]) 1 <| r_V (vP b2 1) rfl <| rl (vI x_1) 2 ?_
  obtain ⟨r22, hr23, hM⟩ := Ab hM
  refine rc (vB r22) (cF Sq) (Li N r4.1 r4.2.1 x_1 _ hr23) <| r_R [vB (!(r22)), vB (!(r22))] rfl ?_
  rcases hg24 : (!(r22)) with _ | _
  ·replace hM := ifp (Da hg24) hM
   refine r_y rfl <| rl (vA #[vI r4.2.2.1, vI r4.2.2.2]) 0 <| r_R [vP b2 2] rfl <| r_y rfl <| rl (vI x_2) 2 <| r_y rfl ?_
   obtain ⟨r25, hr26, hM⟩ := Ab hM
   refine rc (vB r25) (cF Sq) (Li N r4.2.2.1 r4.2.2.2 x_2 _ hr26) <| r_R [vB (!(r25)), vB (!(r25)), vB (!(r25))] rfl <| Aa <| fg _ (Sub.of (suC _ (suC _ (suK _ suN)))) ?_
   exact ⟨!(r25), hM, Ak (by first | rfl | (simp only [hg24]; done) | (simp only [hg24]; rfl) | (simp only [Bc]; rfl)) rfl⟩
  replace hM := ifn (Bool.eq_false_iff.1 (CZ hg24)) hM
  refine r_R [none, none, none, none, none, vB true, vB true] rfl <| Aa <| fg _ (Sub.of (suC _ (suC _ (suK _ suN)))) ?_
  exact ⟨true, hM, Ak (by first | rfl | (simp only [hg24]; done) | (simp only [hg24]; rfl) | (simp only [Bc]; rfl)) rfl⟩
 clear hM; rintro t l ⟨x1_, hM, ⟨T, rfl⟩, rfl⟩
 unfold Hs at hM
 refine Af _ rfl (fun hc14 => ?_) (fun hc14 => ?_)
 ·replace hM := ifp hc14 hM
  refine Ad <| r_V (vI 7) rfl <| Aa ?_
  cases hM
  exact aR eE1
 replace hM := iB hc14 hM
 refine Ad <| rl (vA #[vI x_0, vI x_1, vI x_2, vI x_3, U (hi x_4), U (lo x_4)]) 0 ?_
 obtain ⟨r17, hr18, hM⟩ := Ab hM
 refine rc (vB r17) (cF XT) (Pg N x_0 x_1 x_2 x_3 x_4 _ hr18) <| r_R [vB (!(r17)), vB (!(r17))] rfl <| Aa <| Af _ rfl (fun hc19 => ?_) (fun hc19 => ?_)
 ·replace hM := ifn (Bool.eq_false_iff.1 (CZ hc19)) hM
  refine Ad <| r_V (vI 1) rfl <| Aa ?_
  cases hM
  exact aR eE1
 replace hM := ifp (Da hc19) hM
 refine Ah <| hK8 _ _ ?_
 refine Ad <| r_V (vI 0) rfl <| Aa ?_
 cases hM
 exact aR eE1
inductive Sum322 where
  | nil
  | t376 (x0 : Int) (x1 : BitVec 128)
  | t378 (x0 : Int) (x1 : Int) (x2 : Int)
  | t380 (x0 : Int) (x1 : Int)
  | t381 (x0 : Int) (x1 : Int)
  | t382 (x0 : Int) (x1 : Int)
  | t384 (x0 : Int) (x1 : Int)
  | t386 (x0 : Int) (x1 : Int) (x2 : Int)
  | t388 (x0 : Int) (x1 : Int)
  | t390 (x0 : Int) (x1 : Int)
  | t392 
  | t394 (x0 : Int)
  deriving Inhabited
def Sum322.on {β : Type} (x : Sum322) (a : β) (f376 : Int → (BitVec 128) → β) (f378 : Int → Int → Int → β) (f380 : Int → Int → β) (f381 : Int → Int → β) (f382 : Int → Int → β) (f384 : Int → Int → β) (f386 : Int → Int → Int → β) (f388 : Int → Int → β) (f390 : Int → Int → β) (f392 : β) (f394 : Int → β) : β := match x with | .nil => a | .t376 x0 x1 => f376 x0 x1 | .t378 x0 x1 x2 => f378 x0 x1 x2 | .t380 x0 x1 => f380 x0 x1 | .t381 x0 x1 => f381 x0 x1 | .t382 x0 x1 => f382 x0 x1 | .t384 x0 x1 => f384 x0 x1 | .t386 x0 x1 x2 => f386 x0 x1 x2 | .t388 x0 x1 => f388 x0 x1 | .t390 x0 x1 => f390 x0 x1 | .t392  => f392  | .t394 x0 => f394 x0
theorem Sum322.on_nil  {β : Type} {x : Sum322} {a r : β} {f376 : Int → (BitVec 128) → β} {f378 : Int → Int → Int → β} {f380 : Int → Int → β} {f381 : Int → Int → β} {f382 : Int → Int → β} {f384 : Int → Int → β} {f386 : Int → Int → Int → β} {f388 : Int → Int → β} {f390 : Int → Int → β} {f392 : β} {f394 : Int → β} (h : x = .nil) (e : Sum322.on x a f376 f378 f380 f381 f382 f384 f386 f388 f390 f392 f394 = r) : a = r := by subst h; exact e
theorem Sum322.on_t376  {β : Type} {x : Sum322} {a r : β} {f376 : Int → (BitVec 128) → β} {f378 : Int → Int → Int → β} {f380 : Int → Int → β} {f381 : Int → Int → β} {f382 : Int → Int → β} {f384 : Int → Int → β} {f386 : Int → Int → Int → β} {f388 : Int → Int → β} {f390 : Int → Int → β} {f392 : β} {f394 : Int → β} {x0 : Int} {x1 : BitVec 128} (h : x = .t376 x0 x1) (e : Sum322.on x a f376 f378 f380 f381 f382 f384 f386 f388 f390 f392 f394 = r) : f376 x0 x1 = r := by subst h; exact e
theorem Sum322.on_t378  {β : Type} {x : Sum322} {a r : β} {f376 : Int → (BitVec 128) → β} {f378 : Int → Int → Int → β} {f380 : Int → Int → β} {f381 : Int → Int → β} {f382 : Int → Int → β} {f384 : Int → Int → β} {f386 : Int → Int → Int → β} {f388 : Int → Int → β} {f390 : Int → Int → β} {f392 : β} {f394 : Int → β} {x0 : Int} {x1 : Int} {x2 : Int} (h : x = .t378 x0 x1 x2) (e : Sum322.on x a f376 f378 f380 f381 f382 f384 f386 f388 f390 f392 f394 = r) : f378 x0 x1 x2 = r := by subst h; exact e
theorem Sum322.on_t380  {β : Type} {x : Sum322} {a r : β} {f376 : Int → (BitVec 128) → β} {f378 : Int → Int → Int → β} {f380 : Int → Int → β} {f381 : Int → Int → β} {f382 : Int → Int → β} {f384 : Int → Int → β} {f386 : Int → Int → Int → β} {f388 : Int → Int → β} {f390 : Int → Int → β} {f392 : β} {f394 : Int → β} {x0 : Int} {x1 : Int} (h : x = .t380 x0 x1) (e : Sum322.on x a f376 f378 f380 f381 f382 f384 f386 f388 f390 f392 f394 = r) : f380 x0 x1 = r := by subst h; exact e
theorem Sum322.on_t381  {β : Type} {x : Sum322} {a r : β} {f376 : Int → (BitVec 128) → β} {f378 : Int → Int → Int → β} {f380 : Int → Int → β} {f381 : Int → Int → β} {f382 : Int → Int → β} {f384 : Int → Int → β} {f386 : Int → Int → Int → β} {f388 : Int → Int → β} {f390 : Int → Int → β} {f392 : β} {f394 : Int → β} {x0 : Int} {x1 : Int} (h : x = .t381 x0 x1) (e : Sum322.on x a f376 f378 f380 f381 f382 f384 f386 f388 f390 f392 f394 = r) : f381 x0 x1 = r := by subst h; exact e
theorem Sum322.on_t382  {β : Type} {x : Sum322} {a r : β} {f376 : Int → (BitVec 128) → β} {f378 : Int → Int → Int → β} {f380 : Int → Int → β} {f381 : Int → Int → β} {f382 : Int → Int → β} {f384 : Int → Int → β} {f386 : Int → Int → Int → β} {f388 : Int → Int → β} {f390 : Int → Int → β} {f392 : β} {f394 : Int → β} {x0 : Int} {x1 : Int} (h : x = .t382 x0 x1) (e : Sum322.on x a f376 f378 f380 f381 f382 f384 f386 f388 f390 f392 f394 = r) : f382 x0 x1 = r := by subst h; exact e
theorem Sum322.on_t384  {β : Type} {x : Sum322} {a r : β} {f376 : Int → (BitVec 128) → β} {f378 : Int → Int → Int → β} {f380 : Int → Int → β} {f381 : Int → Int → β} {f382 : Int → Int → β} {f384 : Int → Int → β} {f386 : Int → Int → Int → β} {f388 : Int → Int → β} {f390 : Int → Int → β} {f392 : β} {f394 : Int → β} {x0 : Int} {x1 : Int} (h : x = .t384 x0 x1) (e : Sum322.on x a f376 f378 f380 f381 f382 f384 f386 f388 f390 f392 f394 = r) : f384 x0 x1 = r := by subst h; exact e
theorem Sum322.on_t386  {β : Type} {x : Sum322} {a r : β} {f376 : Int → (BitVec 128) → β} {f378 : Int → Int → Int → β} {f380 : Int → Int → β} {f381 : Int → Int → β} {f382 : Int → Int → β} {f384 : Int → Int → β} {f386 : Int → Int → Int → β} {f388 : Int → Int → β} {f390 : Int → Int → β} {f392 : β} {f394 : Int → β} {x0 : Int} {x1 : Int} {x2 : Int} (h : x = .t386 x0 x1 x2) (e : Sum322.on x a f376 f378 f380 f381 f382 f384 f386 f388 f390 f392 f394 = r) : f386 x0 x1 x2 = r := by subst h; exact e
theorem Sum322.on_t388  {β : Type} {x : Sum322} {a r : β} {f376 : Int → (BitVec 128) → β} {f378 : Int → Int → Int → β} {f380 : Int → Int → β} {f381 : Int → Int → β} {f382 : Int → Int → β} {f384 : Int → Int → β} {f386 : Int → Int → Int → β} {f388 : Int → Int → β} {f390 : Int → Int → β} {f392 : β} {f394 : Int → β} {x0 : Int} {x1 : Int} (h : x = .t388 x0 x1) (e : Sum322.on x a f376 f378 f380 f381 f382 f384 f386 f388 f390 f392 f394 = r) : f388 x0 x1 = r := by subst h; exact e
theorem Sum322.on_t390  {β : Type} {x : Sum322} {a r : β} {f376 : Int → (BitVec 128) → β} {f378 : Int → Int → Int → β} {f380 : Int → Int → β} {f381 : Int → Int → β} {f382 : Int → Int → β} {f384 : Int → Int → β} {f386 : Int → Int → Int → β} {f388 : Int → Int → β} {f390 : Int → Int → β} {f392 : β} {f394 : Int → β} {x0 : Int} {x1 : Int} (h : x = .t390 x0 x1) (e : Sum322.on x a f376 f378 f380 f381 f382 f384 f386 f388 f390 f392 f394 = r) : f390 x0 x1 = r := by subst h; exact e
theorem Sum322.on_t392  {β : Type} {x : Sum322} {a r : β} {f376 : Int → (BitVec 128) → β} {f378 : Int → Int → Int → β} {f380 : Int → Int → β} {f381 : Int → Int → β} {f382 : Int → Int → β} {f384 : Int → Int → β} {f386 : Int → Int → Int → β} {f388 : Int → Int → β} {f390 : Int → Int → β} {f392 : β} {f394 : Int → β} (h : x = .t392 ) (e : Sum322.on x a f376 f378 f380 f381 f382 f384 f386 f388 f390 f392 f394 = r) : f392  = r := by subst h; exact e
theorem Sum322.on_t394  {β : Type} {x : Sum322} {a r : β} {f376 : Int → (BitVec 128) → β} {f378 : Int → Int → Int → β} {f380 : Int → Int → β} {f381 : Int → Int → β} {f382 : Int → Int → β} {f384 : Int → Int → β} {f386 : Int → Int → Int → β} {f388 : Int → Int → β} {f390 : Int → Int → β} {f392 : β} {f394 : Int → β} {x0 : Int} (h : x = .t394 x0) (e : Sum322.on x a f376 f378 f380 f381 f382 f384 f386 f388 f390 f392 f394 = r) : f394 x0 = r := by subst h; exact e
def Sum322.onP (x : Sum322) (a : PO) (f376 : Int → (BitVec 128) → PO) (f378 : Int → Int → Int → PO) (f380 : Int → Int → PO) (f381 : Int → Int → PO) (f382 : Int → Int → PO) (f384 : Int → Int → PO) (f386 : Int → Int → Int → PO) (f388 : Int → Int → PO) (f390 : Int → Int → PO) (f392 : PO) (f394 : Int → PO) : PO := match x with | .nil => a | .t376 x0 x1 => f376 x0 x1 | .t378 x0 x1 x2 => f378 x0 x1 x2 | .t380 x0 x1 => f380 x0 x1 | .t381 x0 x1 => f381 x0 x1 | .t382 x0 x1 => f382 x0 x1 | .t384 x0 x1 => f384 x0 x1 | .t386 x0 x1 x2 => f386 x0 x1 x2 | .t388 x0 x1 => f388 x0 x1 | .t390 x0 x1 => f390 x0 x1 | .t392  => f392  | .t394 x0 => f394 x0
theorem Sum322.onP_nil  {x : Sum322} {a : PO} {f376 : Int → (BitVec 128) → PO} {f378 : Int → Int → Int → PO} {f380 : Int → Int → PO} {f381 : Int → Int → PO} {f382 : Int → Int → PO} {f384 : Int → Int → PO} {f386 : Int → Int → Int → PO} {f388 : Int → Int → PO} {f390 : Int → Int → PO} {f392 : PO} {f394 : Int → PO} {v : Value} {O : List (List Bl)} (h : x = .nil) (e : Sum322.onP x a f376 f378 f380 f381 f382 f384 f386 f388 f390 f392 f394 v O) : a v O := by subst h; exact e
theorem Sum322.cases (x : Sum322) : x = .nil ∨ (∃ x0 x1, x = .t376 x0 x1) ∨ (∃ x0 x1 x2, x = .t378 x0 x1 x2) ∨ (∃ x0 x1, x = .t380 x0 x1) ∨ (∃ x0 x1, x = .t381 x0 x1) ∨ (∃ x0 x1, x = .t382 x0 x1) ∨ (∃ x0 x1, x = .t384 x0 x1) ∨ (∃ x0 x1 x2, x = .t386 x0 x1 x2) ∨ (∃ x0 x1, x = .t388 x0 x1) ∨ (∃ x0 x1, x = .t390 x0 x1) ∨ (x = .t392 ) ∨ (∃ x0, x = .t394 x0) := by cases x <;> simp
def Sum322.v : Sum322 → Value
  | .nil => Value.nilIface
  | .t376 x0 x1 => Value.iface 376 (vA #[vI x0, U (hi x1), U (lo x1)])
  | .t378 x0 x1 x2 => Value.iface 378 (vA #[vI x0, vI x1, vI x2])
  | .t380 x0 x1 => Value.iface 380 (vA #[vI x0, vI x1])
  | .t381 x0 x1 => Value.iface 381 (vA #[vI x0, vI x1])
  | .t382 x0 x1 => Value.iface 382 (vA #[vI x0, vI x1])
  | .t384 x0 x1 => Value.iface 384 (vA #[vI x0, vI x1])
  | .t386 x0 x1 x2 => Value.iface 386 (vA #[vI x0, vI x1, vI x2])
  | .t388 x0 x1 => Value.iface 388 (vA #[vI x0, vI x1])
  | .t390 x0 x1 => Value.iface 390 (vA #[vI x0, vI x1])
  | .t392  => Value.iface 392 (vA #[])
  | .t394 x0 => Value.iface 394 (vA #[vI x0])
theorem Sum322.cells (x : Sum322) : (Sum322.v x).cells = #[Sum322.v x] := by cases x <;> rfl
theorem Sum322.one (x : Sum322) : (Sum322.v x).oneCell' = true := by cases x <;> rfl
def Gh : Enc Sum322 := ⟨fun x => [Sum322.v x], 1, Nat.one_pos, fun _ => rfl, fun x v h => by rw [List.mem_singleton] at h; rw [h]; exact Sum322.one x, True⟩
def IZ (x_0 : Int) (x_1 : Int) (x_2 : Int) (x11_ : Bool) : Option Sum322 := if x11_ = true then some (Sum322.t388 x_0 x_1) else if x_0 = 33 then some (Sum322.t390 x_1 x_2) else if x_0 = 34 then some Sum322.t392 else some (Sum322.t394 x_0)
def Ja (x_0 : Int) (x_1 : Int) (x_2 : Int) (x9_ : Bool) : Option Sum322 := if x9_ = true then some (Sum322.t386 x_0 x_1 x_2) else if x_0 = 31 then IZ x_0 x_1 x_2 (x_0 == 31) else IZ x_0 x_1 x_2 (x_0 == 32)
def GL (x_0 : Int) (x_1 : Int) (x_2 : Int) (x7_ : Bool) : Option Sum322 := if x7_ = true then some (Sum322.t382 x_0 x_1) else if x_0 = 10 then some (Sum322.t384 x_1 x_2) else if x_0 = 27 then Ja x_0 x_1 x_2 (x_0 == 27) else Ja x_0 x_1 x_2 (x_0 == 28)
def IJ (x_0 : Int) (x_1 : Int) (x_2 : Int) (x5_ : Bool) : Option Sum322 := if x5_ = true then some (Sum322.t381 x_0 x_1) else if x_0 = 6 then GL x_0 x_1 x_2 (x_0 == 6) else if x_0 = 7 then GL x_0 x_1 x_2 (x_0 == 7) else if x_0 = 8 then GL x_0 x_1 x_2 (x_0 == 8) else if x_0 = 9 then GL x_0 x_1 x_2 (x_0 == 9) else GL x_0 x_1 x_2 (x_0 == 11)
def FB (x_0 : Int) (x_1 : Int) (x_2 : Int) (x3_ : Bool) : Option Sum322 := if x3_ = true then some (Sum322.t380 x_0 x_1) else if x_0 = 4 then IJ x_0 x_1 x_2 (x_0 == 4) else if x_0 = 25 then IJ x_0 x_1 x_2 (x_0 == 25) else IJ x_0 x_1 x_2 (x_0 == 26)
def JO (x_0 : Int) (x_1 : Int) (x_2 : Int) (x1_ : Bool) : Option Sum322 := if x1_ = true then some (Sum322.t378 x_0 x_1 x_2) else if x_0 = 2 then FB x_0 x_1 x_2 (x_0 == 2) else if x_0 = 23 then FB x_0 x_1 x_2 (x_0 == 23) else if x_0 = 3 then FB x_0 x_1 x_2 (x_0 == 3) else if x_0 = 5 then FB x_0 x_1 x_2 (x_0 == 5) else if x_0 = 24 then FB x_0 x_1 x_2 (x_0 == 24) else if x_0 = 29 then FB x_0 x_1 x_2 (x_0 == 29) else FB x_0 x_1 x_2 (x_0 == 30)
def Jz (_ : Nat) (x_0 : Int) (x_1 : Int) (x_2 : Int) (x_3 : Int) (x_4 : BitVec 128) : Option Sum322 := if x_0 = 0 then some (Sum322.t376 x_3 x_4) else if x_0 = 1 then JO x_0 x_1 x_2 (x_0 == 1) else JO x_0 x_1 x_2 (x_0 == 22)
theorem Xw (N : Nat) (x_0 x_1 x_2 x_3 : Int) (x_4 : BitVec 128) (r) (hM : Jz N x_0 x_1 x_2 x_3 x_4 = some r) : Gives prog 295 #[vA #[vI x_0, vI x_1, vI x_2, vI x_3, U (hi x_4), U (lo x_4)]] (Sum322.v r) := by
 unfold Jz at hM
 refine AC follows func295 rfl 102 rfl _ fz1 (fun base0_ => ?_)
 refine Ad <| r_a (59, #[vI x_0, vI x_1, vI x_2, vI x_3, U (hi x_4), U (lo x_4)]) rfl rfl rfl (fun b2 => ?_) (.inr rfl)
 refine r_V Value.nilIface rfl <| Aa <| Ai fun K3 hK3 => Ad <| r_V (vP b2 0) rfl <| rl (vI x_0) 0 <| Aa <| Ap <| Ad <| r_R [vB (x_0 == 0), vB (x_0 == 0)] rfl <| Aa <| Af _ rfl (fun hc6 => ?_) (fun hc6 => ?_)
 ·replace hM := iE hc6 hM
  refine Ad <| r_V (vP b2 3) rfl <| rl (vA #[vI x_3, U (hi x_4), U (lo x_4)]) 0 <| r_W (vA #[vI x_3, U (hi x_4), U (lo x_4)]) rfl (AE rfl rfl rfl rfl) <| r_R [Value.iface 376 (vA #[vI x_3, U (hi x_4), U (lo x_4)]), Value.iface 376 (vA #[vI x_3, U (hi x_4), U (lo x_4)])] rfl <| Aa ?_
  cases hM
  exact aR eE1
 replace hM := iG hc6 hM
 refine Bm (fun tt ll => ∃ (x1_ : Bool), (JO x_0 x_1 x_2 x1_ = some r) ∧ Is [(1, vP b2 0), (4, vI x_0), (11, vB x1_)] (Hh b2 x_0 x_1 x_2 x_3 (hi x_4) (lo x_4)) tt ll) ?_ ?_
 ·refine Ad <| r_R [vB (x_0 == 1), vB (x_0 == 1)] rfl <| Aa <| Af _ rfl (fun hc59 => ?_) (fun hc59 => ?_)
  ·replace hM := iE hc59 hM
   refine Ah <| fg _ (Sub.of (suK _ suN)) ?_
   exact ⟨(x_0 == 1), hM, Ak rfl rfl⟩
  replace hM := iG hc59 hM
  refine Ax <| r_R [vB (x_0 == 22), vB (x_0 == 22)] rfl <| Aa <| fg _ (Sub.of (suK _ suN)) ?_
  exact ⟨(x_0 == 22), hM, Ak rfl rfl⟩
 clear hM; rintro t l ⟨x1_, hM, ⟨T, rfl⟩, rfl⟩
 unfold JO at hM
 refine Af _ rfl (fun hc8 => ?_) (fun hc8 => ?_)
 ·replace hM := ifp hc8 hM
  refine Ad <| r_V (vP b2 0) rfl <| rl (vI x_0) 0 <| r_V (vP b2 1) rfl <| rl (vI x_1) 0 <| r_V (vP b2 2) rfl <| rl (vI x_2) 0 <| r_W (vA #[vI x_0, vI x_1, vI x_2]) rfl (AE rfl rfl rfl rfl) <| r_R [Value.iface 378 (vA #[vI x_0, vI x_1, vI x_2]), Value.iface 378 (vA #[vI x_0, vI x_1, vI x_2])] rfl <| Aa ?_
  cases hM
  exact aR eE1
 replace hM := iB hc8 hM
 refine Bm (fun tt ll => ∃ (x3_ : Bool), (FB x_0 x_1 x_2 x3_ = some r) ∧ Is [(1, vP b2 0), (4, vI x_0), (22, vB x3_)] (Hh b2 x_0 x_1 x_2 x_3 (hi x_4) (lo x_4)) tt ll) ?_ ?_
 ·refine Ad <| r_R [vB (x_0 == 2), vB (x_0 == 2)] rfl <| Aa <| Af _ rfl (fun hc47 => ?_) (fun hc47 => ?_)
  ·replace hM := iE hc47 hM
   refine Ah <| fg _ (Sub.of (suK _ suN)) ?_
   exact ⟨(x_0 == 2), hM, Ak rfl rfl⟩
  replace hM := iG hc47 hM
  refine Ad <| r_R [vB (x_0 == 23), vB (x_0 == 23)] rfl <| Aa <| Af _ rfl (fun hc49 => ?_) (fun hc49 => ?_)
  ·replace hM := iE hc49 hM
   refine Ah <| fg _ (Sub.of (suK _ suN)) ?_
   exact ⟨(x_0 == 23), hM, Ak rfl rfl⟩
  replace hM := iG hc49 hM
  refine Ad <| r_R [vB (x_0 == 3), vB (x_0 == 3)] rfl <| Aa <| Af _ rfl (fun hc51 => ?_) (fun hc51 => ?_)
  ·replace hM := iE hc51 hM
   refine Ah <| fg _ (Sub.of (suK _ suN)) ?_
   exact ⟨(x_0 == 3), hM, Ak rfl rfl⟩
  replace hM := iG hc51 hM
  refine Ad <| r_R [vB (x_0 == 5), vB (x_0 == 5)] rfl <| Aa <| Af _ rfl (fun hc53 => ?_) (fun hc53 => ?_)
  ·replace hM := iE hc53 hM
   refine Ah <| fg _ (Sub.of (suK _ suN)) ?_
   exact ⟨(x_0 == 5), hM, Ak rfl rfl⟩
  replace hM := iG hc53 hM
  refine Ad <| r_R [vB (x_0 == 24), vB (x_0 == 24)] rfl <| Aa <| Af _ rfl (fun hc55 => ?_) (fun hc55 => ?_)
  ·replace hM := iE hc55 hM
   refine Ah <| fg _ (Sub.of (suK _ suN)) ?_
   exact ⟨(x_0 == 24), hM, Ak rfl rfl⟩
  replace hM := iG hc55 hM
  refine Ad <| r_R [vB (x_0 == 29), vB (x_0 == 29)] rfl <| Aa <| Af _ rfl (fun hc57 => ?_) (fun hc57 => ?_)
  ·replace hM := iE hc57 hM
   refine Ah <| fg _ (Sub.of (suK _ suN)) ?_
   exact ⟨(x_0 == 29), hM, Ak rfl rfl⟩
  replace hM := iG hc57 hM
  refine Ax <| r_R [vB (x_0 == 30), vB (x_0 == 30)] rfl <| Aa <| fg _ (Sub.of (suK _ suN)) ?_
  exact ⟨(x_0 == 30), hM, Ak rfl rfl⟩
 clear hM; rintro t l ⟨x3_, hM, ⟨T, rfl⟩, rfl⟩
 unfold FB at hM
 refine Af _ rfl (fun hc10 => ?_) (fun hc10 => ?_)
 ·replace hM := ifp hc10 hM
  refine Ad <| r_V (vP b2 0) rfl <| rl (vI x_0) 0 <| r_V (vP b2 1) rfl <| rl (vI x_1) 0 <| r_W (vA #[vI x_0, vI x_1]) rfl (AE rfl rfl rfl rfl) <| r_R [Value.iface 380 (vA #[vI x_0, vI x_1]), Value.iface 380 (vA #[vI x_0, vI x_1])] rfl <| Aa ?_
  cases hM
  exact aR eE1
 replace hM := iB hc10 hM
 refine Bm (fun tt ll => ∃ (x5_ : Bool), (IJ x_0 x_1 x_2 x5_ = some r) ∧ Is [(1, vP b2 0), (4, vI x_0), (36, vB x5_)] (Hh b2 x_0 x_1 x_2 x_3 (hi x_4) (lo x_4)) tt ll) ?_ ?_
 ·refine Ad <| r_R [vB (x_0 == 4), vB (x_0 == 4)] rfl <| Aa <| Af _ rfl (fun hc43 => ?_) (fun hc43 => ?_)
  ·replace hM := iE hc43 hM
   refine Ah <| fg _ (Sub.of (suK _ suN)) ?_
   exact ⟨(x_0 == 4), hM, Ak rfl rfl⟩
  replace hM := iG hc43 hM
  refine Ad <| r_R [vB (x_0 == 25), vB (x_0 == 25)] rfl <| Aa <| Af _ rfl (fun hc45 => ?_) (fun hc45 => ?_)
  ·replace hM := iE hc45 hM
   refine Ah <| fg _ (Sub.of (suK _ suN)) ?_
   exact ⟨(x_0 == 25), hM, Ak rfl rfl⟩
  replace hM := iG hc45 hM
  refine Ax <| r_R [vB (x_0 == 26), vB (x_0 == 26)] rfl <| Aa <| fg _ (Sub.of (suK _ suN)) ?_
  exact ⟨(x_0 == 26), hM, Ak rfl rfl⟩
 clear hM; rintro t l ⟨x5_, hM, ⟨T, rfl⟩, rfl⟩
 unfold IJ at hM
 refine Af _ rfl (fun hc12 => ?_) (fun hc12 => ?_)
 ·replace hM := ifp hc12 hM
  refine Ad <| r_V (vP b2 0) rfl <| rl (vI x_0) 0 <| r_V (vP b2 1) rfl <| rl (vI x_1) 0 <| r_W (vA #[vI x_0, vI x_1]) rfl (AE rfl rfl rfl rfl) <| r_R [Value.iface 381 (vA #[vI x_0, vI x_1]), Value.iface 381 (vA #[vI x_0, vI x_1])] rfl <| Aa ?_
  cases hM
  exact aR eE1
 replace hM := iB hc12 hM
 refine Bm (fun tt ll => ∃ (x7_ : Bool), (GL x_0 x_1 x_2 x7_ = some r) ∧ Is [(1, vP b2 0), (4, vI x_0), (46, vB x7_)] (Hh b2 x_0 x_1 x_2 x_3 (hi x_4) (lo x_4)) tt ll) ?_ ?_
 ·refine Ad <| r_R [vB (x_0 == 6), vB (x_0 == 6)] rfl <| Aa <| Af _ rfl (fun hc35 => ?_) (fun hc35 => ?_)
  ·replace hM := iE hc35 hM
   refine Ah <| fg _ (Sub.of (suK _ suN)) ?_
   exact ⟨(x_0 == 6), hM, Ak rfl rfl⟩
  replace hM := iG hc35 hM
  refine Ad <| r_R [vB (x_0 == 7), vB (x_0 == 7)] rfl <| Aa <| Af _ rfl (fun hc37 => ?_) (fun hc37 => ?_)
  ·replace hM := iE hc37 hM
   refine Ah <| fg _ (Sub.of (suK _ suN)) ?_
   exact ⟨(x_0 == 7), hM, Ak rfl rfl⟩
  replace hM := iG hc37 hM
  refine Ad <| r_R [vB (x_0 == 8), vB (x_0 == 8)] rfl <| Aa <| Af _ rfl (fun hc39 => ?_) (fun hc39 => ?_)
  ·replace hM := iE hc39 hM
   refine Ah <| fg _ (Sub.of (suK _ suN)) ?_
   exact ⟨(x_0 == 8), hM, Ak rfl rfl⟩
  replace hM := iG hc39 hM
  refine Ad <| r_R [vB (x_0 == 9), vB (x_0 == 9)] rfl <| Aa <| Af _ rfl (fun hc41 => ?_) (fun hc41 => ?_)
  ·replace hM := iE hc41 hM
   refine Ah <| fg _ (Sub.of (suK _ suN)) ?_
   exact ⟨(x_0 == 9), hM, Ak rfl rfl⟩
  replace hM := iG hc41 hM
  refine Ax <| r_R [vB (x_0 == 11), vB (x_0 == 11)] rfl <| Aa <| fg _ (Sub.of (suK _ suN)) ?_
  exact ⟨(x_0 == 11), hM, Ak rfl rfl⟩
 clear hM; rintro t l ⟨x7_, hM, ⟨T, rfl⟩, rfl⟩
 unfold GL at hM
 refine Af _ rfl (fun hc14 => ?_) (fun hc14 => ?_)
 ·replace hM := ifp hc14 hM
  refine Ad <| r_V (vP b2 0) rfl <| rl (vI x_0) 0 <| r_V (vP b2 1) rfl <| rl (vI x_1) 0 <| r_W (vA #[vI x_0, vI x_1]) rfl (AE rfl rfl rfl rfl) <| r_R [Value.iface 382 (vA #[vI x_0, vI x_1]), Value.iface 382 (vA #[vI x_0, vI x_1])] rfl <| Aa ?_
  cases hM
  exact aR eE1
 replace hM := iB hc14 hM
 refine Ad <| r_R [vB (x_0 == 10), vB (x_0 == 10)] rfl <| Aa <| Af _ rfl (fun hc17 => ?_) (fun hc17 => ?_)
 ·replace hM := iE hc17 hM
  refine Ad <| r_V (vP b2 1) rfl <| rl (vI x_1) 0 <| r_V (vP b2 2) rfl <| rl (vI x_2) 0 <| r_W (vA #[vI x_1, vI x_2]) rfl (AE rfl rfl rfl rfl) <| r_R [Value.iface 384 (vA #[vI x_1, vI x_2]), Value.iface 384 (vA #[vI x_1, vI x_2])] rfl <| Aa ?_
  cases hM
  exact aR eE1
 replace hM := iG hc17 hM
 refine Bm (fun tt ll => ∃ (x9_ : Bool), (Ja x_0 x_1 x_2 x9_ = some r) ∧ Is [(1, vP b2 0), (4, vI x_0), (66, vB x9_)] (Hh b2 x_0 x_1 x_2 x_3 (hi x_4) (lo x_4)) tt ll) ?_ ?_
 ·refine Ad <| r_R [vB (x_0 == 27), vB (x_0 == 27)] rfl <| Aa <| Af _ rfl (fun hc33 => ?_) (fun hc33 => ?_)
  ·replace hM := iE hc33 hM
   refine Ah <| fg _ (Sub.of (suK _ suN)) ?_
   exact ⟨(x_0 == 27), hM, Ak rfl rfl⟩
  replace hM := iG hc33 hM
  refine Ax <| r_R [vB (x_0 == 28), vB (x_0 == 28)] rfl <| Aa <| fg _ (Sub.of (suK _ suN)) ?_
  exact ⟨(x_0 == 28), hM, Ak rfl rfl⟩
 clear hM; rintro t l ⟨x9_, hM, ⟨T, rfl⟩, rfl⟩
 unfold Ja at hM
 refine Af _ rfl (fun hc19 => ?_) (fun hc19 => ?_)
 ·replace hM := ifp hc19 hM
  refine Ad <| r_V (vP b2 0) rfl <| rl (vI x_0) 0 <| r_V (vP b2 1) rfl <| rl (vI x_1) 0 <| r_V (vP b2 2) rfl <| rl (vI x_2) 0 <| r_W (vA #[vI x_0, vI x_1, vI x_2]) rfl (AE rfl rfl rfl rfl) <| r_R [Value.iface 386 (vA #[vI x_0, vI x_1, vI x_2]), Value.iface 386 (vA #[vI x_0, vI x_1, vI x_2])] rfl <| Aa ?_
  cases hM
  exact aR eE1
 replace hM := iB hc19 hM
 refine Bm (fun tt ll => ∃ (x11_ : Bool), (IZ x_0 x_1 x_2 x11_ = some r) ∧ Is [(1, vP b2 0), (4, vI x_0), (77, vB x11_)] (Hh b2 x_0 x_1 x_2 x_3 (hi x_4) (lo x_4)) tt ll) ?_ ?_
 ·refine Ad <| r_R [vB (x_0 == 31), vB (x_0 == 31)] rfl <| Aa <| Af _ rfl (fun hc31 => ?_) (fun hc31 => ?_)
  ·replace hM := iE hc31 hM
   refine Ah <| fg _ (Sub.of (suK _ suN)) ?_
   exact ⟨(x_0 == 31), hM, Ak rfl rfl⟩
  replace hM := iG hc31 hM
  refine Ax <| r_R [vB (x_0 == 32), vB (x_0 == 32)] rfl <| Aa <| fg _ (Sub.of (suK _ suN)) ?_
  exact ⟨(x_0 == 32), hM, Ak rfl rfl⟩
 clear hM; rintro t l ⟨x11_, hM, ⟨T, rfl⟩, rfl⟩
 unfold IZ at hM
 refine Af _ rfl (fun hc21 => ?_) (fun hc21 => ?_)
 ·replace hM := ifp hc21 hM
  refine Ad <| r_V (vP b2 0) rfl <| rl (vI x_0) 0 <| r_V (vP b2 1) rfl <| rl (vI x_1) 0 <| r_W (vA #[vI x_0, vI x_1]) rfl (AE rfl rfl rfl rfl) <| r_R [Value.iface 388 (vA #[vI x_0, vI x_1]), Value.iface 388 (vA #[vI x_0, vI x_1])] rfl <| Aa ?_
  cases hM
  exact aR eE1
 replace hM := iB hc21 hM
 refine Ad <| r_R [vB (x_0 == 33), vB (x_0 == 33)] rfl <| Aa <| Af _ rfl (fun hc24 => ?_) (fun hc24 => ?_)
 ·replace hM := iE hc24 hM
  refine Ad <| r_V (vP b2 1) rfl <| rl (vI x_1) 0 <| r_V (vP b2 2) rfl <| rl (vI x_2) 0 <| r_W (vA #[vI x_1, vI x_2]) rfl (AE rfl rfl rfl rfl) <| r_R [Value.iface 390 (vA #[vI x_1, vI x_2]), Value.iface 390 (vA #[vI x_1, vI x_2])] rfl <| Aa ?_
  cases hM
  exact aR eE1
 replace hM := iG hc24 hM
 refine Ad <| r_R [vB (x_0 == 34), vB (x_0 == 34)] rfl <| Aa <| Af _ rfl (fun hc27 => ?_) (fun hc27 => ?_)
 ·replace hM := iE hc27 hM
  refine Ad <| r_W (vA #[]) rfl (AE rfl rfl rfl rfl) <| r_R [Value.iface 392 (vA #[]), Value.iface 392 (vA #[])] rfl <| Aa ?_
  cases hM
  exact aR eE1
 replace hM := iG hc27 hM
 refine Ah <| hK3 _ _ ?_
 refine Ad <| r_V (vP b2 0) rfl <| rl (vI x_0) 0 <| r_W (vA #[vI x_0]) rfl (AE rfl rfl rfl rfl) <| r_R [Value.iface 394 (vA #[vI x_0]), Value.iface 394 (vA #[vI x_0])] rfl <| Aa ?_
 cases hM
 exact aR eE1
end Go.Proofs.YtjmdbbnnpmmpiaaGreatDoor
