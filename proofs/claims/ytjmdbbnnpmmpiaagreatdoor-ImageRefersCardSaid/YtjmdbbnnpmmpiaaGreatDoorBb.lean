import Derived.Test.YtjmdbbnnpmmpiaaGreatDoorBa
namespace Go.Proofs.YtjmdbbnnpmmpiaaGreatDoor
open Go Go.RowKit Go.Eng _root_.Go.Proofs.Tryz
set_option maxRecDepth 100000
set_option maxHeartbeats 8000000
abbrev JK (b : Nat) (x0 : List UInt8) (x1 : Value) (x2 : Int) (x3 : Int) (x4 : Int) (x5 : Int) : List Bl := [(b, 48, #[vS x0, x1, vI x2, vI x3, vI x4, vI x5])]
abbrev Ux (b : Nat) (x0 : Value) : List Bl := [(b, 24, #[x0])]
abbrev Ar (b : Nat) (x0 : Value) (x1 : Value) : List Bl := [(b, 344, #[x0, x1])]
abbrev eq (b : Nat) (x0 : List UInt8) : List Bl := [(b, 9, #[vS x0])]
abbrev MH (b : Nat) (x0 : List UInt8) (x1 : Int) : List Bl := [(b, 50, #[vS x0, vI x1])]
def Az (_ : Nat) (n : Int) (least : Int) (most : Int) : Option Bool := if n ≥ least then some (decide (n ≤ most)) else some false
theorem AI (N : Nat) (n least most : Int) (r) (hM : Az N n least most = some r) : Gives prog 62 #[vI n, vI least, vI most] (vB r) := by
 unfold Az at hM
 refine AC follows func62 rfl 15 rfl _ fz3 (fun base0_ => ?_)
 refine Ad <| r_V (vB false) rfl <| Aa <| Ai fun K2 hK2 => Ax <| r_R [vI n, vI least, vB (decide (n ≥ least)), vB (decide (n ≥ least))] rfl ?_
 rcases hg3 : (decide (n ≥ least)) with _ | _
 ·replace hM := iF hg3 hM
  refine r_R [none, none, none, vB false, vB false] rfl <| Aa <| hK2 _ _ ?_
  cases hM
  exact aR eE1
 replace hM := iD hg3 hM
 refine r_R [vI n, vI most, vB (decide (n ≤ most)), vB (decide (n ≤ most)), vB (decide (n ≤ most))] rfl <| Aa <| hK2 _ _ ?_
 cases hM
 exact aR eE1
def Bn (_ : Nat) (c : Int) (first : Int) (last : Int) : Option Bool := if c ≥ first then some (decide (c ≤ last)) else some false
theorem BM (N : Nat) (c first last : Int) (r) (hM : Bn N c first last = some r) : Gives prog 271 #[Value.int .i32 c, Value.int .i32 first, Value.int .i32 last] (vB r) := by
 unfold Bn at hM
 refine AC follows func271 rfl 15 rfl _ fz3 (fun base0_ => ?_)
 refine Ad <| r_V (vB false) rfl <| Aa <| Ai fun K2 hK2 => Ax <| r_R [Value.int .i32 c, Value.int .i32 first, vB (decide (c ≥ first)), vB (decide (c ≥ first))] rfl ?_
 rcases hg3 : (decide (c ≥ first)) with _ | _
 ·replace hM := iF hg3 hM
  refine r_R [none, none, none, vB false, vB false] rfl <| Aa <| hK2 _ _ ?_
  cases hM
  exact aR eE1
 replace hM := iD hg3 hM
 refine r_R [Value.int .i32 c, Value.int .i32 last, vB (decide (c ≤ last)), vB (decide (c ≤ last)), vB (decide (c ≤ last))] rfl <| Aa <| hK2 _ _ ?_
 cases hM
 exact aR eE1
def CS (N : Nat) (c : Int) : Option Bool := (Bn N c 65 90).bind fun r3 => if r3 = true then some true else (Bn N c 97 122).bind fun r6 => if r6 = true then some true else if c = 95 then some true else (Bn N c 192 591).bind fun r10 => if r10 = true then some true else (Bn N c 913 969).bind fun r13 => if r13 = true then some true else (Bn N c 1024 1279).bind fun r16 => some r16
def EA (N : Nat) (c : Int) : Option Bool := if c = 215 then if c = 215 then some false else CS N c  else if c = 247 then if c = 247 then some false else CS N c  else if c = 930 then some false else CS N c 
theorem Kj (N : Nat) (c : Int) (r) (hM : EA N c = some r) : Gives prog 230 #[Value.int .i32 c] (vB r) := by
 unfold EA at hM
 refine AC follows func230 rfl 30 rfl _ fz1 (fun base0_ => ?_)
 refine Ad <| r_V (vB false) rfl <| Aa <| Bm (fun tt ll => (CS N c  = some r) ∧ Is [(0, Value.int .i32 c)] [] tt ll) ?_ ?_
 ·refine Ad <| r_V (Value.int .i32 c) rfl <| Aa <| Ap <| Ai fun K19 hK19 => Ad <| r_R [vB (c == 215), vB (c == 215)] rfl <| Aa <| Af _ rfl (fun hc21 => ?_) (fun hc21 => ?_)
  ·replace hM := iE hc21 hM
   refine Ah <| hK19 _ _ ?_
   refine Af _ rfl (fun hc22 => ?_) (fun hc22 => ?_)
   ·replace hM := iE hc22 hM
    refine Ad <| r_V (vB false) rfl <| Aa ?_
    cases hM
    exact aR eE1
   replace hM := iG hc22 hM
   refine Ah <| fg _ (Sub.of suN) ?_
   exact ⟨hM, Ak rfl rfl⟩
  replace hM := iG hc21 hM
  refine Ad <| r_R [vB (c == 247), vB (c == 247)] rfl <| Aa <| Af _ rfl (fun hc25 => ?_) (fun hc25 => ?_)
  ·replace hM := iE hc25 hM
   refine Ah <| hK19 _ _ ?_
   refine Af _ rfl (fun hc26 => ?_) (fun hc26 => ?_)
   ·replace hM := iE hc26 hM
    refine Ad <| r_V (vB false) rfl <| Aa ?_
    cases hM
    exact aR eE1
   replace hM := iG hc26 hM
   refine Ah <| fg _ (Sub.of suN) ?_
   exact ⟨hM, Ak rfl rfl⟩
  replace hM := iG hc25 hM
  refine Ax <| r_R [vB (c == 930), vB (c == 930)] rfl <| Aa <| hK19 _ _ ?_
  refine Af _ rfl (fun hc28 => ?_) (fun hc28 => ?_)
  ·replace hM := iE hc28 hM
   refine Ad <| r_V (vB false) rfl <| Aa ?_
   cases hM
   exact aR eE1
  replace hM := iG hc28 hM
  refine Ah <| fg _ (Sub.of suN) ?_
  exact ⟨hM, Ak rfl rfl⟩
 clear hM; rintro t l ⟨hM, ⟨T, rfl⟩, rfl⟩
 unfold CS at hM
 refine Ai fun K2 hK2 => Ax <| r_V (Value.int .i32 c) rfl ?_
 obtain ⟨r3, hr4, hM⟩ := Ab hM
 refine rc (vB r3) (cF Fc) (BM N c 65 90 _ hr4) <| r_V (vB r3) rfl ?_
 rcases hg5 : r3 with _ | _
 ·replace hM := iB hg5 hM
  refine r_R [Value.int .i32 c] rfl <| r_y rfl ?_
  obtain ⟨r6, hr7, hM⟩ := Ab hM
  refine rc (vB r6) (cF Fc) (BM N c 97 122 _ hr7) <| r_R [vB r6, vB r6] rfl ?_
  rcases hg8 : r6 with _ | _
  ·replace hM := iB hg8 hM
   refine r_R [Value.int .i32 c, vB (c == 95), vB (c == 95), vB (c == 95)] rfl ?_
   rcases hg9 : (c == 95) with _ | _
   ·replace hM := iG hg9 hM
    refine r_R [Value.int .i32 c] rfl <| r_y rfl ?_
    obtain ⟨r10, hr11, hM⟩ := Ab hM
    refine rc (vB r10) (cF Fc) (BM N c 192 591 _ hr11) <| r_R [vB r10, vB r10] rfl ?_
    rcases hg12 : r10 with _ | _
    ·replace hM := iB hg12 hM
     refine r_R [Value.int .i32 c] rfl <| r_y rfl ?_
     obtain ⟨r13, hr14, hM⟩ := Ab hM
     refine rc (vB r13) (cF Fc) (BM N c 913 969 _ hr14) <| r_R [vB r13, vB r13] rfl ?_
     rcases hg15 : r13 with _ | _
     ·replace hM := iB hg15 hM
      refine r_R [Value.int .i32 c] rfl <| r_y rfl ?_
      obtain ⟨r16, hr17, hM⟩ := Ab hM
      refine rc (vB r16) (cF Fc) (BM N c 1024 1279 _ hr17) <| r_R [vB r16, vB r16] rfl <| Aa <| hK2 _ _ ?_
      cases hM
      exact aR eE1
     replace hM := ifp hg15 hM
     refine r_R [none, none, vB true, vB true] rfl <| Aa <| hK2 _ _ ?_
     cases hM
     exact aR eE1
    replace hM := ifp hg12 hM
    refine r_R [none, none, vB true, vB true, none, none, vB true, vB true] rfl <| Aa <| hK2 _ _ ?_
    cases hM
    exact aR eE1
   replace hM := iE hg9 hM
   refine r_R [none, none, vB true, vB true, none, none, vB true, vB true, none, none, vB true, vB true] rfl <| Aa <| hK2 _ _ ?_
   cases hM
   exact aR eE1
  replace hM := ifp hg8 hM
  refine r_R [none, none, vB true, vB true, none, none, vB true, vB true, none, none, vB true, vB true, none, none, vB true, vB true] rfl <| Aa <| hK2 _ _ ?_
  cases hM
  exact aR eE1
 replace hM := ifp hg5 hM
 refine r_R [none, none, vB true, vB true, none, none, vB true, vB true, none, none, vB true, vB true, none, none, vB true, vB true, none, none, vB true, vB true] rfl <| Aa <| hK2 _ _ ?_
 cases hM
 exact aR eE1
def Gs (N : Nat) (c : Int) : Option Bool := (Bn N c 48 57).bind fun r3 => some r3
theorem Qh (N : Nat) (c : Int) (r) (hM : Gs N c = some r) : Gives prog 231 #[Value.int .i32 c] (vB r) := by
 unfold Gs at hM
 refine AC follows func231 rfl 5 rfl _ fz1 (fun base0_ => ?_)
 refine Ad <| r_V (vB false) rfl <| Aa <| Ad <| r_V (Value.int .i32 c) rfl ?_
 obtain ⟨r3, hr4, hM⟩ := Ab hM
 refine rc (vB r3) (cF Fc) (BM N c 48 57 _ hr4) <| r_V (vB r3) rfl <| Aa ?_
 cases hM
 exact aR eE1
def Ep (N : Nat) (c : Int) (ahead : Int) : Option Bool := (EA N c).bind fun r3 => if r3 = true then some true else if ahead > 0 then (Gs N c).bind fun r7 => if r7 = true then some true else if c = 45 then some true else some (c == 46) else some false
theorem Mj (N : Nat) (c ahead : Int) (r) (hM : Ep N c ahead = some r) : Gives prog 163 #[Value.int .i32 c, vI ahead] (vB r) := by
 unfold Ep at hM
 refine AC follows func163 rfl 23 rfl _ fz2 (fun base0_ => ?_)
 refine Ad <| r_V (vB false) rfl <| Aa <| Ai fun K2 hK2 => Ax <| r_V (Value.int .i32 c) rfl ?_
 obtain ⟨r3, hr4, hM⟩ := Ab hM
 refine rc (vB r3) (cF SB) (Kj N c _ hr4) <| r_V (vB r3) rfl ?_
 rcases hg5 : r3 with _ | _
 ·replace hM := iB hg5 hM
  refine r_R [vI ahead, vB (decide (ahead > 0)), vB (decide (ahead > 0))] rfl ?_
  rcases hg6 : (decide (ahead > 0)) with _ | _
  ·replace hM := iF hg6 hM
   refine r_R [none, none, none] rfl <| DC rfl rfl <| DC rfl rfl <| r_R [none, none] rfl <| DC rfl rfl <| DC rfl rfl <| r_R [none, vB false, vB false, vB false] rfl <| Aa <| hK2 _ _ ?_
   cases hM
   exact aR eE1
  replace hM := iD hg6 hM
  refine r_R [Value.int .i32 c] rfl <| r_y rfl ?_
  obtain ⟨r7, hr8, hM⟩ := Ab hM
  refine rc (vB r7) (cF YN) (Qh N c _ hr8) <| r_R [vB r7] rfl ?_
  rcases hg9 : r7 with _ | _
  ·replace hM := iB hg9 hM
   refine r_R [Value.int .i32 c, vB (c == 45), vB (c == 45), vB (c == 45)] rfl ?_
   rcases hg10 : (c == 45) with _ | _
   ·replace hM := iG hg10 hM
    refine r_R [Value.int .i32 c, vB (c == 46), vB (c == 46), vB (c == 46), vB (c == 46), vB (c == 46)] rfl <| Aa <| hK2 _ _ ?_
    cases hM
    exact aR eE1
   replace hM := iE hg10 hM
   refine r_R [none, none, vB true, vB true, vB true, vB true] rfl <| Aa <| hK2 _ _ ?_
   cases hM
   exact aR eE1
  replace hM := ifp hg9 hM
  refine r_R [none, none, vB true, vB true, none, none, vB true, vB true, vB true, vB true] rfl <| Aa <| hK2 _ _ ?_
  cases hM
  exact aR eE1
 replace hM := ifp hg5 hM
 refine r_R [none, none, none] rfl <| DC rfl rfl <| DC rfl rfl <| DC rfl rfl <| DC rfl rfl <| DC rfl rfl <| DC rfl rfl <| DC rfl rfl <| DC rfl rfl <| DC rfl rfl <| DC rfl rfl <| r_R [none, vB true, vB true] rfl <| Aa <| hK2 _ _ ?_
 cases hM
 exact aR eE1
def Eb (N : Nat) (s : List UInt8) : Nat → Int → Nat → Option Bool
  | 0, _, _ => none
  | n6 + 1, count1_, m2_ => if m2_ < (s).length then ck (m2_ < (s).length) (if count1_ = 24 then some false else (Ep N ((runeAt s m2_ : Nat) : Int) count1_).bind fun r15 => if r15 = true then ck (-9223372036854775808 ≤ (count1_ + 1) ∧ (count1_ + 1) ≤ 9223372036854775807) ((Eb N s n6) (count1_ + 1) (DI s m2_)) else some false) else some (decide (count1_ > 0))
def Ef (N : Nat) (s : List UInt8) : Option Bool := Eb N s N 0 0
theorem Kx (N : Nat) (s : List UInt8) (r) (hM : Ef N s = some r) : Gives prog 110 #[vS s] (vB r) := by
 unfold Ef at hM
 refine AC follows func110 rfl 23 rfl _ fz1 (fun base0_ => ?_)
 refine Ad <| r_V (vB false) rfl <| Aa <| Ad <| r_V (vI 0) rfl <| Aa <| Ai fun K3 hK3 => AL [(some 7, false)] (conG prog [(7, fun _ _ v_ L_ U_ => (pIt s) v_ L_ U_)]) <| r_V (vS s) rfl <| Ub s rfl rfl rfl rfl rfl (fun _ _ _ _ _ => Iff.rfl) (fun b5 => ?_)
 refine Aa <| Ap <| AS (fun tt ll nn => ∃ (n6 : Nat) (count1_ : Int) (m2_ : Nat), (Eb N s n6 count1_ m2_ = some r) ∧ Is [(3, vI count1_), (7, vP b5 0)] [(b5, (itT s m2_), #[])] tt ll ∧ nn = n6 + 1) (N + 1) ?_ ?_
 ·exact ⟨N, 0, 0, hM, Ak rfl rfl, rfl⟩
 clear hM; rintro t l _ ⟨n6, count1_, m2_, hM, ⟨⟨T, rfl⟩, rfl⟩, rfl⟩
 rcases n6 with _ | n6
 ·exact absurd hM (by simp [Eb])
 rw [Eb] at hM
 refine AL [(some 8, true)] (conG prog [(8, fun _ _ v_ L_ U_ => (pNx b5 s m2_) v_ L_ U_)]) <| Wm (lN := [(b5, (itT s (DI s m2_)), #[])]) 0 b5 s m2_ rfl rfl rfl rfl rfl rfl (fun _ _ _ _ _ => Iff.rfl) rfl <| r_W (vB (decide (m2_ < (s).length))) rfl (AD (RN s m2_)) <| Aa <| Ai fun K8 hK8 => Af _ rfl (fun hc9 => ?_) (fun hc9 => ?_)
 ·replace hM := iD hc9 hM
  refine Ah <| hK8 _ _ ?_
  refine Ap <| Ad ?_
  obtain ⟨ck11, hM⟩ := Ae hM
  refine r_W (Value.int .i32 ((runeAt s m2_ : Nat) : Int)) rfl (AD (RM ck11)) <| r_V (Value.int .i32 ((runeAt s m2_ : Nat) : Int)) rfl <| Aa <| Ai fun K12 hK12 => Ai fun K13 hK13 => Ax <| r_R [vI count1_, vB (count1_ == 24), vB (count1_ == 24)] rfl ?_
  rcases hg14 : (count1_ == 24) with _ | _
  ·replace hM := iG hg14 hM
   refine r_R [Value.int .i32 ((runeAt s m2_ : Nat) : Int), vI count1_] rfl <| r_y rfl ?_
   obtain ⟨r15, hr16, hM⟩ := Ab hM
   refine rc (vB r15) (cF ZD) (Mj N ((runeAt s m2_ : Nat) : Int) count1_ _ hr16) <| r_R [vB (!(r15)), vB (!(r15))] rfl <| Aa <| hK13 _ _ ?_
   refine Af _ rfl (fun hc17 => ?_) (fun hc17 => ?_)
   ·replace hM := ifn (Bool.eq_false_iff.1 (CZ hc17)) hM
    refine Ad <| r_V (vB false) rfl <| Aa ?_
    cases hM
    exact aR eE1
   replace hM := ifp (Da hc17) hM
   refine Ah <| hK12 _ _ ?_
   refine Ax <| r_V (vI count1_) rfl ?_
   obtain ⟨ck19, hM⟩ := Ae hM
   refine r_X (vI (count1_ + 1)) rfl (AR rfl ck19.1 ck19.2) rfl <| r_V (vI (count1_ + 1)) rfl <| Aa <| fg _ (Sub.of (suK _ suN)) ?_
   exact ⟨n6 + 1, by omega, n6, (count1_ + 1), DI s m2_, hM, Ak (by first | rfl | (simp only [hg14]; done) | (simp only [hg14]; rfl) | (simp only [Bc]; rfl)) rfl, rfl⟩
  replace hM := iE hg14 hM
  refine r_R [none, none, none, none, vB true] rfl <| Aa <| hK13 _ _ ?_
  refine Af true rfl (fun _ => ?_) (fun h_ => nomatch h_)
  refine Ad <| r_V (vB false) rfl <| Aa ?_
  cases hM
  exact aR eE1
 replace hM := iF hc9 hM
 refine AM <| hK3 _ _ ?_
 refine Ad <| r_R [vI count1_, vB (decide (count1_ > 0)), vB (decide (count1_ > 0))] rfl <| Aa ?_
 cases hM
 exact aR eE1
def Ag (_ : Nat) (so : Bool) (e' : Int) : Option Int := if so = true then some 0 else some e'
theorem AB (N : Nat) (so : Bool) (e' r : Int) (hM : Ag N so e' = some r) : Gives prog 109 #[vB so, vI e'] (vI r) := by
 unfold Ag at hM
 refine AC follows func109 rfl 7 rfl _ fz2 (fun base0_ => ?_)
 refine Ad <| r_V (vI 0) rfl <| Aa <| Ai fun K2 hK2 => Ad <| r_V (vB so) rfl <| Aa <| Af _ rfl (fun hc4 => ?_) (fun hc4 => ?_)
 ·replace hM := ifp hc4 hM
  refine Ad <| r_V (vI 0) rfl <| Aa ?_
  cases hM
  exact aR eE1
 replace hM := iB hc4 hM
 refine Ah <| hK2 _ _ ?_
 refine Ad <| r_R [vI e', vI e'] rfl <| Aa ?_
 cases hM
 exact aR eE1
def Ie (_ : Nat) (e' : Int) : Option Bool := some (e' != 0)
theorem Rs (N : Nat) (e' : Int) (r) (hM : Ie N e' = some r) : Gives prog 162 #[vI e'] (vB r) := by
 unfold Ie at hM
 refine AC follows func162 rfl 5 rfl _ fz1 (fun base0_ => ?_)
 refine Ad <| r_V (vB false) rfl <| Aa <| Ad <| r_R [vI e', vB (e' != 0), vB (e' != 0)] rfl <| Aa ?_
 cases hM
 exact aR eE1
def QZ (N : Nat) (s : List Int) : Nat → Int → Option Int
  | 0, _ => none
  | n4 + 1, x1_ => if x1_ < (s.length : Int) then ck (0 ≤ x1_ ∧ x1_ < (s.length : Int)) ((Ie N (s[x1_.toNat]!)).bind fun r12 => if r12 = true then some x1_ else ck (-9223372036854775808 ≤ (x1_ + 1) ∧ (x1_ + 1) ≤ 9223372036854775807) ((QZ N s n4) (x1_ + 1))) else some (-1)
def sFm (N : Nat) (s : List Int) : Option Int := QZ N s N 0
theorem sFg (N : Nat) (s : List Int) (r) (hM : sFm N s = some r) (ro : Ro) (sv : Value) (hs : Rd BK ro sv s) : Does prog 161 #[sv, vF 162 #[] #[]] ro [] (pV (vI r)) := by
 unfold sFm at hM
 refine Aq follows func161 rfl 19 rfl _ fz2 (fun base0_ => ?_)
 refine Ad <| r_V (vI 0) rfl <| Aa <| Ai fun K2 hK2 => Ad <| r_V sv rfl <| r_W (vI (s.length : Int)) rfl (Aj rfl rfl rfl (Rd.shp hs)) <| r_V (vI 0) rfl <| Aa <| Ap <| AS (fun tt ll nn => ∃ (n4 : Nat) (x1_ : Int), (QZ N s n4 x1_ = some r) ∧ Is [(0, sv), (1, vF 162 #[] #[]), (7, vI (s.length : Int)), (8, vI x1_)] [] tt ll ∧ nn = n4 + 1) (N + 1) ?_ ?_
 ·exact ⟨N, 0, hM, Ak rfl rfl, rfl⟩
 clear hM; rintro t l _ ⟨n4, x1_, hM, ⟨⟨T, rfl⟩, rfl⟩, rfl⟩
 rcases n4 with _ | n4
 ·exact absurd hM (by simp [QZ])
 rw [QZ] at hM
 refine Ad <| r_V (vB (decide (x1_ < (s.length : Int)))) rfl <| Aa <| Ai fun K6 hK6 => Af _ rfl (fun hc7 => ?_) (fun hc7 => ?_)
 ·replace hM := iD hc7 hM
  refine Ah <| hK6 _ _ ?_
  refine Ai fun K8 hK8 => Ap <| Ad <| r_R [vI x1_, vI x1_] rfl <| Aa <| Ad <| r_R [vF 162 #[] #[], sv, vI x1_] rfl ?_
  obtain ⟨ck11, hM⟩ := Ae hM
  refine r_W (elA sv (x1_.toNat * 1)) rfl (AD (An rfl rfl rfl (Rd.shp hs) ck11)) <| Bw (vI (s[x1_.toNat]!)) (En := BK) (s[x1_.toNat]!) (x1_.toNat) 0 rfl rfl (Av hs) (AA ck11) rfl ?_
  obtain ⟨r12, hr13, hM⟩ := Ab hM
  refine rc (vB r12) (AX (caps := []) rfl ZE rfl) (Rs N (s[x1_.toNat]!) _ hr13) <| Aa <| Af _ rfl (fun hc14 => ?_) (fun hc14 => ?_)
  ·replace hM := ifp hc14 hM
   refine Ad <| r_R [vI x1_, vI x1_] rfl <| Aa ?_
   cases hM
   exact aR eV1
  replace hM := iB hc14 hM
  refine Ah <| hK8 _ _ ?_
  refine Ax ?_
  obtain ⟨ck16, hM⟩ := Ae hM
  refine r_X (vI (x1_ + 1)) rfl (AR rfl ck16.1 ck16.2) rfl <| r_V (vI (x1_ + 1)) rfl <| Aa <| fg _ (Sub.of suN) ?_
  exact ⟨n4 + 1, by omega, n4, (x1_ + 1), hM, Ak rfl rfl, rfl⟩
 replace hM := iF hc7 hM
 refine AM <| hK2 _ _ ?_
 refine Ad <| r_V (vI (-1)) rfl <| Aa ?_
 cases hM
 exact aR eV1
def As (N : Nat) (l' : List Int) : Option Int := (sFm N l').bind fun r3 => if r3 < 0 then some 0 else ck (0 ≤ r3 ∧ r3 < (l'.length : Int)) (some (l'[r3.toNat]!))
theorem Bb (N : Nat) (l' : List Int) (r) (hM : As N l' = some r) (ro : Ro) (l'v : Value) (hl' : Rd BK ro l'v l') : Does prog 108 #[l'v] ro [] (pV (vI r)) := by
 unfold As at hM
 refine Aq follows func108 rfl 12 rfl _ fz1 (fun base0_ => ?_)
 refine Ad <| r_V (vI 0) rfl <| Aa <| AL [(some 5, false)] (conG prog [(5, cV (sFm N l') fun u0_ => vI u0_)]) <| r_V l'v rfl ?_
 obtain ⟨r3, hr4, hM⟩ := Ab hM
 refine rg (vI r3) (cF ZF) (fun o w z_ => sFg N l' _ hr4 z_.view l'v ((Av hl') o w z_)) (AF hr4) <| r_V (vI r3) rfl <| Aa <| Ai fun K5 hK5 => Ad <| r_R [vI r3, vB (decide (r3 < 0))] rfl <| Aa <| Af _ rfl (fun hc7 => ?_) (fun hc7 => ?_)
 ·replace hM := iD hc7 hM
  refine Ad <| r_V (vI 0) rfl <| Aa ?_
  cases hM
  exact aR eV1
 replace hM := iF hc7 hM
 refine Ah <| hK5 _ _ ?_
 refine Ad <| r_R [l'v, vI r3] rfl ?_
 obtain ⟨ck10, hM⟩ := Ae hM
 refine r_W (elA l'v (r3.toNat * 1)) rfl (AD (An rfl rfl rfl (Rd.shp hl') ck10)) <| Bw (vI (l'[r3.toNat]!)) (En := BK) (l'[r3.toNat]!) (r3.toNat) 0 rfl rfl (Av hl') (AA ck10) rfl <| r_V (vI (l'[r3.toNat]!)) rfl <| Aa ?_
 cases hM
 exact aR eV1
def DA (N : Nat) (c : Al) (inRange1_ : Bool) : Option (Int × Int) := (Ef N c.1).bind fun r4 => (Ag N r4 4).bind fun r6 => (Ag N inRange1_ 7).bind fun r8 => (As N ([r6, r8])).bind fun r13 => some (0, r13)
def Dt (N : Nat) (c : Al) : Option (Int × Int) := (Az N c.2.2.2.2.2.2.2.2.2.2.2.2.2.2.2.1 1 64).bind fun r15 => if r15 = true then (Az N c.2.2.2.2.2.2.2.2.2.2.2.2.2.2.2.2.1 1 32).bind fun r18 => if r18 = true then (Az N c.2.2.2.2.2.2.2.2.2.2.2.2.2.2.2.2.2 0 4).bind fun r21 => DA N c r21 else DA N c false else DA N c false
theorem QD (N : Nat) (c : Al) (r) (hM : Dt N c = some r) (ro : Ro) (cv : AP) (_hc : Bun35R ro cv c) : Does prog 63 #[vA (Ac c cv)] ro [] (pV (vT #[vI r.1, vI r.2])) := by
 unfold Dt at hM
 refine Aq follows func63 rfl 30 rfl _ fz1 (fun base0_ => ?_)
 refine Ad <| r_a (92, (Ac c cv)) rfl rfl rfl (fun b2 => ?_) (.inr rfl)
 refine r_R [vI 0, vI 0] rfl <| Aa <| Bm (fun tt ll => ∃ (inRange1_ : Bool), (DA N c inRange1_ = some r) ∧ Is [(1, vP b2 0), (4, vB inRange1_)] [(b2, 92, (Ac c cv))] tt ll) ?_ ?_
 ·refine Ax <| r_R [vP b2 0, vP b2 15] rfl <| rl (vI c.2.2.2.2.2.2.2.2.2.2.2.2.2.2.2.1) 0 ?_
  obtain ⟨r15, hr16, hM⟩ := Ab hM
  refine rc (vB r15) (cF BP) (AI N c.2.2.2.2.2.2.2.2.2.2.2.2.2.2.2.1 1 64 _ hr16) <| r_V (vB r15) rfl ?_
  rcases hg17 : r15 with _ | _
  ·replace hM := iB hg17 hM
   refine r_R [none, none, none, none, vB false, vB false, none, none, none, none, vB false, vB false] rfl <| Aa <| fg _ (Sub.of (suK _ suN)) ?_
   exact ⟨false, hM, Ak (by first | rfl | (simp only [hg17]; done) | (simp only [hg17]; rfl) | (simp only [Bc]; rfl)) rfl⟩
  replace hM := ifp hg17 hM
  refine r_R [vP b2 0, vP b2 16] rfl <| r_y rfl <| rl (vI c.2.2.2.2.2.2.2.2.2.2.2.2.2.2.2.2.1) 0 <| r_y rfl ?_
  obtain ⟨r18, hr19, hM⟩ := Ab hM
  refine rc (vB r18) (cF BP) (AI N c.2.2.2.2.2.2.2.2.2.2.2.2.2.2.2.2.1 1 32 _ hr19) <| r_R [vB r18, vB r18] rfl ?_
  rcases hg20 : r18 with _ | _
  ·replace hM := iB hg20 hM
   refine r_R [none, none, none, none, vB false, vB false] rfl <| Aa <| fg _ (Sub.of (suK _ suN)) ?_
   exact ⟨false, hM, Ak (by first | rfl | (simp only [hg17, hg20]; done) | (simp only [hg17, hg20]; rfl) | (simp only [Bc]; rfl)) rfl⟩
  replace hM := ifp hg20 hM
  refine r_R [vP b2 0, vP b2 17] rfl <| r_y rfl <| rl (vI c.2.2.2.2.2.2.2.2.2.2.2.2.2.2.2.2.2) 0 <| r_y rfl ?_
  obtain ⟨r21, hr22, hM⟩ := Ab hM
  refine rc (vB r21) (cF BP) (AI N c.2.2.2.2.2.2.2.2.2.2.2.2.2.2.2.2.2 0 4 _ hr22) <| r_R [vB r21, vB r21] rfl <| Aa <| fg _ (Sub.of (suK _ suN)) ?_
  exact ⟨r21, hM, Ak (by first | rfl | (simp only [hg17, hg20]; done) | (simp only [hg17, hg20]; rfl) | (simp only [Bc]; rfl)) rfl⟩
 clear hM; rintro t l ⟨inRange1_, hM, ⟨T, rfl⟩, rfl⟩
 unfold DA at hM
 refine AL [(some 28, false), (some 29, false)] (conG prog [(29, fun _ _ v_ L_ U_ => ∀ u0_, Ef N c.1 = some u0_ → ∀ u1_, Ag N u0_ 4 = some u1_ → ∀ u2_, Ag N inRange1_ 7 = some u2_ → ∀ u3_, As N ([u1_, u2_]) = some u3_ → (pV (vI u3_)) v_ L_ U_)]) <| r_R [vP b2 0, vP b2 0] rfl <| rl (vS c.1) 0 ?_
 obtain ⟨r4, hr5, hM⟩ := Ab hM
 refine rc (vB r4) (cF Ol) (Kx N c.1 _ hr5) ?_
 obtain ⟨r6, hr7, hM⟩ := Ab hM
 refine rc (vI r6) (cF AJ) (AB N r4 4 _ hr7) <| r_V (vB inRange1_) rfl ?_
 obtain ⟨r8, hr9, hM⟩ := Ab hM
 refine rc (vI r8) (cF AJ) (AB N inRange1_ 7 _ hr9) <| Dj (cs0 := [(29, fun _ _ v_ L_ U_ => ∀ u0_, Ef N c.1 = some u0_ → ∀ u1_, Ag N u0_ 4 = some u1_ → ∀ u2_, Ag N inRange1_ 7 = some u2_ → ∀ u3_, As N ([u1_, u2_]) = some u3_ → (pV (vI u3_)) v_ L_ U_)]) (Ls := [[(b2, 92, (Ac c cv))]]) 38 BK [r6, r8] [vI r6, vI r8] [vI 0, vI 0] rfl rfl rfl rfl rfl rfl rfl (by kernel_rfl) (by kernel_rfl) rfl rfl rfl (fun s10 S11 H12 => ?_)
 obtain ⟨r13, hr14, hM⟩ := Ab hM
 refine rg (vI r13) (cF Br) (fun o w z_ => Bb N ([r6, r8]) _ hr14 z_.view s10 ((AN H12 (Aw (Ls := [[(b2, 92, (Ac c cv))], S11]) (k := 1) rfl rfl)) o w z_)) (fun _ _ v_ L_ U_ => ⟨fun h_ => h_ _ hr5 _ hr7 _ hr9 _ hr14, fun h_ => by intro _ e_; cases Option.some.inj (e_.symm.trans hr5); intro _ e_; cases Option.some.inj (e_.symm.trans hr7); intro _ e_; cases Option.some.inj (e_.symm.trans hr9); intro _ e_; cases Option.some.inj (e_.symm.trans hr14); exact h_⟩) ?_
 refine r_R [vI 0, vI r13] rfl <| Aa ?_
 cases hM
 exact aR eV2
def Fz (_ : Nat) (h_0 : List UInt8) (_ : List (List UInt8 × Int)) (_ : Int) (_ : Int) (_ : Int) (_ : Int) : Option (List UInt8) := some h_0
theorem LN (N : Nat) (h_0 : List UInt8) (h_1 : List (List UInt8 × Int)) (h_2 : Int) (h_3 : Int) (h_4 : Int) (h_5 : Int) (r) (hM : Fz N h_0 h_1 h_2 h_3 h_4 h_5 = some r) (ro : Ro) (h_1v : Value) (_hh_1 : Rd enc_50 ro h_1v h_1) : Does prog 112 #[vA #[vS h_0, h_1v, vI h_2, vI h_3, vI h_4, vI h_5]] ro [] (pV (vS r)) := by
 unfold Fz at hM
 refine Aq follows func112 rfl 5 rfl _ fz1 (fun base0_ => ?_)
 refine Ad <| r_a (48, #[vS h_0, h_1v, vI h_2, vI h_3, vI h_4, vI h_5]) rfl rfl rfl (fun b2 => ?_) (.inr rfl)
 refine r_V (Value.string (⟨#[]⟩)) rfl <| Aa <| Ad <| r_V (vP b2 0) rfl <| rl (vS h_0) 0 <| r_V (vS h_0) rfl <| Aa ?_
 cases hM
 exact aR eV1
def Dc (N : Nat) (l' : List ((List UInt8) × (List (List UInt8 × Int)) × Int × Int × Int × Int)) : Nat → List (List UInt8) → Int → Option (List (List UInt8))
  | 0, _, _ => none
  | n9 + 1, s1_, x2_ => if x2_ < (l'.length : Int) then ck (0 ≤ x2_ ∧ x2_ < (l'.length : Int)) ((Fz N (l'[x2_.toNat]!.1) (l'[x2_.toNat]!.2.1) (l'[x2_.toNat]!.2.2.1) (l'[x2_.toNat]!.2.2.2.1) (l'[x2_.toNat]!.2.2.2.2.1) (l'[x2_.toNat]!.2.2.2.2.2)).bind fun r20 => ck (0 ≤ x2_ ∧ x2_ < (s1_.length : Int)) (ck (-9223372036854775808 ≤ (x2_ + 1) ∧ (x2_ + 1) ≤ 9223372036854775807) ((Dc N l' n9) ((s1_).set (x2_.toNat) r20) (x2_ + 1)))) else some s1_
def EX (N : Nat) (l' : List ((List UInt8) × (List (List UInt8 × Int)) × Int × Int × Int × Int)) : Option (List (List UInt8)) := ck (0 ≤ (l'.length : Int) ∧ (l'.length : Int) ≤ 8796093022208) (Dc N l' N ((List.replicate ((l'.length : Int)).toNat ([]))) 0)
theorem NA (N : Nat) (l' : List ((List UInt8) × (List (List UInt8 × Int)) × Int × Int × Int × Int)) (r) (hM : EX N l' = some r) (ro : Ro) (l'v : Value) (hl' : RdN encr_48 ro l'v l') : Does prog 111 #[l'v, vF 112 #[] #[]] ro [] (p1 (fun s_ => s_) 9 encS r) := by
 unfold EX at hM
 refine Aq follows func111 rfl 26 rfl _ fz2 (fun base0_ => ?_)
 refine Ad <| r_V nS rfl <| Aa <| AL [(some 10, false)] (conG prog [(10, fun _ _ v_ L_ U_ => (p1 (fun v => v) 9 encS (List.replicate ((l'.length : Int)).toNat ([]))) v_ L_ U_)]) <| r_V l'v rfl <| r_W (vI (l'.length : Int)) rfl (Aj rfl rfl rfl (RdN.shp hl')) ?_
 obtain ⟨ck3, hM⟩ := Ae hM
 refine MW (Ls := []) 9 encS ([]) (l'.length : Int) rfl rfl rfl rfl rfl rfl rfl rfl rfl rfl 8796093022208 rfl ck3 (fun _ _ _ _ _ => Iff.rfl) (fun s4 S5 H6 => ?_)
 refine r_V s4 rfl <| Aa <| Ai fun K7 hK7 => Ad <| r_V l'v rfl <| r_W (vI (l'.length : Int)) rfl (Aj rfl rfl rfl (RdN.shp hl')) <| r_V (vI 0) rfl <| Aa <| Ap <| BF _ (Sub.pick [S5] [0] rfl) <| AS (fun tt ll nn => ∃ (n9 : Nat) (s1_ : List (List UInt8)) (x2_ : Int), (Dc N l' n9 s1_ x2_ = some r) ∧ ∃ (Ss1_ : List Bl), Sl 9 encS s4 s1_ Ss1_ ∧ Is [(1, vF 112 #[] #[]), (5, s4), (11, l'v), (12, vI (l'.length : Int)), (13, vI x2_)] (List.flatten [Ss1_]) tt ll ∧ nn = n9 + 1) (N + 1) ?_ ?_
 ·exact ⟨N, (List.replicate ((l'.length : Int)).toNat ([])), 0, hM, S5, H6, Ak rfl rfl, rfl⟩
 clear hM; rintro t l _ ⟨n9, s1_, x2_, hM, Ss1_, hs1_, ⟨⟨T, rfl⟩, rfl⟩, rfl⟩
 rcases n9 with _ | n9
 ·exact absurd hM (by simp [Dc])
 rw [Dc] at hM
 refine Ad <| r_V (vB (decide (x2_ < (l'.length : Int)))) rfl <| Aa <| Ai fun K11 hK11 => Af _ rfl (fun hc12 => ?_) (fun hc12 => ?_)
 ·replace hM := iD hc12 hM
  refine Ah <| hK11 _ _ ?_
  refine Ai fun K13 hK13 => Ap <| Ad <| r_V (vI x2_) rfl ?_
  obtain ⟨ck15, hM⟩ := Ae hM
  obtain ⟨_, ⟨s16, hs17, rfl⟩, hat18⟩ := RdN.at (E := encr_48) hl' (AA ck15)
  refine r_W (elA l'v (x2_.toNat * 6)) rfl (AD (An rfl rfl rfl (RdN.shp hl') ck15)) <| Eo (vA #[vS (l'[x2_.toNat]!.1), s16, vI (l'[x2_.toNat]!.2.2.1), vI (l'[x2_.toNat]!.2.2.2.1), vI (l'[x2_.toNat]!.2.2.2.2.1), vI (l'[x2_.toNat]!.2.2.2.2.2)]) (vs := [vS (l'[x2_.toNat]!.1), s16, vI (l'[x2_.toNat]!.2.2.1), vI (l'[x2_.toNat]!.2.2.2.1), vI (l'[x2_.toNat]!.2.2.2.2.1), vI (l'[x2_.toNat]!.2.2.2.2.2)]) (x2_.toNat * 6) 0 rfl rfl (fun o w z_ => At.mono z_.ro_cell hat18) rfl <| r_a (48, #[Value.string (⟨#[]⟩), nS, vI 0, vI 0, vI 0, vI 0]) rfl rfl rfl (fun b19 => ?_) (.inr rfl)
  refine r_V (vI x2_) rfl <| r_s (List.flatten [(JK b19 (l'[x2_.toNat]!.1) s16 (l'[x2_.toNat]!.2.2.1) (l'[x2_.toNat]!.2.2.2.1) (l'[x2_.toNat]!.2.2.2.2.1) (l'[x2_.toNat]!.2.2.2.2.2)), Ss1_]) 0 _ _ _ _ _ (#[vS (l'[x2_.toNat]!.1), s16, vI (l'[x2_.toNat]!.2.2.1), vI (l'[x2_.toNat]!.2.2.2.1), vI (l'[x2_.toNat]!.2.2.2.2.1), vI (l'[x2_.toNat]!.2.2.2.2.2)]) rfl rfl rfl rfl (.ofS rfl rfl (Ao rfl (Ao (Shp.one (Rd.shp hs17)) (Ao rfl (Ao rfl (Ao rfl (Ao rfl Bi))))))) rfl rfl <| Aa ?_
  refine BB [(some 22, false)] (conG prog [(22, cV (Fz N (l'[x2_.toNat]!.1) (l'[x2_.toNat]!.2.1) (l'[x2_.toNat]!.2.2.1) (l'[x2_.toNat]!.2.2.2.1) (l'[x2_.toNat]!.2.2.2.2.1) (l'[x2_.toNat]!.2.2.2.2.2)) fun u0_ => vS u0_)]) <| r_R [s4, vI x2_, vF 112 #[] #[]] rfl <| rl (vA #[vS (l'[x2_.toNat]!.1), s16, vI (l'[x2_.toNat]!.2.2.1), vI (l'[x2_.toNat]!.2.2.2.1), vI (l'[x2_.toNat]!.2.2.2.2.1), vI (l'[x2_.toNat]!.2.2.2.2.2)]) 0 ?_
  obtain ⟨r20, hr21, hM⟩ := Ab hM
  refine rg (vS r20) (AX (caps := []) rfl ak rfl) (fun o w z_ => LN N (l'[x2_.toNat]!.1) (l'[x2_.toNat]!.2.1) (l'[x2_.toNat]!.2.2.1) (l'[x2_.toNat]!.2.2.2.1) (l'[x2_.toNat]!.2.2.2.2.1) (l'[x2_.toNat]!.2.2.2.2.2) _ hr21 z_.view s16 ((Av hs17) o w z_)) (AF hr21) ?_
  obtain ⟨ck22, hM⟩ := Ae hM
  refine r_W (elA s4 (x2_.toNat * 1)) rfl (AD (An rfl rfl rfl (Sl.shp hs1_) ck22)) <| MV (Ls := [(JK b19 (l'[x2_.toNat]!.1) s16 (l'[x2_.toNat]!.2.2.1) (l'[x2_.toNat]!.2.2.2.1) (l'[x2_.toNat]!.2.2.2.2.1) (l'[x2_.toNat]!.2.2.2.2.2)), Ss1_]) 1 (En := encS) (s1_[x2_.toNat]!) r20 (x2_.toNat) 0 rfl rfl rfl hs1_ (AA ck22) rfl rfl rfl (Gr rfl) rfl (fun S23 H24 => ?_)
  refine Aa <| hK13 _ _ ?_
  refine Ax ?_
  obtain ⟨ck25, hM⟩ := Ae hM
  refine r_X (vI (x2_ + 1)) rfl (AR rfl ck25.1 ck25.2) rfl <| r_V (vI (x2_ + 1)) rfl <| Aa <| fg _ (Sub.pick [(JK b19 (l'[x2_.toNat]!.1) s16 (l'[x2_.toNat]!.2.2.1) (l'[x2_.toNat]!.2.2.2.1) (l'[x2_.toNat]!.2.2.2.2.1) (l'[x2_.toNat]!.2.2.2.2.2)), S23] [1] rfl) ?_
  exact ⟨n9 + 1, by omega, n9, (s1_).set (x2_.toNat) r20, (x2_ + 1), hM, S23, H24, Ak rfl rfl, rfl⟩
 replace hM := iF hc12 hM
 refine AM <| hK7 _ _ ?_
 refine Ad <| r_R [s4, s4] rfl <| Aa ?_
 cases hM
 refine AW (fun hn => Ex (v0 := s4) hs1_ (Cv (Sub.pick [Ss1_] [0] rfl)) rfl (Cy rfl))
def JG (_ : Nat) (s : List UInt8) (substr : List UInt8) : Option Int := ck ((substr).length = 1) (some (Lib.index s substr))
theorem UW (N : Nat) (s substr : List UInt8) (r) (hM : JG N s substr = some r) : Gives prog 272 #[vS s, vS substr] (vI r) := by
 unfold JG at hM
 refine AC follows func272 rfl 8 rfl _ fz2 (fun base0_ => ?_)
 refine Ad <| r_V (vI 0) rfl <| Aa <| Ad <| r_R [vS s, vS substr] rfl ?_
 obtain ⟨ck3, hM⟩ := Ae hM
 refine rc (vI (Lib.index s substr)) (cF Yd) (WZ s substr ck3) <| r_V (vI (Lib.index s substr)) rfl <| Aa ?_
 cases hM
 exact aR eE1
def Gm (N : Nat) (s : List UInt8) (substr : List UInt8) : Option Bool := (JG N s substr).bind fun r3 => some (decide (r3 ≥ 0))
theorem KJ (N : Nat) (s substr : List UInt8) (r) (hM : Gm N s substr = some r) : Gives prog 232 #[vS s, vS substr] (vB r) := by
 unfold Gm at hM
 refine AC follows func232 rfl 9 rfl _ fz2 (fun base0_ => ?_)
 refine Ad <| r_V (vB false) rfl <| Aa <| Ad <| r_R [vS s, vS substr] rfl ?_
 obtain ⟨r3, hr4, hM⟩ := Ab hM
 refine rc (vI r3) (cF Yq) (UW N s substr _ hr4) <| r_R [vB (decide (r3 ≥ 0)), vB (decide (r3 ≥ 0))] rfl <| Aa ?_
 cases hM
 exact aR eE1
def HD (N : Nat) (s : List UInt8) : Option Bool := (Ef N s).bind fun r3 => if r3 = true then (Gm N s ([46] : List UInt8)).bind fun r6 => some (!(r6)) else some false
theorem Pm (N : Nat) (s : List UInt8) (r) (hM : HD N s = some r) : Gives prog 164 #[vS s] (vB r) := by
 unfold HD at hM
 refine AC follows func164 rfl 10 rfl _ fz1 (fun base0_ => ?_)
 refine Ad <| r_V (vB false) rfl <| Aa <| Ai fun K2 hK2 => Ax <| r_V (vS s) rfl ?_
 obtain ⟨r3, hr4, hM⟩ := Ab hM
 refine rc (vB r3) (cF Ol) (Kx N s _ hr4) <| r_V (vB r3) rfl ?_
 rcases hg5 : r3 with _ | _
 ·replace hM := iB hg5 hM
  refine r_R [none, none, none, vB false, vB false] rfl <| Aa <| hK2 _ _ ?_
  cases hM
  exact aR eE1
 replace hM := ifp hg5 hM
 refine r_R [vS s] rfl <| r_y rfl ?_
 obtain ⟨r6, hr7, hM⟩ := Ab hM
 refine rc (vB r6) (cF SA) (KJ N s ([46] : List UInt8) _ hr7) <| r_R [vB (!(r6)), vB (!(r6)), vB (!(r6))] rfl <| Aa <| hK2 _ _ ?_
 cases hM
 exact aR eE1
def CB (_ : Nat) (i : Int) (c1_ : List (List UInt8 × Int)) : Option (List UInt8) := ck (0 ≤ i ∧ i < (c1_.length : Int)) (some ((c1_[i.toNat]!).1))
theorem JR (N : Nat) (i : Int) (c1_ : List (List UInt8 × Int)) (r) (hM : CB N i c1_ = some r) (ro : Ro) (bc1_ : Nat) (c1_v : Value) (hc1_ : Rd enc_50 ro c1_v c1_) (hbc1_ : Blk ro bc1_ [c1_v]) : Does prog 273 #[vI i, vP bc1_ 0] ro [] (pV (vS r)) := by
 unfold CB at hM
 refine Aq follows func273 rfl 9 rfl _ fz2 (fun base0_ => ?_)
 refine Ad <| r_V (Value.string (⟨#[]⟩)) rfl <| Aa <| Ad <| CR c1_v (vs := [c1_v]) (o := 0) rfl rfl (AK hbc1_) rfl <| r_V (vI i) rfl ?_
 obtain ⟨ck3, hM⟩ := Ae hM
 refine r_W (elA c1_v (i.toNat * 2)) rfl (AD (An rfl rfl rfl (Rd.shp hc1_) ck3)) <| r_W (elA c1_v (i.toNat * 2 + 0)) rfl (AD (AH rfl rfl rfl rfl rfl rfl (Rd.shp hc1_) (AY ck3))) <| Bw (vS ((c1_[i.toNat]!).1)) (En := enc_50) (c1_[i.toNat]!) (i.toNat) 0 rfl rfl (Av hc1_) (AA ck3) rfl <| r_V (vS ((c1_[i.toNat]!).1)) rfl <| Aa ?_
 cases hM
 exact aR eV1
def BX (N : Nat) (count : Int) (at0_ : List (List UInt8 × Int)) : Nat → List (List UInt8) → Int → Option (List (List UInt8))
  | 0, _, _ => none
  | n9 + 1, s1_, x2_ => if x2_ < count then (CB N x2_ at0_).bind fun r15 => ck (0 ≤ x2_ ∧ x2_ < (s1_.length : Int)) (ck (-9223372036854775808 ≤ (x2_ + 1) ∧ (x2_ + 1) ≤ 9223372036854775807) ((BX N count at0_ n9) ((s1_).set (x2_.toNat) r15) (x2_ + 1))) else some s1_
def FE (N : Nat) (count : Int) (at0_ : List (List UInt8 × Int)) : Option (List (List UInt8)) := ck (0 ≤ count ∧ count ≤ 8796093022208) (BX N count at0_ N (List.replicate count.toNat ([])) 0)
theorem Oy (N : Nat) (count : Int) (at0_ : List (List UInt8 × Int)) (r) (hM : FE N count at0_ = some r) (ro : Ro) (bat0_ : Nat) (at0_v : Value) (hat0_ : Rd enc_50 ro at0_v at0_) (hbat0_ : Blk ro bat0_ [at0_v]) : Does prog 237 #[vI count, vF 273 #[] #[vP bat0_ 0]] ro [] (p1 (fun s_ => s_) 9 encS r) := by
 unfold FE at hM
 refine Aq follows func237 rfl 21 rfl _ fz2 (fun base0_ => ?_)
 refine Ad <| r_V nS rfl <| Aa <| AL [(some 8, false)] (conG prog [(8, fun _ _ v_ L_ U_ => (p1 (fun v => v) 9 encS (List.replicate count.toNat ([]))) v_ L_ U_)]) <| r_V (vI count) rfl ?_
 obtain ⟨ck3, hM⟩ := Ae hM
 refine MW (Ls := []) 9 encS ([]) count rfl rfl rfl rfl rfl rfl rfl rfl rfl rfl 8796093022208 rfl ck3 (fun _ _ _ _ _ => Iff.rfl) (fun s4 S5 H6 => ?_)
 refine r_V s4 rfl <| Aa <| Ai fun K7 hK7 => Ad <| r_R [vI count, vI 0] rfl <| Aa <| Ap <| BF _ (Sub.pick [S5] [0] rfl) <| AS (fun tt ll nn => ∃ (n9 : Nat) (s1_ : List (List UInt8)) (x2_ : Int), (BX N count at0_ n9 s1_ x2_ = some r) ∧ ∃ (Ss1_ : List Bl), Sl 9 encS s4 s1_ Ss1_ ∧ Is [(1, vF 273 #[] #[vP bat0_ 0]), (5, s4), (9, vI count), (10, vI x2_)] (List.flatten [Ss1_]) tt ll ∧ nn = n9 + 1) (N + 1) ?_ ?_
 ·exact ⟨N, (List.replicate count.toNat ([])), 0, hM, S5, H6, Ak rfl rfl, rfl⟩
 clear hM; rintro t l _ ⟨n9, s1_, x2_, hM, Ss1_, hs1_, ⟨⟨T, rfl⟩, rfl⟩, rfl⟩
 rcases n9 with _ | n9
 ·exact absurd hM (by simp [BX])
 rw [BX] at hM
 refine Ad <| r_V (vB (decide (x2_ < count))) rfl <| Aa <| Ai fun K11 hK11 => Af _ rfl (fun hc12 => ?_) (fun hc12 => ?_)
 ·replace hM := iD hc12 hM
  refine Ah <| hK11 _ _ ?_
  refine Ai fun K13 hK13 => Ap <| Ad <| r_R [vI x2_, vI x2_] rfl <| Aa <| BB [(some 17, false)] (conG prog [(17, cV (CB N x2_ at0_) fun u0_ => vS u0_)]) <| r_R [s4, vI x2_, vF 273 #[] #[vP bat0_ 0], vI x2_] rfl ?_
  obtain ⟨r15, hr16, hM⟩ := Ab hM
  refine rg (vS r15) (AX (caps := [vP bat0_ 0]) rfl Yp rfl) (fun o w z_ => JR N x2_ at0_ _ hr16 z_.view bat0_ at0_v ((Av hat0_) o w z_) (AK hbat0_ o w z_)) (AF hr16) ?_
  obtain ⟨ck17, hM⟩ := Ae hM
  refine r_W (elA s4 (x2_.toNat * 1)) rfl (AD (An rfl rfl rfl (Sl.shp hs1_) ck17)) <| MV (Ls := [Ss1_]) 0 (En := encS) (s1_[x2_.toNat]!) r15 (x2_.toNat) 0 rfl rfl rfl hs1_ (AA ck17) rfl rfl rfl (Gr rfl) rfl (fun S18 H19 => ?_)
  refine Aa <| hK13 _ _ ?_
  refine Ax ?_
  obtain ⟨ck20, hM⟩ := Ae hM
  refine r_X (vI (x2_ + 1)) rfl (AR rfl ck20.1 ck20.2) rfl <| r_V (vI (x2_ + 1)) rfl <| Aa <| fg _ (Sub.pick [S18] [0] rfl) ?_
  exact ⟨n9 + 1, by omega, n9, (s1_).set (x2_.toNat) r15, (x2_ + 1), hM, S18, H19, Ak rfl rfl, rfl⟩
 replace hM := iF hc12 hM
 refine AM <| hK7 _ _ ?_
 refine Ad <| r_R [s4, s4] rfl <| Aa ?_
 cases hM
 refine AW (fun hn => Ex (v0 := s4) hs1_ (Cv (Sub.pick [Ss1_] [0] rfl)) rfl (Cy rfl))
def DG (N : Nat) (l' : List (List UInt8 × Int)) : Option (List (List UInt8)) := (FE N (l'.length : Int) l').bind fun r4 => some r4
theorem MR (N : Nat) (l' : List (List UInt8 × Int)) (r) (hM : DG N l' = some r) (ro : Ro) (l'v : Value) (hl' : Rd enc_50 ro l'v l') : Does prog 233 #[l'v] ro [] (p1 (fun s_ => s_) 9 encS r) := by
 unfold DG at hM
 refine Aq follows func233 rfl 7 rfl _ fz1 (fun base0_ => ?_)
 refine Ad <| r_a (24, #[l'v]) rfl rfl (HW rfl (Rd.shp hl')) (fun b2 => ?_) (.inr rfl)
 refine r_V nS rfl <| Aa <| AL [(some 6, false)] (conG prog [(6, fun _ _ v_ L_ U_ => ∀ u0_, FE N (l'.length : Int) l' = some u0_ → (p1 (fun s_ => s_) 9 encS u0_) v_ L_ U_)]) <| rl l'v 0 <| r_W (vI (l'.length : Int)) rfl (Aj rfl rfl rfl (Rd.shp hl')) <| r_W (vF 273 #[] #[vP b2 0]) rfl (DV rfl) ?_
 obtain ⟨r4, hr5, hM⟩ := Ab hM
 refine Iy (Ls := [(Ux b2 l'v)]) (fun s6 => s6) 9 encS r4 237 _ rfl rfl rfl (cF Sy) (fun o w z_ => Oy N (l'.length : Int) l' _ hr5 z_.view b2 l'v ((Av hl') o w z_) (Bq 0 rfl rfl o w z_)) (AF hr5) (fun s6 S7 H8 => ?_)
 refine r_V s6 rfl <| Aa ?_
 cases hM
 refine AW (fun hn => Ex (v0 := s6) H8 (Cv (Sub.pick [(Ux b2 l'v), S7] [1] rfl)) rfl (Cy rfl))
def Fj (_ : Nat) : Option Unit := some ()
theorem Lu (N : Nat) (r) (hM : Fj N = some r) (ro : Ro) (bb : Nat) : Does prog 289 #[vP bb 0] ro (Ar bb (Value.pointer none) nS) (pO (Ar bb (Value.pointer none) nS) (oE (vT #[]) [(Ar bb (vP bb 0) nS)])) := by
 unfold Fj at hM
 refine Cg follows func289 rfl 20 rfl _ fz1 (fun _ _ h_ _ => h_) (fun base0_ => ?_)
 refine Ad <| r_R [vP bb 0, vP bb 0, vP bb 0] rfl <| rl (Value.pointer none) 0 <| r_V (vB true) rfl <| Aa <| Af true rfl (fun _ => ?_) (fun h_ => nomatch h_)
 refine BB [(some 9, true), (some 10, true), (some 11, true)] (conG prog [(9, fun _ _ v_ L_ U_ => (pUp (fun v_ U_ => v_ = vP bb 0 ∧ U_ = (Ar bb (Value.pointer none) nS))) v_ L_ U_), (10, fun _ _ v_ L_ U_ => (pUp (fun v_ U_ => v_ = vP bb 0 ∧ U_ = (Ar bb (Value.pointer none) nS))) v_ L_ U_), (11, fun _ _ v_ L_ U_ => (pUp (fun v_ U_ => v_ = vP bb 0 ∧ U_ = (Ar bb (Value.pointer none) nS))) v_ L_ U_)]) <| r_R [vP bb 0, vP bb 0] rfl <| Vb (Ls := [(Ar bb (Value.pointer none) nS)]) (vP bb 0) 0 rfl rfl rfl rfl rfl (TZ (TB := 344) (cs := #[Value.pointer none, nS]) rfl rfl rfl rfl rfl rfl rfl (List.mem_singleton.2 rfl)) (fun _ _ _ _ _ => Iff.rfl) ?_
 refine Vb (Ls := [(Ar bb (Value.pointer none) nS)]) (vP bb 0) 0 rfl rfl rfl rfl rfl (fun w_ _ => PX (args := #[vP bb 0]) (e := Extern.AbiNoEscape.same) (w' := w_) (QH rfl) func301 (by kernel_rfl) (by kernel_rfl) (by kernel_rfl) (by kernel_rfl) rfl) (fun _ _ _ _ _ => Iff.rfl) <| Vb (Ls := [(Ar bb (Value.pointer none) nS)]) (vP bb 0) 0 rfl rfl rfl rfl rfl (Pt (TB := 344) (cs := #[Value.pointer none, nS]) 2 rfl rfl rfl rfl rfl (List.mem_singleton.2 rfl) rfl (by kernel_rfl)) (fun _ _ _ _ _ => Iff.rfl) <| r_R [vP bb 0, vP bb 0] rfl <| r_s (Ar bb (vP bb 0) nS) 0 _ _ _ _ _ (#[vP bb 0, nS]) rfl rfl rfl rfl (.of rfl rfl) rfl rfl <| Aa ?_
 cases hM
 refine PH (v0 := vT #[]) (O := [(Ar bb (vP bb 0) nS)]) rfl (Sub.pick [(Ar bb (vP bb 0) nS)] [0] rfl) ⟨rfl, rfl⟩
def Hc (_ : Nat) (n : Int) : Option (List UInt8) := ck (-9223372036854775808 ≤ (0 + n) ∧ (0 + n) ≤ 9223372036854775807) (ck (0 ≤ (0 + n) ∧ (0 + n) ≤ 140737488355328) (some ((([] : List UInt8)).take (([] : List UInt8)).length ++ (([] : List UInt8)).drop (([] : List UInt8)).length)))
theorem Ra (N : Nat) (n : Int) (r) (hM : Hc N n = some r) (ro : Ro) (bb : Nat) : Does prog 290 #[vP bb 0, vI n] ro (Ar bb (vP bb 0) nS) (pO (Ar bb (vP bb 0) nS) (oS 5 encYs r fun s_0 => (oE (vT #[]) [(Ar bb (vP bb 0) s_0)]))) := by
 unfold Hc at hM
 refine Cg follows func290 rfl 30 rfl _ fz2 (fun _ _ h_ _ => h_) (fun base0_ => ?_)
 refine Ai fun K1 hK1 => Ck [(some 13, false)] (conG prog [(13, fun _ _ v_ L_ U_ => (aV 5 ((0 + n)).toNat) v_ L_ U_)]) [] (by decide +kernel) (fun hn => Be) <| r_R [vP bb 0, vP bb 0, vP bb 1] rfl <| rl nS 0 <| r_W (vI 0) rfl (UD rfl rfl rfl) <| r_X (vI 0) rfl (AR rfl (by decide) (by decide)) rfl <| r_V (vI n) rfl ?_
 obtain ⟨ck2, hM⟩ := Ae hM
 refine r_X (vI (0 + n)) rfl (AR rfl ck2.1 ck2.2) rfl ?_
 obtain ⟨ck3, hM⟩ := Ae hM
 refine eW (Ls := [(Ar bb (vP bb 0) nS)]) (ps := #[3]) (t := 229) 5 (0 + n) rfl rfl rfl (QH rfl) func302 (by kernel_rfl) (by kernel_rfl) (by kernel_rfl) (by kernel_rfl) rfl ck3 (fun _ _ _ _ _ => Iff.rfl) (fun s5 S6 xs4 _ H7 => ?_)
 refine r_R [vP bb 0, vP bb 0, vP bb 1] rfl <| rl nS 0 <| r_W (vI ((([] : List UInt8)).length : Int)) rfl (Aj rfl rfl rfl (.inl ⟨rfl, rfl⟩)) <| r_W (EJ s5 0 ((((([] : List UInt8)).length : Int)).toNat) 1) rfl (AD (GK rfl rfl rfl rfl (Sl.shp H7) (by exact ⟨by decide, Int.natCast_nonneg _⟩))) <| r_V (EJ s5 0 ((((([] : List UInt8)).length : Int)).toNat) 1) rfl <| Aa <| hK1 _ _ ?_
 refine AL [(some 25, true)] (conG prog [(25, fun _ _ v_ L_ U_ => (pUp (fun v_ U_ => v_ = .int .i64 ((min (([] : List UInt8)).length (([] : List UInt8)).length : Nat) : Int) ∧ Sl 5 encYs (EJ s5 0 ((((([] : List UInt8)).length : Int)).toNat) 1) ((([] : List UInt8)).take (([] : List UInt8)).length ++ (([] : List UInt8)).drop (([] : List UInt8)).length) U_ ∧ U_.map (·.1) = S6.map (·.1))) v_ L_ U_)]) <| r_R [EJ s5 0 ((((([] : List UInt8)).length : Int)).toNat) 1, vP bb 0, vP bb 0, vP bb 1] rfl <| rl nS 0 ?_
 refine fb (Ls := [(Ar bb (vP bb 0) nS), S6]) 1 (En := encYs) (ys := ([] : List UInt8)) rfl rfl rfl rfl rfl rfl (Sl.take00 H7) (.inl ⟨rfl, rfl⟩) (fun _ _ _ => .inl ⟨rfl, rfl⟩) rfl rfl rfl rfl (fun _ _ _ _ _ => Iff.rfl) (fun S9 H10 => ?_)
 refine Aa <| Ax <| r_R [vP bb 0, EJ s5 0 ((((([] : List UInt8)).length : Int)).toNat) 1, vP bb 0, vP bb 1] rfl <| r_s (List.flatten [(Ar bb (vP bb 0) (EJ s5 0 ((((([] : List UInt8)).length : Int)).toNat) 1)), S9]) 0 _ _ _ _ _ (#[vP bb 0, EJ s5 0 ((((([] : List UInt8)).length : Int)).toNat) 1]) rfl rfl rfl (Du rfl (Sl.shp H10)) (.ofS rfl rfl (Ao (Shp.one (Sl.shp H10)) Bi)) rfl rfl <| Aa ?_
 cases hM
 refine PH (v0 := vT #[]) (O := [S9, (Ar bb (vP bb 0) (EJ s5 0 ((((([] : List UInt8)).length : Int)).toNat) 1))]) rfl (Sub.pick [(Ar bb (vP bb 0) (EJ s5 0 ((((([] : List UInt8)).length : Int)).toNat) 1)), S9] [1, 0] rfl) ⟨EJ s5 0 ((((([] : List UInt8)).length : Int)).toNat) 1, S9, _, H10, ⟨rfl, rfl⟩, rfl⟩
def Hw (N : Nat) (n : Int) : Option (List UInt8) := ck ((-9223372036854775808 ≤ (0 - ((([] : List UInt8)).length : Int)) ∧ (0 - ((([] : List UInt8)).length : Int)) ≤ 9223372036854775807)) (if ((0 - ((([] : List UInt8)).length : Int)) : Int) < n then (Hc N n).bind fun r7 => some r7 else some ([] : List UInt8))
def Gf (N : Nat) (n : Int) : Option (List UInt8) := (Fj N ).bind fun r2 => if n < 0 then none else Hw N n 
theorem Rb (N : Nat) (n : Int) (r) (hM : Gf N n = some r) (ro : Ro) (bb : Nat) : Does prog 274 #[vP bb 0, vI n] ro (Ar bb (Value.pointer none) nS) (pO (Ar bb (Value.pointer none) nS) (oS 5 encYs r fun s_0 => (oE (vT #[]) [(Ar bb (vP bb 0) s_0)]))) := by
 unfold Gf at hM
 refine Cg follows func274 rfl 25 rfl _ fz2 (fun _ _ h_ _ => h_) (fun base0_ => ?_)
 refine AL [(some 5, true)] (conG prog [(5, fun _ _ v_ L_ U_ => (pO (List.flatten [(Ar bb (Value.pointer none) nS)]) (oE (vT #[]) [(Ar bb (vP bb 0) nS)])) v_ L_ U_)]) <| r_V (vP bb 0) rfl ?_
 obtain ⟨r2, hr3, hM⟩ := Ab hM
 refine Lz (Ls := [(Ar bb (Value.pointer none) nS)]) (FL := [(Ar bb (Value.pointer none) nS)]) [0] _ (some 5) 289 _ rfl rfl rfl rfl rfl (cF Oa) (fun o w hn_ z_ => Lu N  _ hr3 _ bb) (fun _ _ _ _ _ => Iff.rfl) (fun h_ => nomatch h_) ?_
 rintro _ _ ⟨rfl, rfl⟩
 refine Cw (Ls := [(Ar bb (vP bb 0) nS)]) (Ls' := [(Ar bb (vP bb 0) nS)]) [0] rfl rfl <| Aa <| Bm (fun tt ll => (Hw N n  = some r) ∧ Is [(0, vP bb 0), (1, vI n)] (Ar bb (vP bb 0) nS) tt ll) ?_ ?_
 ·refine Ad <| r_R [vI n, vB (decide (n < 0))] rfl <| Aa <| Af _ rfl (fun hc13 => ?_) (fun hc13 => ?_)
  ·replace hM := iD hc13 hM
   refine Ax <| r_V (Value.iface 9 (Value.string (⟨#[115, 116, 114, 105, 110, 103, 115, 46, 66, 117, 105, 108, 100, 101, 114, 46, 71, 114, 111, 119, 58, 32, 110, 101, 103, 97, 116, 105, 118, 101, 32, 99, 111, 117, 110, 116]⟩))) rfl ?_
   cases hM
  replace hM := iF hc13 hM
  refine Ah <| fg _ (Sub.of (suK _ suN)) ?_
  exact ⟨hM, Ak rfl rfl⟩
 clear hM; rintro t l ⟨hM, ⟨T, rfl⟩, rfl⟩
 unfold Hw at hM
 refine Ai fun K4 hK4 => Ge [] (by decide +kernel) (fun hn => Be) <| r_R [vP bb 0, vP bb 0, vP bb 1] rfl <| rl nS 0 <| r_W (vI 0) rfl (UD rfl rfl rfl) <| r_R [vP bb 0, vP bb 0, vP bb 1] rfl <| rl nS 0 <| r_W (vI ((([] : List UInt8)).length : Int)) rfl (Aj rfl rfl rfl (.inl ⟨rfl, rfl⟩)) ?_
 obtain ⟨ck5, hM⟩ := Ae hM
 refine r_X (vI ((0 - ((([] : List UInt8)).length : Int)))) rfl (AR rfl ck5.1 ck5.2) rfl <| r_R [vI n, vB (decide (((0 - ((([] : List UInt8)).length : Int)) : Int) < n))] rfl <| Aa <| hK4 _ _ ?_
 refine Af _ rfl (fun hc6 => ?_) (fun hc6 => ?_)
 ·replace hM := iD hc6 hM
  refine BB [(some 24, true)] (conG prog [(24, fun _ _ v_ L_ U_ => ∀ u0_, Hc N n = some u0_ → (pO (List.flatten [(Ar bb (vP bb 0) nS)]) (oS 5 encYs u0_ fun s_0 => (oE (vT #[]) [(Ar bb (vP bb 0) s_0)]))) v_ L_ U_)]) <| r_R [vP bb 0, vI n] rfl ?_
  obtain ⟨r7, hr8, hM⟩ := Ab hM
  refine Lz (Ls := [(Ar bb (vP bb 0) nS)]) (FL := [(Ar bb (vP bb 0) nS)]) [0] _ (some 24) 290 _ rfl rfl rfl rfl rfl (cF Yc) (fun o w hn_ z_ => Ra N n _ hr8 _ bb) (AF hr8) (fun h_ => nomatch h_) ?_
  rintro _ _ ⟨s9, S10, _, H11, ⟨rfl, rfl⟩, rfl⟩
  refine Cw (Ls := [S10, (Ar bb (vP bb 0) s9)]) (Ls' := [(Ar bb (vP bb 0) s9), S10]) [1, 0] rfl rfl <| Aa ?_
  cases hM
  refine PH (v0 := vT #[]) (O := [S10, (Ar bb (vP bb 0) s9)]) rfl (Sub.pick [(Ar bb (vP bb 0) s9), S10] [1, 0] rfl) ⟨s9, S10, _, H11, ⟨rfl, rfl⟩, rfl⟩
 replace hM := iF hc6 hM
 refine Ah ?_
 cases hM
 refine PH (v0 := vT #[]) (O := [[], (Ar bb (vP bb 0) nS)]) rfl (Sub.pickE (Ls := [(Ar bb (vP bb 0) nS), []]) (Ls0 := [(Ar bb (vP bb 0) nS)]) rfl [1, 0] rfl) ⟨nS, [], _, Sl.nil, ⟨rfl, rfl⟩, rfl⟩
def Dm (N : Nat) (c : Int) (x1_ : Bool) : Option Int := if x1_ = true then some (IntKind.i32.wrap (c + 32)) else (Bn N c 1024 1039).bind fun r11 => if r11 = true then some (IntKind.i32.wrap (c + 80)) else if c = 962 then some 963 else some c
def Gg (N : Nat) (c : Int) : Option Int := (EA N c).bind fun r4 => if r4 = true then (Bn N c 65 90).bind fun r20 => if r20 = true then Dm N c r20 else (Bn N c 192 222).bind fun r24 => if r24 = true then Dm N c r24 else (Bn N c 913 937).bind fun r28 => if r28 = true then Dm N c r28 else (Bn N c 1040 1071).bind fun r31 => Dm N c r31 else some c
theorem Ri (N : Nat) (c r : Int) (hM : Gg N c = some r) : Gives prog 276 #[Value.int .i32 c] (Value.int .i32 r) := by
 unfold Gg at hM
 refine AC follows func276 rfl 28 rfl _ fz1 (fun base0_ => ?_)
 refine Ad <| r_V (Value.int .i32 0) rfl <| Aa <| Ai fun K2 hK2 => Ap <| Ad <| r_V (Value.int .i32 c) rfl ?_
 obtain ⟨r4, hr5, hM⟩ := Ab hM
 refine rc (vB r4) (cF SB) (Kj N c _ hr5) <| r_R [vB (!(r4)), vB (!(r4))] rfl <| Aa <| Af _ rfl (fun hc6 => ?_) (fun hc6 => ?_)
 ·replace hM := ifn (Bool.eq_false_iff.1 (CZ hc6)) hM
  refine Ad <| r_R [Value.int .i32 c, Value.int .i32 c] rfl <| Aa ?_
  cases hM
  exact aR eE1
 replace hM := ifp (Da hc6) hM
 refine Bm (fun tt ll => ∃ (x1_ : Bool), (Dm N c x1_ = some r) ∧ Is [(0, Value.int .i32 c), (8, vB x1_)] [] tt ll) ?_ ?_
 ·refine Ad <| r_V (Value.int .i32 c) rfl ?_
  obtain ⟨r20, hr21, hM⟩ := Ab hM
  refine rc (vB r20) (cF Fc) (BM N c 65 90 _ hr21) <| r_V (vB r20) rfl <| Aa <| Af _ rfl (fun hc22 => ?_) (fun hc22 => ?_)
  ·replace hM := ifp hc22 hM
   refine Ah <| fg _ (Sub.of suN) ?_
   exact ⟨r20, hM, Ak rfl rfl⟩
  replace hM := iB hc22 hM
  refine Ad <| r_V (Value.int .i32 c) rfl ?_
  obtain ⟨r24, hr25, hM⟩ := Ab hM
  refine rc (vB r24) (cF Fc) (BM N c 192 222 _ hr25) <| r_V (vB r24) rfl <| Aa <| Af _ rfl (fun hc26 => ?_) (fun hc26 => ?_)
  ·replace hM := ifp hc26 hM
   refine Ah <| fg _ (Sub.of suN) ?_
   exact ⟨r24, hM, Ak rfl rfl⟩
  replace hM := iB hc26 hM
  refine Ad <| r_V (Value.int .i32 c) rfl ?_
  obtain ⟨r28, hr29, hM⟩ := Ab hM
  refine rc (vB r28) (cF Fc) (BM N c 913 937 _ hr29) <| r_V (vB r28) rfl <| Aa <| Af _ rfl (fun hc30 => ?_) (fun hc30 => ?_)
  ·replace hM := ifp hc30 hM
   refine Ah <| fg _ (Sub.of suN) ?_
   exact ⟨r28, hM, Ak rfl rfl⟩
  replace hM := iB hc30 hM
  refine Ax <| r_V (Value.int .i32 c) rfl ?_
  obtain ⟨r31, hr32, hM⟩ := Ab hM
  refine rc (vB r31) (cF Fc) (BM N c 1040 1071 _ hr32) <| r_V (vB r31) rfl <| Aa <| fg _ (Sub.of suN) ?_
  exact ⟨r31, hM, Ak rfl rfl⟩
 clear hM; rintro t l ⟨x1_, hM, ⟨T, rfl⟩, rfl⟩
 unfold Dm at hM
 refine Af _ rfl (fun hc8 => ?_) (fun hc8 => ?_)
 ·replace hM := ifp hc8 hM
  refine Ad <| r_R [Value.int .i32 c, Value.int .i32 (IntKind.i32.wrap (c + 32)), Value.int .i32 (IntKind.i32.wrap (c + 32))] rfl <| Aa ?_
  cases hM
  exact aR eE1
 replace hM := iB hc8 hM
 refine Ad <| r_V (Value.int .i32 c) rfl ?_
 obtain ⟨r11, hr12, hM⟩ := Ab hM
 refine rc (vB r11) (cF Fc) (BM N c 1024 1039 _ hr12) <| r_V (vB r11) rfl <| Aa <| Af _ rfl (fun hc13 => ?_) (fun hc13 => ?_)
 ·replace hM := ifp hc13 hM
  refine Ad <| r_R [Value.int .i32 c, Value.int .i32 (IntKind.i32.wrap (c + 80)), Value.int .i32 (IntKind.i32.wrap (c + 80))] rfl <| Aa ?_
  cases hM
  exact aR eE1
 replace hM := iB hc13 hM
 refine Ad <| r_R [Value.int .i32 c, vB (c == 962), vB (c == 962)] rfl <| Aa <| Af _ rfl (fun hc16 => ?_) (fun hc16 => ?_)
 ·replace hM := iE hc16 hM
  refine Ad <| r_V (Value.int .i32 963) rfl <| Aa ?_
  cases hM
  exact aR eE1
 replace hM := iG hc16 hM
 refine Ah <| hK2 _ _ ?_
 refine Ad <| r_R [Value.int .i32 c, Value.int .i32 c] rfl <| Aa ?_
 cases hM
 exact aR eE1
def Fi (_ : Nat) (b : List UInt8) : Option (List UInt8) := some b
theorem Lr (N : Nat) (b r : List UInt8) (hM : Fi N b = some r) (ro : Ro) (bb : Nat) (bv : Value) (Sb : List Bl) (hb : Sl 5 encYs bv b Sb) : Does prog 289 #[vP bb 0] ro (List.flatten [(Ar bb (Value.pointer none) bv), Sb]) (pO (List.flatten [(Ar bb (Value.pointer none) bv), Sb]) (oI 5 encYs bv r (oE (vT #[]) [(Ar bb (vP bb 0) bv)]))) := by
 unfold Fi at hM
 refine Cg follows func289 rfl 20 rfl _ fz1 (fun _ _ h_ _ => h_) (fun base0_ => ?_)
 refine Ad <| r_R [vP bb 0, vP bb 0, vP bb 0] rfl <| rl (Value.pointer none) 0 <| r_V (vB true) rfl <| Aa <| Af true rfl (fun _ => ?_) (fun h_ => nomatch h_)
 refine BB [(some 9, true), (some 10, true), (some 11, true)] (conG prog [(9, fun _ _ v_ L_ U_ => (pUp (fun v_ U_ => v_ = vP bb 0 ∧ U_ = (Ar bb (Value.pointer none) bv))) v_ L_ U_), (10, fun _ _ v_ L_ U_ => (pUp (fun v_ U_ => v_ = vP bb 0 ∧ U_ = (Ar bb (Value.pointer none) bv))) v_ L_ U_), (11, fun _ _ v_ L_ U_ => (pUp (fun v_ U_ => v_ = vP bb 0 ∧ U_ = (Ar bb (Value.pointer none) bv))) v_ L_ U_)]) <| r_R [vP bb 0, vP bb 0] rfl <| Vb (Ls := [(Ar bb (Value.pointer none) bv), Sb]) (vP bb 0) 0 rfl rfl rfl rfl rfl (TZ (TB := 344) (cs := #[Value.pointer none, bv]) rfl rfl rfl rfl rfl rfl rfl (List.mem_singleton.2 rfl)) (fun _ _ _ _ _ => Iff.rfl) ?_
 refine Vb (Ls := [(Ar bb (Value.pointer none) bv), Sb]) (vP bb 0) 0 rfl rfl rfl rfl rfl (fun w_ _ => PX (args := #[vP bb 0]) (e := Extern.AbiNoEscape.same) (w' := w_) (QH rfl) func301 (by kernel_rfl) (by kernel_rfl) (by kernel_rfl) (by kernel_rfl) rfl) (fun _ _ _ _ _ => Iff.rfl) <| Vb (Ls := [(Ar bb (Value.pointer none) bv), Sb]) (vP bb 0) 0 rfl rfl rfl rfl rfl (Pt (TB := 344) (cs := #[Value.pointer none, bv]) 2 rfl rfl rfl rfl rfl (List.mem_singleton.2 rfl) rfl (by kernel_rfl)) (fun _ _ _ _ _ => Iff.rfl) <| r_R [vP bb 0, vP bb 0] rfl ?_
 refine r_s (List.flatten [(Ar bb (vP bb 0) bv), Sb]) 0 _ _ _ _ _ (#[vP bb 0, bv]) rfl rfl rfl rfl (.of rfl rfl) rfl rfl <| Aa ?_
 cases hM
 refine PH (v0 := vT #[]) (O := [Sb, (Ar bb (vP bb 0) bv)]) rfl (Sub.pick [(Ar bb (vP bb 0) bv), Sb] [1, 0] rfl) ⟨Sb, _, hb, ⟨rfl, rfl⟩, rfl⟩
def VQ (p : List UInt8) (r' : Int) (x3_ : Bool) : Option (List UInt8) := if x3_ = true then ck ((0 : Int) ≤ ((18#64).toNat : Int)) (ck ((0 : Int) ≤ ((12#64).toNat : Int)) (ck ((0 : Int) ≤ ((6#64).toNat : Int)) (ck ((p).length + ([((240 : UInt8) ||| (AV (BL r' 18))), ((128 : UInt8) ||| ((AV (BL r' 12)) &&& (63 : UInt8))), ((128 : UInt8) ||| ((AV (BL r' 6)) &&& (63 : UInt8))), ((128 : UInt8) ||| ((AV r') &&& (63 : UInt8)))]).length ≤ 140737488355328) (some ((p ++ ([((240 : UInt8) ||| (AV (BL r' 18))), ((128 : UInt8) ||| ((AV (BL r' 12)) &&& (63 : UInt8))), ((128 : UInt8) ||| ((AV (BL r' 6)) &&& (63 : UInt8))), ((128 : UInt8) ||| ((AV r') &&& (63 : UInt8)))]))))))) else ck ((p).length + ([(239 : UInt8), (191 : UInt8), (189 : UInt8)]).length ≤ 140737488355328) (some (p ++ ([(239 : UInt8), (191 : UInt8), (189 : UInt8)])))
def QS (p : List UInt8) (r' : Int) (x1_ : Bool) : Option (List UInt8) := if x1_ = true then ck ((0 : Int) ≤ ((12#64).toNat : Int)) (ck ((0 : Int) ≤ ((6#64).toNat : Int)) (ck ((p).length + ([((224 : UInt8) ||| (AV (BL r' 12))), ((128 : UInt8) ||| ((AV (BL r' 6)) &&& (63 : UInt8))), ((128 : UInt8) ||| ((AV r') &&& (63 : UInt8)))]).length ≤ 140737488355328) (some ((p ++ ([((224 : UInt8) ||| (AV (BL r' 12))), ((128 : UInt8) ||| ((AV (BL r' 6)) &&& (63 : UInt8))), ((128 : UInt8) ||| ((AV r') &&& (63 : UInt8)))])))))) else if ((((BQ r').toNat : Nat) : Int) : Int) > 65535 then VQ p r' (decide (((((BQ r').toNat : Nat) : Int) : Int) ≤ 1114111)) else VQ p r' false
def uNm (_ : Nat) (p : List UInt8) (r' : Int) : Option (List UInt8) := if ((((BQ r').toNat : Nat) : Int) : Int) ≤ 2047 then ck ((0 : Int) ≤ ((6#64).toNat : Int)) (ck ((p).length + ([((192 : UInt8) ||| (AV (BL r' 6))), ((128 : UInt8) ||| ((AV r') &&& (63 : UInt8)))]).length ≤ 140737488355328) (some ((p ++ ([((192 : UInt8) ||| (AV (BL r' 6))), ((128 : UInt8) ||| ((AV r') &&& (63 : UInt8)))]))))) else if ((((BQ r').toNat : Nat) : Int) : Int) < 55296 then QS p r' (decide (((((BQ r').toNat : Nat) : Int) : Int) < 55296)) else if (57343 : Int) < (((BQ r').toNat : Nat) : Int) then QS p r' (decide (((((BQ r').toNat : Nat) : Int) : Int) ≤ 65535)) else QS p r' false
theorem uNg (N : Nat) (p : List UInt8) (r' : Int) (r) (hM : uNm N p r' = some r) (ro : Ro) (pv : Value) (Sp : List Bl) (hp : Sl 5 encYs pv p Sp) : Does prog 303 #[pv, Value.int .i32 r'] ro (List.flatten [Sp]) (pO (List.flatten [Sp]) (oS 5 encYs r fun s_0 => (oE s_0 []))) := by
 unfold uNm at hM
 refine Cg follows func303 rfl 78 rfl _ fz2 (fun _ _ h_ _ => h_) (fun base0_ => ?_)
 refine Ad <| r_V nS rfl <| Aa <| Ad <| r_V (Value.int .i32 r') rfl <| r_w (Value.int .u32 (((BQ r').toNat : Nat) : Int)) rfl rfl (SS r') (fun _ => rfl) <| r_V (Value.int .u32 (((BQ r').toNat : Nat) : Int)) rfl <| Aa <| Ap <| Ad <| r_R [Value.int .u32 (((BQ r').toNat : Nat) : Int), vB (decide (((((BQ r').toNat : Nat) : Int) : Int) ≤ 2047)), vB (decide (((((BQ r').toNat : Nat) : Int) : Int) ≤ 2047))] rfl <| Aa <| Af _ rfl (fun hc4 => ?_) (fun hc4 => ?_)
 ·replace hM := iD hc4 hM
  refine AL [(some 23, false), (some 24, true)] (conG prog []) <| r_R [pv, Value.int .i32 r'] rfl ?_
  obtain ⟨ck6, hM⟩ := Ae hM
  refine r_W (Value.int .i32 (BL r' 6)) rfl (JM (x := r') 6 rfl rfl) <| r_w (Value.int .u8 ((((AV (BL r' 6)).toNat : Nat) : Int))) rfl rfl (GO (BL r' 6)) (fun _ => rfl) <| r_X (Value.int .u8 (((((192 : UInt8) ||| (AV (BL r' 6))).toNat : Nat) : Int))) rfl (QQ (192 : UInt8) (AV (BL r' 6))) rfl <| r_V (Value.int .i32 r') rfl <| r_w (Value.int .u8 (((AV r').toNat : Nat) : Int)) rfl rfl (GO r') (fun _ => rfl) <| r_X (Value.int .u8 (((((AV r') &&& (63 : UInt8)).toNat : Nat) : Int))) rfl (PT (AV r') (63 : UInt8)) rfl ?_
  refine r_X (Value.int .u8 (((((128 : UInt8) ||| ((AV r') &&& (63 : UInt8))).toNat : Nat) : Int))) rfl (QQ (128 : UInt8) ((AV r') &&& (63 : UInt8))) rfl <| Dj (cs0 := []) (Ls := [Sp]) 5 encY [((192 : UInt8) ||| (AV (BL r' 6))), ((128 : UInt8) ||| ((AV r') &&& (63 : UInt8)))] [Value.int .u8 (((((192 : UInt8) ||| (AV (BL r' 6))).toNat : Nat) : Int)), Value.int .u8 (((((128 : UInt8) ||| ((AV r') &&& (63 : UInt8))).toNat : Nat) : Int))] [Value.int .u8 0, Value.int .u8 0] rfl rfl rfl rfl rfl rfl rfl (by kernel_rfl) (by kernel_rfl) rfl rfl rfl (fun s7 S8 H9 => ?_)
  obtain ⟨ck10, hM⟩ := Ae hM
  refine HJ (cs0 := []) (Ls := [Sp, S8]) 0 (En := encYs) rfl rfl rfl rfl rfl hp rfl (fun o w z_ => Ix ((AN H9 (Aw (Ls := [Sp, S8]) (k := 1) rfl rfl)) o w z_)) rfl rfl rfl rfl rfl (HV ck10 rfl) (HU ck10 rfl) rfl (fun s11 S12 H13 => ?_)
  refine r_V s11 rfl <| Aa ?_
  cases hM
  refine AW (fun hn => DW (v0 := s11) (O := [S12]) (Cy rfl) (Sub.pick [S12, S8] [0] rfl) ⟨s11, S12, _, H13, ⟨rfl, rfl⟩, rfl⟩)
 replace hM := iF hc4 hM
 refine Bm (fun tt ll => ∃ (x1_ : Bool), (QS p r' x1_ = some r) ∧ Is [(0, pv), (1, Value.int .i32 r'), (5, Value.int .u32 (((BQ r').toNat : Nat) : Int)), (25, vB x1_)] (List.flatten [Sp]) tt ll) ?_ ?_
 ·refine Ad <| r_R [Value.int .u32 (((BQ r').toNat : Nat) : Int), vB (decide (((((BQ r').toNat : Nat) : Int) : Int) < 55296)), vB (decide (((((BQ r').toNat : Nat) : Int) : Int) < 55296))] rfl <| Aa <| Af _ rfl (fun hc47 => ?_) (fun hc47 => ?_)
  ·replace hM := iD hc47 hM
   refine Ah <| fg _ (Sub.pick [Sp] [0] rfl) ?_
   exact ⟨decide (((((BQ r').toNat : Nat) : Int) : Int) < 55296), hM, Ak rfl rfl⟩
  replace hM := iF hc47 hM
  refine Ax <| r_R [Value.int .u32 (((BQ r').toNat : Nat) : Int), vB (decide ((57343 : Int) < (((BQ r').toNat : Nat) : Int))), vB (decide ((57343 : Int) < (((BQ r').toNat : Nat) : Int)))] rfl ?_
  rcases hg48 : (decide ((57343 : Int) < (((BQ r').toNat : Nat) : Int))) with _ | _
  ·replace hM := iF hg48 hM
   refine r_R [none, none, vB false, vB false] rfl <| Aa <| fg _ (Sub.pick [Sp] [0] rfl) ?_
   exact ⟨false, hM, Ak (by first | rfl | (simp only [hg48]; done) | (simp only [hg48]; rfl) | (simp only [Bc]; rfl)) rfl⟩
  replace hM := iD hg48 hM
  refine r_R [Value.int .u32 (((BQ r').toNat : Nat) : Int), vB (decide (((((BQ r').toNat : Nat) : Int) : Int) ≤ 65535)), vB (decide (((((BQ r').toNat : Nat) : Int) : Int) ≤ 65535)), vB (decide (((((BQ r').toNat : Nat) : Int) : Int) ≤ 65535))] rfl <| Aa <| fg _ (Sub.pick [Sp] [0] rfl) ?_
  exact ⟨decide (((((BQ r').toNat : Nat) : Int) : Int) ≤ 65535), hM, Ak (by first | rfl | (simp only [hg48]; done) | (simp only [hg48]; rfl) | (simp only [Bc]; rfl)) rfl⟩
 clear hM; rintro t l ⟨x1_, hM, ⟨T, rfl⟩, rfl⟩
 unfold QS at hM
 refine Af _ rfl (fun hc14 => ?_) (fun hc14 => ?_)
 ·replace hM := ifp hc14 hM
  refine AL [(some 48, false), (some 49, true)] (conG prog []) <| r_R [pv, Value.int .i32 r'] rfl ?_
  obtain ⟨ck16, hM⟩ := Ae hM
  refine r_W (Value.int .i32 (BL r' 12)) rfl (JM (x := r') 12 rfl rfl) <| r_w (Value.int .u8 ((((AV (BL r' 12)).toNat : Nat) : Int))) rfl rfl (GO (BL r' 12)) (fun _ => rfl) <| r_X (Value.int .u8 (((((224 : UInt8) ||| (AV (BL r' 12))).toNat : Nat) : Int))) rfl (QQ (224 : UInt8) (AV (BL r' 12))) rfl <| r_V (Value.int .i32 r') rfl ?_
  obtain ⟨ck17, hM⟩ := Ae hM
  refine r_W (Value.int .i32 (BL r' 6)) rfl (JM (x := r') 6 rfl rfl) <| r_w (Value.int .u8 ((((AV (BL r' 6)).toNat : Nat) : Int))) rfl rfl (GO (BL r' 6)) (fun _ => rfl) <| r_X (Value.int .u8 (((((AV (BL r' 6)) &&& (63 : UInt8)).toNat : Nat) : Int))) rfl (PT (AV (BL r' 6)) (63 : UInt8)) rfl <| r_X (Value.int .u8 (((((128 : UInt8) ||| ((AV (BL r' 6)) &&& (63 : UInt8))).toNat : Nat) : Int))) rfl (QQ (128 : UInt8) ((AV (BL r' 6)) &&& (63 : UInt8))) rfl <| r_V (Value.int .i32 r') rfl <| r_w (Value.int .u8 (((AV r').toNat : Nat) : Int)) rfl rfl (GO r') (fun _ => rfl) ?_
  refine r_X (Value.int .u8 (((((AV r') &&& (63 : UInt8)).toNat : Nat) : Int))) rfl (PT (AV r') (63 : UInt8)) rfl <| r_X (Value.int .u8 (((((128 : UInt8) ||| ((AV r') &&& (63 : UInt8))).toNat : Nat) : Int))) rfl (QQ (128 : UInt8) ((AV r') &&& (63 : UInt8))) rfl ?_
  refine Dj (cs0 := []) (Ls := [Sp]) 5 encY [((224 : UInt8) ||| (AV (BL r' 12))), ((128 : UInt8) ||| ((AV (BL r' 6)) &&& (63 : UInt8))), ((128 : UInt8) ||| ((AV r') &&& (63 : UInt8)))] [Value.int .u8 (((((224 : UInt8) ||| (AV (BL r' 12))).toNat : Nat) : Int)), Value.int .u8 (((((128 : UInt8) ||| ((AV (BL r' 6)) &&& (63 : UInt8))).toNat : Nat) : Int)), Value.int .u8 (((((128 : UInt8) ||| ((AV r') &&& (63 : UInt8))).toNat : Nat) : Int))] [Value.int .u8 0, Value.int .u8 0, Value.int .u8 0] rfl rfl rfl rfl rfl rfl rfl (by kernel_rfl) (by kernel_rfl) rfl rfl rfl (fun s18 S19 H20 => ?_)
  obtain ⟨ck21, hM⟩ := Ae hM
  refine HJ (cs0 := []) (Ls := [Sp, S19]) 0 (En := encYs) rfl rfl rfl rfl rfl hp rfl (fun o w z_ => Ix ((AN H20 (Aw (Ls := [Sp, S19]) (k := 1) rfl rfl)) o w z_)) rfl rfl rfl rfl rfl (HV ck21 rfl) (HU ck21 rfl) rfl (fun s22 S23 H24 => ?_)
  refine r_V s22 rfl <| Aa ?_
  cases hM
  refine AW (fun hn => DW (v0 := s22) (O := [S23]) (Cy rfl) (Sub.pick [S23, S19] [0] rfl) ⟨s22, S23, _, H24, ⟨rfl, rfl⟩, rfl⟩)
 replace hM := iB hc14 hM
 refine Bm (fun tt ll => ∃ (x3_ : Bool), (VQ p r' x3_ = some r) ∧ Is [(0, pv), (1, Value.int .i32 r'), (50, vB x3_)] (List.flatten [Sp]) tt ll) ?_ ?_
 ·refine Ax <| r_R [Value.int .u32 (((BQ r').toNat : Nat) : Int), vB (decide (((((BQ r').toNat : Nat) : Int) : Int) > 65535)), vB (decide (((((BQ r').toNat : Nat) : Int) : Int) > 65535))] rfl ?_
  rcases hg45 : (decide (((((BQ r').toNat : Nat) : Int) : Int) > 65535)) with _ | _
  ·replace hM := iF hg45 hM
   refine r_R [none, none, vB false, vB false] rfl <| Aa <| fg _ (Sub.pick [Sp] [0] rfl) ?_
   exact ⟨false, hM, Ak (by first | rfl | (simp only [hg45]; done) | (simp only [hg45]; rfl) | (simp only [Bc]; rfl)) rfl⟩
  replace hM := iD hg45 hM
  refine r_R [Value.int .u32 (((BQ r').toNat : Nat) : Int), vB (decide (((((BQ r').toNat : Nat) : Int) : Int) ≤ 1114111)), vB (decide (((((BQ r').toNat : Nat) : Int) : Int) ≤ 1114111)), vB (decide (((((BQ r').toNat : Nat) : Int) : Int) ≤ 1114111))] rfl <| Aa <| fg _ (Sub.pick [Sp] [0] rfl) ?_
  exact ⟨decide (((((BQ r').toNat : Nat) : Int) : Int) ≤ 1114111), hM, Ak (by first | rfl | (simp only [hg45]; done) | (simp only [hg45]; rfl) | (simp only [Bc]; rfl)) rfl⟩
 clear hM; rintro t l ⟨x3_, hM, ⟨T, rfl⟩, rfl⟩
 unfold VQ at hM
 refine Af _ rfl (fun hc25 => ?_) (fun hc25 => ?_)
 ·replace hM := ifp hc25 hM
  refine AL [(some 76, false), (some 77, true)] (conG prog []) <| r_R [pv, Value.int .i32 r'] rfl ?_
  obtain ⟨ck27, hM⟩ := Ae hM
  refine r_W (Value.int .i32 (BL r' 18)) rfl (JM (x := r') 18 rfl rfl) <| r_w (Value.int .u8 ((((AV (BL r' 18)).toNat : Nat) : Int))) rfl rfl (GO (BL r' 18)) (fun _ => rfl) <| r_X (Value.int .u8 (((((240 : UInt8) ||| (AV (BL r' 18))).toNat : Nat) : Int))) rfl (QQ (240 : UInt8) (AV (BL r' 18))) rfl <| r_V (Value.int .i32 r') rfl ?_
  obtain ⟨ck28, hM⟩ := Ae hM
  refine r_W (Value.int .i32 (BL r' 12)) rfl (JM (x := r') 12 rfl rfl) <| r_w (Value.int .u8 ((((AV (BL r' 12)).toNat : Nat) : Int))) rfl rfl (GO (BL r' 12)) (fun _ => rfl) <| r_X (Value.int .u8 (((((AV (BL r' 12)) &&& (63 : UInt8)).toNat : Nat) : Int))) rfl (PT (AV (BL r' 12)) (63 : UInt8)) rfl <| r_X (Value.int .u8 (((((128 : UInt8) ||| ((AV (BL r' 12)) &&& (63 : UInt8))).toNat : Nat) : Int))) rfl (QQ (128 : UInt8) ((AV (BL r' 12)) &&& (63 : UInt8))) rfl <| r_V (Value.int .i32 r') rfl ?_
  obtain ⟨ck29, hM⟩ := Ae hM
  refine r_W (Value.int .i32 (BL r' 6)) rfl (JM (x := r') 6 rfl rfl) <| r_w (Value.int .u8 ((((AV (BL r' 6)).toNat : Nat) : Int))) rfl rfl (GO (BL r' 6)) (fun _ => rfl) <| r_X (Value.int .u8 (((((AV (BL r' 6)) &&& (63 : UInt8)).toNat : Nat) : Int))) rfl (PT (AV (BL r' 6)) (63 : UInt8)) rfl <| r_X (Value.int .u8 (((((128 : UInt8) ||| ((AV (BL r' 6)) &&& (63 : UInt8))).toNat : Nat) : Int))) rfl (QQ (128 : UInt8) ((AV (BL r' 6)) &&& (63 : UInt8))) rfl <| r_V (Value.int .i32 r') rfl <| r_w (Value.int .u8 (((AV r').toNat : Nat) : Int)) rfl rfl (GO r') (fun _ => rfl) ?_
  refine r_X (Value.int .u8 (((((AV r') &&& (63 : UInt8)).toNat : Nat) : Int))) rfl (PT (AV r') (63 : UInt8)) rfl <| r_X (Value.int .u8 (((((128 : UInt8) ||| ((AV r') &&& (63 : UInt8))).toNat : Nat) : Int))) rfl (QQ (128 : UInt8) ((AV r') &&& (63 : UInt8))) rfl ?_
  refine Dj (cs0 := []) (Ls := [Sp]) 5 encY [((240 : UInt8) ||| (AV (BL r' 18))), ((128 : UInt8) ||| ((AV (BL r' 12)) &&& (63 : UInt8))), ((128 : UInt8) ||| ((AV (BL r' 6)) &&& (63 : UInt8))), ((128 : UInt8) ||| ((AV r') &&& (63 : UInt8)))] [Value.int .u8 (((((240 : UInt8) ||| (AV (BL r' 18))).toNat : Nat) : Int)), Value.int .u8 (((((128 : UInt8) ||| ((AV (BL r' 12)) &&& (63 : UInt8))).toNat : Nat) : Int)), Value.int .u8 (((((128 : UInt8) ||| ((AV (BL r' 6)) &&& (63 : UInt8))).toNat : Nat) : Int)), Value.int .u8 (((((128 : UInt8) ||| ((AV r') &&& (63 : UInt8))).toNat : Nat) : Int))] [Value.int .u8 0, Value.int .u8 0, Value.int .u8 0, Value.int .u8 0] rfl rfl rfl rfl rfl rfl rfl (by kernel_rfl) (by kernel_rfl) rfl rfl rfl (fun s30 S31 H32 => ?_)
  obtain ⟨ck33, hM⟩ := Ae hM
  refine HJ (cs0 := []) (Ls := [Sp, S31]) 0 (En := encYs) rfl rfl rfl rfl rfl hp rfl (fun o w z_ => Ix ((AN H32 (Aw (Ls := [Sp, S31]) (k := 1) rfl rfl)) o w z_)) rfl rfl rfl rfl rfl (HV ck33 rfl) (HU ck33 rfl) rfl (fun s34 S35 H36 => ?_)
  refine r_V s34 rfl <| Aa ?_
  cases hM
  refine AW (fun hn => DW (v0 := s34) (O := [S35]) (Cy rfl) (Sub.pick [S35, S31] [0] rfl) ⟨s34, S35, _, H36, ⟨rfl, rfl⟩, rfl⟩)
 replace hM := iB hc25 hM
 refine AL [(some 9, false), (some 10, true)] (conG prog []) <| r_V pv rfl <| Dj (cs0 := []) (Ls := [Sp]) 5 encY [(239 : UInt8), (191 : UInt8), (189 : UInt8)] [Value.int .u8 239, Value.int .u8 191, Value.int .u8 189] [Value.int .u8 0, Value.int .u8 0, Value.int .u8 0] rfl rfl rfl rfl rfl rfl rfl (by kernel_rfl) (by kernel_rfl) rfl rfl rfl (fun s38 S39 H40 => ?_)
 obtain ⟨ck41, hM⟩ := Ae hM
 refine HJ (cs0 := []) (Ls := [Sp, S39]) 0 (En := encYs) rfl rfl rfl rfl rfl hp rfl (fun o w z_ => Ix ((AN H40 (Aw (Ls := [Sp, S39]) (k := 1) rfl rfl)) o w z_)) rfl rfl rfl rfl rfl (HV ck41 rfl) (HU ck41 rfl) rfl (fun s42 S43 H44 => ?_)
 refine r_V s42 rfl <| Aa ?_
 cases hM
 refine AW (fun hn => DW (v0 := s42) (O := [S43]) (Cy rfl) (Sub.pick [S43, S39] [0] rfl) ⟨s42, S43, _, H44, ⟨rfl, rfl⟩, rfl⟩)
def Jh (N : Nat) (p : List UInt8) (r' : Int) : Option (List UInt8) := if ((((BQ r').toNat : Nat) : Int) : Int) ≤ 127 then ck ((p).length + ([(AV r')]).length ≤ 140737488355328) (some (p ++ ([(AV r')]))) else (uNm N p r').bind fun r14 => some r14
theorem VR (N : Nat) (p : List UInt8) (r' : Int) (r) (hM : Jh N p r' = some r) (ro : Ro) (pv : Value) (Sp : List Bl) (hp : Sl 5 encYs pv p Sp) : Does prog 291 #[pv, Value.int .i32 r'] ro (List.flatten [Sp]) (pO (List.flatten [Sp]) (oS 5 encYs r fun s_0 => (oE s_0 []))) := by
 unfold Jh at hM
 refine Cg follows func291 rfl 16 rfl _ fz2 (fun _ _ h_ _ => h_) (fun base0_ => ?_)
 refine Ad <| r_V nS rfl <| Aa <| Ai fun K2 hK2 => Ad <| r_V (Value.int .i32 r') rfl <| r_w (Value.int .u32 (((BQ r').toNat : Nat) : Int)) rfl rfl (SS r') (fun _ => rfl) <| r_V (vB (decide (((((BQ r').toNat : Nat) : Int) : Int) ≤ 127))) rfl <| Aa <| Af _ rfl (fun hc4 => ?_) (fun hc4 => ?_)
 ·replace hM := iD hc4 hM
  refine AL [(some 11, false), (some 12, true)] (conG prog []) <| r_R [pv, Value.int .i32 r'] rfl <| r_w (Value.int .u8 (((AV r').toNat : Nat) : Int)) rfl rfl (GO r') (fun _ => rfl) <| Dj (cs0 := []) (Ls := [Sp]) 5 encY [(AV r')] [Value.int .u8 (((AV r').toNat : Nat) : Int)] [Value.int .u8 0] rfl rfl rfl rfl rfl rfl rfl (by kernel_rfl) (by kernel_rfl) rfl rfl rfl (fun s6 S7 H8 => ?_)
  obtain ⟨ck9, hM⟩ := Ae hM
  refine HJ (cs0 := []) (Ls := [Sp, S7]) 0 (En := encYs) rfl rfl rfl rfl rfl hp rfl (fun o w z_ => Ix ((AN H8 (Aw (Ls := [Sp, S7]) (k := 1) rfl rfl)) o w z_)) rfl rfl rfl rfl rfl (HV ck9 rfl) (HU ck9 rfl) rfl (fun s10 S11 H12 => ?_)
  refine r_V s10 rfl <| Aa ?_
  cases hM
  refine AW (fun hn => DW (v0 := s10) (O := [S11]) (Cy rfl) (Sub.pick [S11, S7] [0] rfl) ⟨s10, S11, _, H12, ⟨rfl, rfl⟩, rfl⟩)
 replace hM := iF hc4 hM
 refine Ah <| hK2 _ _ ?_
 refine AL [(some 15, true)] (conG prog [(15, fun _ _ v_ L_ U_ => ∀ u0_, uNm N p r' = some u0_ → (pO (List.flatten [Sp]) (oS 5 encYs u0_ fun s_0 => (oE s_0 []))) v_ L_ U_)]) <| r_R [pv, Value.int .i32 r'] rfl ?_
 obtain ⟨r14, hr15, hM⟩ := Ab hM
 refine Lz (Ls := [Sp]) (FL := [Sp]) [0] _ (some 15) 303 _ rfl rfl rfl rfl rfl (cF XW) (fun o w hn_ z_ => uNg N p r' _ hr15 _ pv Sp hp) (AF hr15) (fun h_ => nomatch h_) ?_
 rintro s16 _ ⟨_, S17, _, H18, ⟨rfl, rfl⟩, rfl⟩
 refine Cw (Ls := [S17]) (Ls' := [S17]) [0] rfl rfl <| r_V s16 rfl <| Aa ?_
 cases hM
 refine AW (fun hn => DW (v0 := s16) (O := [S17]) (Cy rfl) (Sub.pick [S17] [0] rfl) ⟨s16, S17, _, H18, ⟨rfl, rfl⟩, rfl⟩)
def Iv (N : Nat) (b : List UInt8) (r' : Int) : Option (Int × (List UInt8)) := (Fi N b).bind fun r3 => ck ((r3).length = (b).length) ((Jh N r3 r').bind fun r10 => ck ((-9223372036854775808 ≤ ((r10.length : Int) - (r3.length : Int)) ∧ ((r10.length : Int) - (r3.length : Int)) ≤ 9223372036854775807)) (some (((r10.length : Int) - (r3.length : Int)), r10)))
theorem Lw (N : Nat) (b : List UInt8) (r' : Int) (r) (hM : Iv N b r' = some r) (ro : Ro) (bb : Nat) (bv : Value) (Sb : List Bl) (hb : Sl 5 encYs bv b Sb) : Does prog 275 #[vP bb 0, Value.int .i32 r'] ro (List.flatten [(Ar bb (Value.pointer none) bv), Sb]) (pO (List.flatten [(Ar bb (Value.pointer none) bv), Sb]) (oS 5 encYs r.2 fun s_0 => (oE (vT #[vI r.1, Value.nilIface]) [(Ar bb (vP bb 0) s_0)]))) := by
 unfold Iv at hM
 refine Cg follows func275 rfl 30 rfl _ fz2 (fun _ _ h_ _ => h_) (fun base0_ => ?_)
 refine Ad <| r_R [vI 0, Value.nilIface] rfl <| Aa <| AL [(some 8, true)] (conG prog [(8, fun _ _ v_ L_ U_ => ∀ u0_, Fi N b = some u0_ → (pO (List.flatten [(Ar bb (Value.pointer none) bv), Sb]) (oI 5 encYs bv u0_ (oE (vT #[]) [(Ar bb (vP bb 0) bv)]))) v_ L_ U_)]) <| r_V (vP bb 0) rfl ?_
 obtain ⟨r3, hr4, hM⟩ := Ab hM
 obtain ⟨ck5, hM⟩ := Ae hM
 refine Lz (Ls := [(Ar bb (Value.pointer none) bv), Sb]) (FL := [(Ar bb (Value.pointer none) bv), Sb]) [0, 1] _ (some 8) 289 _ rfl rfl rfl rfl rfl (cF Oa) (fun o w hn_ z_ => Lr N b _ hr4 _ bb bv Sb hb) (AF hr4) (fun h_ => nomatch h_) ?_
 rintro _ _ ⟨S6, _, H7, ⟨rfl, rfl⟩, rfl⟩
 refine Cw (Ls := [S6, (Ar bb (vP bb 0) bv)]) (Ls' := [(Ar bb (vP bb 0) bv), S6]) [1, 0] rfl rfl <| Aa <| Ad <| r_R [vP bb 0, vP bb 0, vP bb 1] rfl <| rl bv 0 <| r_W (vI (r3.length : Int)) rfl (Aj rfl rfl rfl (Sl.shp H7)) <| r_V (vI (r3.length : Int)) rfl <| Aa <| AL [(some 20, true)] (conG prog [(20, fun _ _ v_ L_ U_ => ∀ u0_, Jh N r3 r' = some u0_ → (pO (List.flatten [S6]) (oS 5 encYs u0_ fun s_0 => (oE s_0 []))) v_ L_ U_)]) <| r_R [vP bb 0, vP bb 0, vP bb 0, vP bb 1] rfl <| rl bv 0 <| r_V (Value.int .i32 r') rfl ?_
 obtain ⟨r10, hr11, hM⟩ := Ab hM
 refine Lz (Ls := [(Ar bb (vP bb 0) bv), S6]) (FL := [S6]) [1] _ (some 20) 291 _ rfl rfl rfl rfl rfl (cF Ss) (fun o w hn_ z_ => VR N r3 r' _ hr11 _ bv S6 H7) (AF hr11) (fun h_ => nomatch h_) ?_
 rintro s12 _ ⟨_, S13, _, H14, ⟨rfl, rfl⟩, rfl⟩
 refine Cw (Ls := [(Ar bb (vP bb 0) bv), S13]) (Ls' := [(Ar bb (vP bb 0) bv), S13]) [0, 1] rfl rfl <| r_R [vP bb 0, vP bb 1] rfl <| r_s (List.flatten [(Ar bb (vP bb 0) s12), S13]) 0 _ _ _ _ _ (#[vP bb 0, s12]) rfl rfl rfl (Du rfl (Sl.shp H14)) (.ofS rfl rfl (Ao (Shp.one (Sl.shp H14)) Bi)) rfl rfl <| Aa <| Ad <| r_R [vP bb 0, vP bb 0, vP bb 1] rfl <| rl s12 0 <| r_W (vI (r10.length : Int)) rfl (Aj rfl rfl rfl (Sl.shp H14)) <| r_V (vI (r3.length : Int)) rfl ?_
 obtain ⟨ck16, hM⟩ := Ae hM
 refine r_X (vI ((r10.length : Int) - (r3.length : Int))) rfl (AR rfl ck16.1 ck16.2) rfl <| r_R [vI ((r10.length : Int) - (r3.length : Int)), Value.nilIface] rfl <| Aa <| Cd [(4, vI ((r10.length : Int) - (r3.length : Int))), (5, Value.nilIface)] rfl (fun T => ?_)
 cases hM
 refine AW (fun hn => DW (v0 := vT #[vI ((r10.length : Int) - (r3.length : Int)), Value.nilIface]) (O := [S13, (Ar bb (vP bb 0) s12)]) (Iw rfl rfl) (Sub.pick [(Ar bb (vP bb 0) s12), S13] [1, 0] rfl) ⟨s12, S13, _, H14, ⟨rfl, rfl⟩, rfl⟩)
def DH (_ : Nat) (b : List UInt8) : Option (List UInt8) := some b
theorem Lq (N : Nat) (b r : List UInt8) (hM : DH N b = some r) (ro : Ro) (bb : Nat) (bv : Value) (Sb : List Bl) (hb : Sl 5 encYs bv b Sb) : Does prog 289 #[vP bb 0] ro (List.flatten [(Ar bb (vP bb 0) bv), Sb]) (pO (List.flatten [(Ar bb (vP bb 0) bv), Sb]) (oI 5 encYs bv r (oE (vT #[]) [(Ar bb (vP bb 0) bv)]))) := by
 unfold DH at hM
 refine Cg follows func289 rfl 20 rfl _ fz1 (fun _ _ h_ _ => h_) (fun base0_ => ?_)
 refine Ad <| r_R [vP bb 0, vP bb 0, vP bb 0] rfl <| rl (vP bb 0) 0 <| r_V (vB false) rfl <| Aa <| Af false rfl (fun h_ => nomatch h_) (fun _ => ?_)
 refine Ad <| r_R [vP bb 0, vP bb 0, vP bb 0] rfl <| rl (vP bb 0) 0 <| r_V (vP bb 0) rfl <| r_W (vB false) rfl (bI rfl rfl rfl rfl rfl) <| Aa <| Af false rfl (fun h_ => nomatch h_) (fun _ => ?_)
 refine Ah ?_
 cases hM
 refine PH (v0 := vT #[]) (O := [Sb, (Ar bb (vP bb 0) bv)]) rfl (Sub.pick [(Ar bb (vP bb 0) bv), Sb] [1, 0] rfl) ⟨Sb, _, hb, ⟨rfl, rfl⟩, rfl⟩
def Fk (N : Nat) (b : List UInt8) (r' : Int) : Option (Int × (List UInt8)) := (DH N b).bind fun r3 => ck ((r3).length = (b).length) ((Jh N r3 r').bind fun r10 => ck ((-9223372036854775808 ≤ ((r10.length : Int) - (r3.length : Int)) ∧ ((r10.length : Int) - (r3.length : Int)) ≤ 9223372036854775807)) (some (((r10.length : Int) - (r3.length : Int)), r10)))
theorem Lv (N : Nat) (b : List UInt8) (r' : Int) (r) (hM : Fk N b r' = some r) (ro : Ro) (bb : Nat) (bv : Value) (Sb : List Bl) (hb : Sl 5 encYs bv b Sb) : Does prog 275 #[vP bb 0, Value.int .i32 r'] ro (List.flatten [(Ar bb (vP bb 0) bv), Sb]) (pO (List.flatten [(Ar bb (vP bb 0) bv), Sb]) (oS 5 encYs r.2 fun s_0 => (oE (vT #[vI r.1, Value.nilIface]) [(Ar bb (vP bb 0) s_0)]))) := by
 unfold Fk at hM
 refine Cg follows func275 rfl 30 rfl _ fz2 (fun _ _ h_ _ => h_) (fun base0_ => ?_)
 refine Ad <| r_R [vI 0, Value.nilIface] rfl <| Aa <| AL [(some 8, true)] (conG prog [(8, fun _ _ v_ L_ U_ => ∀ u0_, DH N b = some u0_ → (pO (List.flatten [(Ar bb (vP bb 0) bv), Sb]) (oI 5 encYs bv u0_ (oE (vT #[]) [(Ar bb (vP bb 0) bv)]))) v_ L_ U_)]) <| r_V (vP bb 0) rfl ?_
 obtain ⟨r3, hr4, hM⟩ := Ab hM
 obtain ⟨ck5, hM⟩ := Ae hM
 refine Lz (Ls := [(Ar bb (vP bb 0) bv), Sb]) (FL := [(Ar bb (vP bb 0) bv), Sb]) [0, 1] _ (some 8) 289 _ rfl rfl rfl rfl rfl (cF Oa) (fun o w hn_ z_ => Lq N b _ hr4 _ bb bv Sb hb) (AF hr4) (fun h_ => nomatch h_) ?_
 rintro _ _ ⟨S6, _, H7, ⟨rfl, rfl⟩, rfl⟩
 refine Cw (Ls := [S6, (Ar bb (vP bb 0) bv)]) (Ls' := [(Ar bb (vP bb 0) bv), S6]) [1, 0] rfl rfl <| Aa <| Ad <| r_R [vP bb 0, vP bb 0, vP bb 1] rfl <| rl bv 0 <| r_W (vI (r3.length : Int)) rfl (Aj rfl rfl rfl (Sl.shp H7)) <| r_V (vI (r3.length : Int)) rfl <| Aa <| AL [(some 20, true)] (conG prog [(20, fun _ _ v_ L_ U_ => ∀ u0_, Jh N r3 r' = some u0_ → (pO (List.flatten [S6]) (oS 5 encYs u0_ fun s_0 => (oE s_0 []))) v_ L_ U_)]) <| r_R [vP bb 0, vP bb 0, vP bb 0, vP bb 1] rfl <| rl bv 0 <| r_V (Value.int .i32 r') rfl ?_
 obtain ⟨r10, hr11, hM⟩ := Ab hM
 refine Lz (Ls := [(Ar bb (vP bb 0) bv), S6]) (FL := [S6]) [1] _ (some 20) 291 _ rfl rfl rfl rfl rfl (cF Ss) (fun o w hn_ z_ => VR N r3 r' _ hr11 _ bv S6 H7) (AF hr11) (fun h_ => nomatch h_) ?_
 rintro s12 _ ⟨_, S13, _, H14, ⟨rfl, rfl⟩, rfl⟩
 refine Cw (Ls := [(Ar bb (vP bb 0) bv), S13]) (Ls' := [(Ar bb (vP bb 0) bv), S13]) [0, 1] rfl rfl <| r_R [vP bb 0, vP bb 1] rfl <| r_s (List.flatten [(Ar bb (vP bb 0) s12), S13]) 0 _ _ _ _ _ (#[vP bb 0, s12]) rfl rfl rfl (Du rfl (Sl.shp H14)) (.ofS rfl rfl (Ao (Shp.one (Sl.shp H14)) Bi)) rfl rfl <| Aa <| Ad <| r_R [vP bb 0, vP bb 0, vP bb 1] rfl <| rl s12 0 <| r_W (vI (r10.length : Int)) rfl (Aj rfl rfl rfl (Sl.shp H14)) <| r_V (vI (r3.length : Int)) rfl ?_
 obtain ⟨ck16, hM⟩ := Ae hM
 refine r_X (vI ((r10.length : Int) - (r3.length : Int))) rfl (AR rfl ck16.1 ck16.2) rfl <| r_R [vI ((r10.length : Int) - (r3.length : Int)), Value.nilIface] rfl <| Aa <| Cd [(4, vI ((r10.length : Int) - (r3.length : Int))), (5, Value.nilIface)] rfl (fun T => ?_)
 cases hM
 refine AW (fun hn => DW (v0 := vT #[vI ((r10.length : Int) - (r3.length : Int)), Value.nilIface]) (O := [S13, (Ar bb (vP bb 0) s12)]) (Iw rfl rfl) (Sub.pick [(Ar bb (vP bb 0) s12), S13] [1, 0] rfl) ⟨s12, S13, _, H14, ⟨rfl, rfl⟩, rfl⟩)
def Di (N : Nat) (b : List UInt8) (r' : Int) : Option (Int × (List UInt8)) := Fk N b r'
set_option maxRecDepth 100000 in
theorem KL (N : Nat) (b : List UInt8) (r' : Int) (r) (hM : Di N b r' = some r) (ro : Ro) (vb_ : Value) (Sb_ : List Bl) (Hb_ : Bd 344 5 vb_ b Sb_) : Does prog 275 #[vb_, Value.int .i32 r'] ro (List.flatten [Sb_]) (pO (List.flatten [Sb_]) (oIB 344 5 vb_ r.2 (oE (vT #[vI r.1, Value.nilIface]) []))) := by
 rw [RJ]
 obtain ⟨b_, f_, s_, S0_, rfl, H0_, rfl⟩ := Hb_
 cases f_
 ·exact fV (f := true) (Lw N b r' r hM ro b_ s_ S0_ H0_ )
 exact fV (f := true) (Lv N b r' r hM ro b_ s_ S0_ H0_ )
def JU (_ : Nat) (b : List UInt8) : Option (List UInt8) := ck ((b).length ≤ 140737488355328) (some b)
theorem OB (N : Nat) (b r : List UInt8) (hM : JU N b = some r) (ro : Ro) (bb : Nat) (bv : Value) (Sb : List Bl) (hb : Sl 5 encYs bv b Sb) : Does prog 277 #[vP bb 0] ro (List.flatten [(Ar bb (Value.pointer none) bv), Sb]) (pO (List.flatten [(Ar bb (Value.pointer none) bv), Sb]) (oE (vS r) [])) := by
 unfold JU at hM
 refine Cg follows func277 rfl 14 rfl _ fz1 (fun _ _ h_ _ => h_) (fun base0_ => ?_)
 refine Ad <| r_V (Value.string (⟨#[]⟩)) rfl <| Aa <| Ai fun K2 hK2 => Ck [(some 7, false), (some 13, true)] (conG prog [(7, fun _ _ v_ L_ U_ => (fun v_ L_ U_ => SU bv v_ ∧ L_ = [] ∧ U_ = []) v_ L_ U_), (13, fun _ _ v_ L_ U_ => (pUp (fun v_ U_ => v_ = .string ⟨(b).toArray⟩ ∧ U_ = Im Sb)) v_ L_ U_)]) [] (by decide +kernel) (fun hn => Be) <| r_R [vP bb 0, vP bb 0, vP bb 1] rfl <| rl bv 0 <| cM (Ls := [(Ar bb (Value.pointer none) bv), Sb]) 1 rfl rfl rfl rfl rfl hb rfl rfl (fun _ _ _ _ _ => Iff.rfl) (fun u3 hu4 => ?_)
 refine r_R [vP bb 0, vP bb 0, vP bb 1] rfl <| rl bv 0 <| r_W (vI (b.length : Int)) rfl (Aj rfl rfl rfl (Sl.shp hb)) ?_
 obtain ⟨ck5, hM⟩ := Ae hM
 refine Wl (Ls := [(Ar bb (Value.pointer none) bv), Sb]) 1 (xs := b) rfl rfl rfl rfl rfl rfl hb hu4 rfl (by kernel_rfl) rfl ck5 (fun _ _ _ _ _ => Iff.rfl) <| Cw (Ls := [(Ar bb (Value.pointer none) bv), Im Sb]) (Ls' := [(Ar bb (Value.pointer none) bv)]) [0] rfl rfl <| r_V (vS b) rfl <| Aa <| hK2 _ _ ?_
 cases hM
 refine AW (fun hn => DW (v0 := vS b) (O := []) (Cy rfl) (Sub.nil _) ⟨rfl, rfl⟩)
def GP (_ : Nat) (b : List UInt8) : Option (List UInt8) := ck ((b).length ≤ 140737488355328) (some b)
theorem OA (N : Nat) (b r : List UInt8) (hM : GP N b = some r) (ro : Ro) (bb : Nat) (bv : Value) (Sb : List Bl) (hb : Sl 5 encYs bv b Sb) : Does prog 277 #[vP bb 0] ro (List.flatten [(Ar bb (vP bb 0) bv), Sb]) (pO (List.flatten [(Ar bb (vP bb 0) bv), Sb]) (oE (vS r) [])) := by
 unfold GP at hM
 refine Cg follows func277 rfl 14 rfl _ fz1 (fun _ _ h_ _ => h_) (fun base0_ => ?_)
 refine Ad <| r_V (Value.string (⟨#[]⟩)) rfl <| Aa <| Ai fun K2 hK2 => Ck [(some 7, false), (some 13, true)] (conG prog [(7, fun _ _ v_ L_ U_ => (fun v_ L_ U_ => SU bv v_ ∧ L_ = [] ∧ U_ = []) v_ L_ U_), (13, fun _ _ v_ L_ U_ => (pUp (fun v_ U_ => v_ = .string ⟨(b).toArray⟩ ∧ U_ = Im Sb)) v_ L_ U_)]) [] (by decide +kernel) (fun hn => Be) <| r_R [vP bb 0, vP bb 0, vP bb 1] rfl <| rl bv 0 <| cM (Ls := [(Ar bb (vP bb 0) bv), Sb]) 1 rfl rfl rfl rfl rfl hb rfl rfl (fun _ _ _ _ _ => Iff.rfl) (fun u3 hu4 => ?_)
 refine r_R [vP bb 0, vP bb 0, vP bb 1] rfl <| rl bv 0 <| r_W (vI (b.length : Int)) rfl (Aj rfl rfl rfl (Sl.shp hb)) ?_
 obtain ⟨ck5, hM⟩ := Ae hM
 refine Wl (Ls := [(Ar bb (vP bb 0) bv), Sb]) 1 (xs := b) rfl rfl rfl rfl rfl rfl hb hu4 rfl (by kernel_rfl) rfl ck5 (fun _ _ _ _ _ => Iff.rfl) <| Cw (Ls := [(Ar bb (vP bb 0) bv), Im Sb]) (Ls' := [(Ar bb (vP bb 0) bv)]) [0] rfl rfl <| r_V (vS b) rfl <| Aa <| hK2 _ _ ?_
 cases hM
 refine AW (fun hn => DW (v0 := vS b) (O := []) (Cy rfl) (Sub.nil _) ⟨rfl, rfl⟩)
def Gn (N : Nat) (b : List UInt8) : Option (List UInt8) := GP N b
set_option maxRecDepth 100000 in
theorem MS (N : Nat) (b r : List UInt8) (hM : Gn N b = some r) (ro : Ro) (vb_ : Value) (Sb_ : List Bl) (Hb_ : Bd 344 5 vb_ b Sb_) : Does prog 277 #[vb_] ro (List.flatten [Sb_]) (pO (List.flatten [Sb_]) (oE (vS r) [])) := by
 rw [RJ]
 obtain ⟨b_, f_, s_, S0_, rfl, H0_, rfl⟩ := Hb_
 cases f_
 ·exact OB N b r hM ro b_ s_ S0_ H0_ 
 exact OA N b r hM ro b_ s_ S0_ H0_ 
def ER (N : Nat) (s : List UInt8) : Nat → List UInt8 → Nat → Option (List UInt8)
  | 0, _, _ => none
  | n15 + 1, Valuep1_, m2_ => if m2_ < (s).length then ck (m2_ < (s).length) ((Gg N ((runeAt s m2_ : Nat) : Int)).bind fun r21 => (Di N Valuep1_ r21).bind fun r23 => (ER N s n15) r23.2 (DI s m2_)) else (Gn N Valuep1_).bind fun r28 => some r28
def GI (N : Nat) (s : List UInt8) : Option (List UInt8) := (Gf N (s.length : Int)).bind fun r5 => ER N s N r5 0
theorem Na (N : Nat) (s r : List UInt8) (hM : GI N s = some r) : Gives prog 234 #[vS s] (vS r) := by
 unfold GI at hM
 refine AC follows func234 rfl 18 rfl _ fz1 (fun base0_ => ?_)
 refine Ad <| r_V (Value.string (⟨#[]⟩)) rfl <| Aa <| Ad <| r_a (344, #[Value.pointer none, nS]) rfl rfl rfl (fun b3 => ?_) (.inr rfl)
 refine Aa <| AL [(some 8, true)] (conG prog [(8, fun _ _ v_ L_ U_ => ∀ u0_, Gf N (s.length : Int) = some u0_ → (pO (List.flatten [(Ar b3 (Value.pointer none) nS)]) (oS 5 encYs u0_ fun s_0 => (oE (vT #[]) [(Ar b3 (vP b3 0) s_0)]))) v_ L_ U_)]) <| r_V (vS s) rfl <| r_W (vI (s.length : Int)) rfl (Il rfl rfl rfl) ?_
 obtain ⟨r5, hr6, hM⟩ := Ab hM
 refine Lz (Ls := [(Ar b3 (Value.pointer none) nS)]) (FL := [(Ar b3 (Value.pointer none) nS)]) [0] _ (some 8) 274 _ rfl rfl rfl rfl rfl (cF Yo) (fun o w hn_ z_ => Rb N (s.length : Int) _ hr6 _ b3) (AF hr6) (fun h_ => nomatch h_) ?_
 rintro _ _ ⟨s7, S8, _, H9, ⟨rfl, rfl⟩, rfl⟩
 refine Cw (Ls := [S8, (Ar b3 (vP b3 0) s7)]) (Ls' := [(Ar b3 (vP b3 0) s7), S8]) [1, 0] rfl rfl <| Cw (Ls := [(Ar b3 (vP b3 0) s7), S8]) (Ls' := [(Ar b3 (vP b3 0) s7), S8]) [0, 1] rfl rfl <| fB (Ls := [(Ar b3 (vP b3 0) s7), S8]) (Ls' := [(List.flatten [(Ar b3 (vP b3 0) s7), S8])]) (by simp only [List.flatten_cons, List.flatten_nil, List.append_nil, List.append_assoc]) <| Um (Ls := [(List.flatten [(Ar b3 (vP b3 0) s7), S8])]) (p := fun S_ => Bd 344 5 (vP b3 0) r5 S_) 0 rfl ⟨b3, true, _, _, rfl, H9, rfl⟩ (fun S10 H11 => ?_)
 refine Aa <| Ai fun K12 hK12 => AL [(some 10, false)] (conG prog [(10, fun _ _ v_ L_ U_ => (pIt s) v_ L_ U_)]) <| r_V (vS s) rfl <| Ub s rfl rfl rfl rfl rfl (fun _ _ _ _ _ => Iff.rfl) (fun b14 => ?_)
 refine br (Ls := [S10]) <| Cw (Ls := [S10, [(b14, (itT s 0), #[])]]) (Ls' := [[(b14, (itT s 0), #[])], S10]) [1, 0] rfl rfl <| Aa <| Ap <| BF _ (Sub.pick [[(b14, (itT s 0), #[])], S10] [0, 1] rfl) <| AS (fun tt ll nn => ∃ (n15 : Nat) (Valuep1_ : List UInt8) (m2_ : Nat), (ER N s n15 Valuep1_ m2_ = some r) ∧ ∃ (SValuep1_ : List Bl), Bd 344 5 (vP b3 0) Valuep1_ SValuep1_ ∧ Is [(3, vP b3 0), (10, vP b14 0)] (List.flatten [[(b14, (itT s m2_), #[])], SValuep1_]) tt ll ∧ nn = n15 + 1) (N + 1) ?_ ?_
 ·exact ⟨N, r5, 0, hM, S10, H11, Ak rfl rfl, rfl⟩
 clear hM; rintro t l _ ⟨n15, Valuep1_, m2_, hM, SValuep1_, hValuep1_, ⟨⟨T, rfl⟩, rfl⟩, rfl⟩
 rcases n15 with _ | n15
 ·exact absurd hM (by simp [ER])
 rw [ER] at hM
 refine AL [(some 11, true)] (conG prog [(11, fun _ _ v_ L_ U_ => (pNx b14 s m2_) v_ L_ U_)]) <| Wm (lN := (List.flatten [[(b14, (itT s (DI s m2_)), #[])], SValuep1_])) 0 b14 s m2_ rfl rfl rfl rfl rfl rfl (fun _ _ _ _ _ => Iff.rfl) rfl <| r_W (vB (decide (m2_ < (s).length))) rfl (AD (RN s m2_)) <| Aa <| Ai fun K17 hK17 => Af _ rfl (fun hc18 => ?_) (fun hc18 => ?_)
 ·replace hM := iD hc18 hM
  refine Ah <| hK17 _ _ ?_
  refine Ap <| Ad ?_
  obtain ⟨ck20, hM⟩ := Ae hM
  refine r_W (Value.int .i32 ((runeAt s m2_ : Nat) : Int)) rfl (AD (RM ck20)) <| r_V (Value.int .i32 ((runeAt s m2_ : Nat) : Int)) rfl <| Aa <| BB [(some 16, true)] (conG prog [(16, fun _ _ v_ L_ U_ => ∀ u0_, Gg N ((runeAt s m2_ : Nat) : Int) = some u0_ → ∀ u1_, Di N Valuep1_ u0_ = some u1_ → (pO (List.flatten [SValuep1_]) (oIB 344 5 (vP b3 0) u1_.2 (oE (vT #[vI u1_.1, Value.nilIface]) []))) v_ L_ U_)]) <| r_V (Value.int .i32 ((runeAt s m2_ : Nat) : Int)) rfl ?_
  obtain ⟨r21, hr22, hM⟩ := Ab hM
  refine rc (Value.int .i32 r21) (cF Ym) (Ri N ((runeAt s m2_ : Nat) : Int) _ hr22) ?_
  obtain ⟨r23, hr24, hM⟩ := Ab hM
  refine Lz (Ls := [[(b14, (itT s (DI s m2_)), #[])], SValuep1_]) (FL := [SValuep1_]) [1] _ (some 16) 275 _ rfl rfl rfl rfl rfl (cF Yn) (fun o w hn_ z_ => KL N Valuep1_ r21 _ hr24 _ (vP b3 0) SValuep1_ hValuep1_) (fun _ _ v_ L_ U_ => ⟨fun h_ => h_ _ hr22 _ hr24, fun h_ => by intro _ e_; cases Option.some.inj (e_.symm.trans hr22); intro _ e_; cases Option.some.inj (e_.symm.trans hr24); exact h_⟩) (fun h_ => nomatch h_) ?_
  rintro _ _ ⟨S25, _, H26, ⟨rfl, rfl⟩, rfl⟩
  refine Cw (Ls := [[(b14, (itT s (DI s m2_)), #[])], S25]) (Ls' := [[(b14, (itT s (DI s m2_)), #[])], S25]) [0, 1] rfl rfl <| Aa <| fg _ (Sub.pick [[(b14, (itT s (DI s m2_)), #[])], S25] [0, 1] rfl) ?_
  exact ⟨n15 + 1, by omega, n15, r23.2, DI s m2_, hM, S25, H26, Ak rfl rfl, rfl⟩
 replace hM := iF hc18 hM
 refine AM <| hK12 _ _ ?_
 refine AL [(some 17, true)] (conG prog [(17, fun _ _ v_ L_ U_ => ∀ u0_, Gn N Valuep1_ = some u0_ → (pO (List.flatten [SValuep1_]) (oE (vS u0_) [])) v_ L_ U_)]) ?_
 obtain ⟨r28, hr29, hM⟩ := Ab hM
 refine Lz (Ls := [[(b14, (itT s (DI s m2_)), #[])], SValuep1_]) (FL := [SValuep1_]) [1] _ (some 17) 277 _ rfl rfl rfl rfl rfl (cF Yl) (fun o w hn_ z_ => MS N Valuep1_ _ hr29 _ (vP b3 0) SValuep1_ hValuep1_) (AF hr29) (fun h_ => nomatch h_) ?_
 rintro _ _ ⟨rfl, rfl⟩
 refine Cw (Ls := [[(b14, (itT s (DI s m2_)), #[])]]) (Ls' := [[(b14, (itT s (DI s m2_)), #[])]]) [0] rfl rfl <| r_V (vS r28) rfl <| Aa ?_
 cases hM
 exact aR eE1
def Dl (N : Nat) (other : List UInt8) (c1_ : List UInt8) : Option Bool := (GI N other).bind fun r3 => some (r3 == c1_)
theorem KQ (N : Nat) (other c1_ : List UInt8) (r) (hM : Dl N other c1_ = some r) (ro : Ro) (bc1_ : Nat) (hbc1_ : Blk ro bc1_ [vS c1_]) : Does prog 236 #[vS other, vP bc1_ 0] ro [] (pV (vB r)) := by
 unfold Dl at hM
 refine Aq follows func236 rfl 8 rfl _ fz2 (fun base0_ => ?_)
 refine Ad <| r_V (vB false) rfl <| Aa <| Ai fun K2 hK2 => Ge [] (by decide +kernel) (fun hn => Be) <| r_V (vS other) rfl ?_
 obtain ⟨r3, hr4, hM⟩ := Ab hM
 refine rc (vS r3) (cF Sz) (Na N other _ hr4) <| CR (vS c1_) (vs := [vS c1_]) (o := 0) rfl rfl (AK hbc1_) rfl <| r_W (vB (r3 == c1_)) rfl (eF rfl rfl) <| r_V (vB (r3 == c1_)) rfl <| Aa <| hK2 _ _ ?_
 cases hM
 exact aR eV1
def QW (N : Nat) (s : List (List UInt8)) (f0_ : List UInt8) : Nat → Int → Option Int
  | 0, _ => none
  | n4 + 1, x1_ => if x1_ < (s.length : Int) then ck (0 ≤ x1_ ∧ x1_ < (s.length : Int)) ((Dl N (s[x1_.toNat]!) f0_).bind fun r12 => if r12 = true then some x1_ else ck (-9223372036854775808 ≤ (x1_ + 1) ∧ (x1_ + 1) ≤ 9223372036854775807) ((QW N s f0_ n4) (x1_ + 1))) else some (-1)
def sfm (N : Nat) (s : List (List UInt8)) (f0_ : List UInt8) : Option Int := QW N s f0_ N 0
theorem sfg (N : Nat) (s : List (List UInt8)) (f0_ : List UInt8) (r) (hM : sfm N s f0_ = some r) (ro : Ro) (sv : Value) (hs : Rd encS ro sv s) (bf0_ : Nat) (hbf0_ : Blk ro bf0_ [vS f0_]) : Does prog 235 #[sv, vF 236 #[] #[vP bf0_ 0]] ro [] (pV (vI r)) := by
 unfold sfm at hM
 refine Aq follows func235 rfl 19 rfl _ fz2 (fun base0_ => ?_)
 refine Ad <| r_V (vI 0) rfl <| Aa <| Ai fun K2 hK2 => Ad <| r_V sv rfl <| r_W (vI (s.length : Int)) rfl (Aj rfl rfl rfl (Rd.shp hs)) <| r_V (vI 0) rfl <| Aa <| Ap <| AS (fun tt ll nn => ∃ (n4 : Nat) (x1_ : Int), (QW N s f0_ n4 x1_ = some r) ∧ Is [(0, sv), (1, vF 236 #[] #[vP bf0_ 0]), (7, vI (s.length : Int)), (8, vI x1_)] [] tt ll ∧ nn = n4 + 1) (N + 1) ?_ ?_
 ·exact ⟨N, 0, hM, Ak rfl rfl, rfl⟩
 clear hM; rintro t l _ ⟨n4, x1_, hM, ⟨⟨T, rfl⟩, rfl⟩, rfl⟩
 rcases n4 with _ | n4
 ·exact absurd hM (by simp [QW])
 rw [QW] at hM
 refine Ad <| r_V (vB (decide (x1_ < (s.length : Int)))) rfl <| Aa <| Ai fun K6 hK6 => Af _ rfl (fun hc7 => ?_) (fun hc7 => ?_)
 ·replace hM := iD hc7 hM
  refine Ah <| hK6 _ _ ?_
  refine Ai fun K8 hK8 => Ap <| Ad <| r_R [vI x1_, vI x1_] rfl <| Aa <| AL [(some 16, false)] (conG prog [(16, cV (Dl N (s[x1_.toNat]!) f0_) fun u0_ => vB u0_)]) <| r_R [vF 236 #[] #[vP bf0_ 0], sv, vI x1_] rfl ?_
  obtain ⟨ck11, hM⟩ := Ae hM
  refine r_W (elA sv (x1_.toNat * 1)) rfl (AD (An rfl rfl rfl (Rd.shp hs) ck11)) <| Bw (vS (s[x1_.toNat]!)) (En := encS) (s[x1_.toNat]!) (x1_.toNat) 0 rfl rfl (Av hs) (AA ck11) rfl ?_
  obtain ⟨r12, hr13, hM⟩ := Ab hM
  refine rg (vB r12) (AX (caps := [vP bf0_ 0]) rfl YK rfl) (fun o w z_ => KQ N (s[x1_.toNat]!) f0_ _ hr13 z_.view bf0_ (AK hbf0_ o w z_)) (AF hr13) <| Aa <| Af _ rfl (fun hc14 => ?_) (fun hc14 => ?_)
  ·replace hM := ifp hc14 hM
   refine Ad <| r_R [vI x1_, vI x1_] rfl <| Aa ?_
   cases hM
   exact aR eV1
  replace hM := iB hc14 hM
  refine Ah <| hK8 _ _ ?_
  refine Ax ?_
  obtain ⟨ck16, hM⟩ := Ae hM
  refine r_X (vI (x1_ + 1)) rfl (AR rfl ck16.1 ck16.2) rfl <| r_V (vI (x1_ + 1)) rfl <| Aa <| fg _ (Sub.of suN) ?_
  exact ⟨n4 + 1, by omega, n4, (x1_ + 1), hM, Ak rfl rfl, rfl⟩
 replace hM := iF hc7 hM
 refine AM <| hK2 _ _ ?_
 refine Ad <| r_V (vI (-1)) rfl <| Aa ?_
 cases hM
 exact aR eV1
def Dk (N : Nat) (l' : List (List UInt8)) (s : List UInt8) : Option Int := (GI N s).bind fun r3 => (sfm N l' r3).bind fun r7 => some r7
theorem KP (N : Nat) (l' : List (List UInt8)) (s : List UInt8) (r) (hM : Dk N l' s = some r) (ro : Ro) (l'v : Value) (hl' : Rd encS ro l'v l') : Does prog 168 #[l'v, vS s] ro [] (pV (vI r)) := by
 unfold Dk at hM
 refine Aq follows func168 rfl 11 rfl _ fz2 (fun base0_ => ?_)
 refine Ad <| r_V (vI 0) rfl <| Aa <| Ad <| r_V (vS s) rfl ?_
 obtain ⟨r3, hr4, hM⟩ := Ab hM
 refine rc (vS r3) (cF Sz) (Na N s _ hr4) <| r_a (9, #[Value.string (⟨#[]⟩)]) rfl rfl rfl (fun b5 => ?_) (.inr rfl)
 refine r_s (eq b5 r3) 0 _ _ _ _ _ (#[vS r3]) rfl rfl rfl rfl (.of rfl rfl) rfl rfl <| Aa <| AL [(some 10, false)] (conG prog [(10, cV (sfm N l' r3) fun u0_ => vI u0_)]) <| r_V l'v rfl <| r_W (vF 236 #[] #[vP b5 0]) rfl (DV rfl) ?_
 obtain ⟨r7, hr8, hM⟩ := Ab hM
 refine rg (vI r7) (cF YL) (fun o w z_ => sfg N l' r3 _ hr8 z_.view l'v ((Av hl') o w z_) b5 (Bq 0 rfl rfl o w z_)) (AF hr8) <| r_V (vI r7) rfl <| Aa ?_
 cases hM
 exact aR eV1
def Ea (N : Nat) (names : List (List UInt8)) (i : Int) : Option Int := ck (0 ≤ i ∧ i < (names.length : Int)) ((HD N (names[i.toNat]!)).bind fun r5 => if r5 = true then ck (0 ≤ i ∧ i ≤ (names.length : Int)) (ck (0 ≤ i ∧ i < (names.length : Int)) ((Dk N (((names).take (i.toNat)).drop 0) (names[i.toNat]!)).bind fun r12 => if r12 ≥ 0 then some 6 else some 0)) else some 4)
theorem LY (N : Nat) (names : List (List UInt8)) (i r : Int) (hM : Ea N names i = some r) (ro : Ro) (namesv : Value) (hnames : Rd encS ro namesv names) : Does prog 170 #[namesv, vI i] ro [] (pV (vI r)) := by
 unfold Ea at hM
 refine Aq follows func170 rfl 22 rfl _ fz2 (fun base0_ => ?_)
 refine Ad <| r_V (vI 0) rfl <| Aa <| Ai fun K2 hK2 => Ap <| Ad <| r_R [namesv, vI i] rfl ?_
 obtain ⟨ck4, hM⟩ := Ae hM
 refine r_W (elA namesv (i.toNat * 1)) rfl (AD (An rfl rfl rfl (Rd.shp hnames) ck4)) <| Bw (vS (names[i.toNat]!)) (En := encS) (names[i.toNat]!) (i.toNat) 0 rfl rfl (Av hnames) (AA ck4) rfl ?_
 obtain ⟨r5, hr6, hM⟩ := Ab hM
 refine rc (vB r5) (cF SK) (Pm N (names[i.toNat]!) _ hr6) <| r_R [vB (!(r5)), vB (!(r5))] rfl <| Aa <| Af _ rfl (fun hc7 => ?_) (fun hc7 => ?_)
 ·replace hM := ifn (Bool.eq_false_iff.1 (CZ hc7)) hM
  refine Ad <| r_V (vI 4) rfl <| Aa ?_
  cases hM
  exact aR eV1
 replace hM := ifp (Da hc7) hM
 refine Ai fun K9 hK9 => Ck [(some 20, false)] (conG prog [(20, cV (Dk N (((names).take (i.toNat)).drop 0) (names[i.toNat]!)) fun u0_ => vI u0_)]) [] (by decide +kernel) (fun hn => Be) <| r_R [namesv, vI i] rfl ?_
 obtain ⟨ck10, hM⟩ := Ae hM
 refine r_W (EJ namesv 0 (i.toNat) 1) rfl (AD (GK rfl rfl rfl rfl (Rd.shp hnames) ck10)) <| r_R [namesv, vI i] rfl ?_
 obtain ⟨ck11, hM⟩ := Ae hM
 refine r_W (elA namesv (i.toNat * 1)) rfl (AD (An rfl rfl rfl (Rd.shp hnames) ck11)) <| Bw (vS (names[i.toNat]!)) (En := encS) (names[i.toNat]!) (i.toNat) 0 rfl rfl (Av hnames) (AA ck11) rfl ?_
 obtain ⟨r12, hr13, hM⟩ := Ab hM
 refine rg (vI r12) (cF SI) (fun o w z_ => KP N (((names).take (i.toNat)).drop 0) (names[i.toNat]!) _ hr13 z_.view (EJ namesv 0 (i.toNat) 1) ((Ly (Av hnames) (Nat.zero_le _) (HC ck10.2)) o w z_)) (AF hr13) <| r_R [vB (decide (r12 ≥ 0)), vB (decide (r12 ≥ 0))] rfl <| Aa <| hK9 _ _ ?_
 refine Af _ rfl (fun hc14 => ?_) (fun hc14 => ?_)
 ·replace hM := iD hc14 hM
  refine Ad <| r_V (vI 6) rfl <| Aa ?_
  cases hM
  exact aR eV1
 replace hM := iF hc14 hM
 refine Ah <| hK2 _ _ ?_
 refine Ad <| r_V (vI 0) rfl <| Aa ?_
 cases hM
 exact aR eV1
def BV (_ : Nat) (n : Int) (least : Int) (most : Int) : Option Bool := if n ≥ least then some (decide (n ≤ most)) else some false
theorem Dv (N : Nat) (n least most : Int) (r) (hM : BV N n least most = some r) : Gives prog 159 #[vI n, vI least, vI most] (vB r) := by
 unfold BV at hM
 refine AC follows func159 rfl 15 rfl _ fz3 (fun base0_ => ?_)
 refine Ad <| r_V (vB false) rfl <| Aa <| Ai fun K2 hK2 => Ax <| r_R [vI n, vI least, vB (decide (n ≥ least)), vB (decide (n ≥ least))] rfl ?_
 rcases hg3 : (decide (n ≥ least)) with _ | _
 ·replace hM := iF hg3 hM
  refine r_R [none, none, none, vB false, vB false] rfl <| Aa <| hK2 _ _ ?_
  cases hM
  exact aR eE1
 replace hM := iD hg3 hM
 refine r_R [vI n, vI most, vB (decide (n ≤ most)), vB (decide (n ≤ most)), vB (decide (n ≤ most))] rfl <| Aa <| hK2 _ _ ?_
 cases hM
 exact aR eE1
def Cn (N : Nat) (l' : List (List UInt8 × Int)) (r3 : List (List UInt8)) : Nat → Int → Option Int
  | 0, _ => none
  | n10 + 1, x1_ => if x1_ < (l'.length : Int) then ck (0 ≤ x1_ ∧ x1_ < (l'.length : Int)) ((Ea N r3 x1_).bind fun r20 => if (r20 : Int) ≠ 0 then some r20 else (BV N ((l'[x1_.toNat]!).2) 1 128).bind fun r26 => if r26 = true then ck (-9223372036854775808 ≤ (x1_ + 1) ∧ (x1_ + 1) ≤ 9223372036854775807) ((Cn N l' r3 n10) (x1_ + 1)) else some 9) else some 0
def Ey (N : Nat) (l' : List (List UInt8 × Int)) : Option Int := (DG N l').bind fun r3 => Cn N l' r3 N 0
theorem Ov (N : Nat) (l' : List (List UInt8 × Int)) (r) (hM : Ey N l' = some r) (ro : Ro) (l'v : Value) (hl' : Rd enc_50 ro l'v l') : Does prog 165 #[l'v] ro [] (pV (vI r)) := by
 unfold Ey at hM
 refine Aq follows func165 rfl 27 rfl _ fz1 (fun base0_ => ?_)
 refine Ad <| r_V (vI 0) rfl <| Aa <| AL [(some 8, false)] (conG prog [(8, fun _ _ v_ L_ U_ => ∀ u0_, DG N l' = some u0_ → (p1 (fun s_ => s_) 9 encS u0_) v_ L_ U_)]) <| r_V l'v rfl ?_
 obtain ⟨r3, hr4, hM⟩ := Ab hM
 refine Iy (Ls := []) (fun s5 => s5) 9 encS r3 233 _ rfl rfl rfl (cF YM) (fun o w z_ => MR N l' _ hr4 z_.view l'v ((Av hl') o w z_)) (AF hr4) (fun s5 S6 H7 => ?_)
 refine r_V s5 rfl <| Aa <| Ai fun K8 hK8 => Ad <| r_V l'v rfl <| r_W (vI (l'.length : Int)) rfl (Aj rfl rfl rfl (Rd.shp hl')) <| r_V (vI 0) rfl <| Aa <| Ap <| BF _ (Sub.pick [S6] [0] rfl) <| AS (fun tt ll nn => ∃ (n10 : Nat) (x1_ : Int), (Cn N l' r3 n10 x1_ = some r) ∧ Is [(3, s5), (9, l'v), (10, vI (l'.length : Int)), (11, vI x1_)] (List.flatten [S6]) tt ll ∧ nn = n10 + 1) (N + 1) ?_ ?_
 ·exact ⟨N, 0, hM, Ak rfl rfl, rfl⟩
 clear hM; rintro t l _ ⟨n10, x1_, hM, ⟨⟨T, rfl⟩, rfl⟩, rfl⟩
 rcases n10 with _ | n10
 ·exact absurd hM (by simp [Cn])
 rw [Cn] at hM
 refine Ad <| r_V (vB (decide (x1_ < (l'.length : Int)))) rfl <| Aa <| Ai fun K12 hK12 => Af _ rfl (fun hc13 => ?_) (fun hc13 => ?_)
 ·replace hM := iD hc13 hM
  refine Ah <| hK12 _ _ ?_
  refine Ai fun K14 hK14 => Ap <| Ad <| r_V (vI x1_) rfl ?_
  obtain ⟨ck16, hM⟩ := Ae hM
  refine r_W (elA l'v (x1_.toNat * 2)) rfl (AD (An rfl rfl rfl (Rd.shp hl') ck16)) <| Bw (vA #[vS ((l'[x1_.toNat]!).1), vI ((l'[x1_.toNat]!).2)]) (En := enc_50) (l'[x1_.toNat]!) (x1_.toNat) 0 rfl rfl (Av hl') (AA ck16) rfl <| r_a (50, #[Value.string (⟨#[]⟩), vI 0]) rfl rfl rfl (fun b17 => ?_) (.inr rfl)
  refine r_V (vI x1_) rfl <| r_s (List.flatten [(MH b17 ((l'[x1_.toNat]!).1) ((l'[x1_.toNat]!).2)), S6]) 0 _ _ _ _ _ (#[vS ((l'[x1_.toNat]!).1), vI ((l'[x1_.toNat]!).2)]) rfl rfl rfl rfl (.of rfl rfl) rfl rfl <| Aa <| Ai fun K18 hK18 => AL [(some 18, false)] (conG prog [(18, cV (Ea N r3 x1_) fun u0_ => vI u0_)]) <| r_R [s5, vI x1_] rfl ?_
  obtain ⟨r20, hr21, hM⟩ := Ab hM
  refine rg (vI r20) (cF SH) (fun o w z_ => LY N r3 x1_ _ hr21 z_.view s5 ((AN H7 (Aw (Ls := [(MH b17 ((l'[x1_.toNat]!).1) ((l'[x1_.toNat]!).2)), S6]) (k := 1) rfl rfl)) o w z_)) (AF hr21) <| r_V (vI r20) rfl <| Aa <| Ad <| r_R [vI r20, vB (r20 != 0)] rfl <| Aa <| Af _ rfl (fun hc23 => ?_) (fun hc23 => ?_)
  ·replace hM := iN hc23 hM
   refine Ad <| r_R [vI r20, vI r20] rfl <| Aa ?_
   cases hM
   exact aR eV1
  replace hM := iM hc23 hM
  refine Ah <| hK18 _ _ ?_
  refine Ad <| r_V (vP b17 1) rfl <| rl (vI ((l'[x1_.toNat]!).2)) 0 ?_
  obtain ⟨r26, hr27, hM⟩ := Ab hM
  refine rc (vB r26) (cF FO) (Dv N ((l'[x1_.toNat]!).2) 1 128 _ hr27) <| r_V (vB (!(r26))) rfl <| Aa <| Af _ rfl (fun hc28 => ?_) (fun hc28 => ?_)
  ·replace hM := ifn (Bool.eq_false_iff.1 (CZ hc28)) hM
   refine Ad <| r_V (vI 9) rfl <| Aa ?_
   cases hM
   exact aR eV1
  replace hM := ifp (Da hc28) hM
  refine Ah <| hK14 _ _ ?_
  refine Ax ?_
  obtain ⟨ck30, hM⟩ := Ae hM
  refine r_X (vI (x1_ + 1)) rfl (AR rfl ck30.1 ck30.2) rfl <| r_V (vI (x1_ + 1)) rfl <| Aa <| fg _ (Sub.pick [(MH b17 ((l'[x1_.toNat]!).1) ((l'[x1_.toNat]!).2)), S6] [1] rfl) ?_
  exact ⟨n10 + 1, by omega, n10, (x1_ + 1), hM, Ak rfl rfl, rfl⟩
 replace hM := iF hc13 hM
 refine AM <| hK8 _ _ ?_
 refine Ad <| r_V (vI 0) rfl <| Aa ?_
 cases hM
 exact aR eV1
def EN (l' : List (List UInt8 × Int)) : Nat → Int → Int → Option Int
  | 0, _, _ => none
  | n5 + 1, n1_, x2_ => if x2_ < (l'.length : Int) then ck (0 ≤ x2_ ∧ x2_ < (l'.length : Int)) (ck ((-9223372036854775808 ≤ (n1_ + (l'[x2_.toNat]!).2) ∧ (n1_ + (l'[x2_.toNat]!).2) ≤ 9223372036854775807)) (ck (-9223372036854775808 ≤ (x2_ + 1) ∧ (x2_ + 1) ≤ 9223372036854775807) ((EN l' n5) (n1_ + (l'[x2_.toNat]!).2) (x2_ + 1)))) else some n1_
def GD (N : Nat) (l' : List (List UInt8 × Int)) : Option Int := EN l' N 0 0
theorem Pk (N : Nat) (l' : List (List UInt8 × Int)) (r) (hM : GD N l' = some r) (ro : Ro) (l'v : Value) (hl' : Rd enc_50 ro l'v l') : Does prog 166 #[l'v] ro [] (pV (vI r)) := by
 unfold GD at hM
 refine Aq follows func166 rfl 18 rfl _ fz1 (fun base0_ => ?_)
 refine Ad <| r_V (vI 0) rfl <| Aa <| Ad <| r_V (vI 0) rfl <| Aa <| Ai fun K3 hK3 => Ad <| r_V l'v rfl <| r_W (vI (l'.length : Int)) rfl (Aj rfl rfl rfl (Rd.shp hl')) <| r_V (vI 0) rfl <| Aa <| Ap <| AS (fun tt ll nn => ∃ (n5 : Nat) (n1_ : Int) (x2_ : Int), (EN l' n5 n1_ x2_ = some r) ∧ Is [(3, vI n1_), (6, l'v), (7, vI (l'.length : Int)), (8, vI x2_)] [] tt ll ∧ nn = n5 + 1) (N + 1) ?_ ?_
 ·exact ⟨N, 0, 0, hM, Ak rfl rfl, rfl⟩
 clear hM; rintro t l _ ⟨n5, n1_, x2_, hM, ⟨⟨T, rfl⟩, rfl⟩, rfl⟩
 rcases n5 with _ | n5
 ·exact absurd hM (by simp [EN])
 rw [EN] at hM
 refine Ad <| r_V (vB (decide (x2_ < (l'.length : Int)))) rfl <| Aa <| Ai fun K7 hK7 => Af _ rfl (fun hc8 => ?_) (fun hc8 => ?_)
 ·replace hM := iD hc8 hM
  refine Ah <| hK7 _ _ ?_
  refine Ai fun K9 hK9 => Ap <| Ad ?_
  obtain ⟨ck11, hM⟩ := Ae hM
  refine r_W (elA l'v (x2_.toNat * 2)) rfl (AD (An rfl rfl rfl (Rd.shp hl') ck11)) <| Bw (vA #[vS ((l'[x2_.toNat]!).1), vI ((l'[x2_.toNat]!).2)]) (En := enc_50) (l'[x2_.toNat]!) (x2_.toNat) 0 rfl rfl (Av hl') (AA ck11) rfl <| r_a (50, #[Value.string (⟨#[]⟩), vI 0]) rfl rfl rfl (fun b12 => ?_) (.inr rfl)
  refine r_s (MH b12 ((l'[x2_.toNat]!).1) ((l'[x2_.toNat]!).2)) 0 _ _ _ _ _ (#[vS ((l'[x2_.toNat]!).1), vI ((l'[x2_.toNat]!).2)]) rfl rfl rfl rfl (.of rfl rfl) rfl rfl <| Aa <| Ax <| r_R [vI n1_, vP b12 1] rfl <| rl (vI ((l'[x2_.toNat]!).2)) 0 ?_
  obtain ⟨ck13, hM⟩ := Ae hM
  refine r_X (vI (n1_ + (l'[x2_.toNat]!).2)) rfl (AR rfl ck13.1 ck13.2) rfl <| r_V (vI (n1_ + (l'[x2_.toNat]!).2)) rfl <| Aa <| hK9 _ _ ?_
  refine Ax ?_
  obtain ⟨ck14, hM⟩ := Ae hM
  refine r_X (vI (x2_ + 1)) rfl (AR rfl ck14.1 ck14.2) rfl <| r_V (vI (x2_ + 1)) rfl <| Aa <| fg _ (Sub.of (suC _ suN)) ?_
  exact ⟨n5 + 1, by omega, n5, (n1_ + (l'[x2_.toNat]!).2), (x2_ + 1), hM, Ak rfl rfl, rfl⟩
 replace hM := iF hc8 hM
 refine AM <| hK3 _ _ ?_
 refine Ad <| r_R [vI n1_, vI n1_] rfl <| Aa ?_
 cases hM
 exact aR eV1
def DF (N : Nat) (_ : List UInt8) (h_1 : List (List UInt8 × Int)) (h_2 : Int) (h_3 : Int) (h_4 : Int) (h_5 : Int) : Option Bool := if h_2 = 0 then if h_3 = 0 then if h_4 = 0 then some (h_5 == 0) else some false else some false else (BV N h_2 1 64).bind fun r10 => if r10 = true then ck ((-9223372036854775808 ≤ ((h_1.length : Int) - 1) ∧ ((h_1.length : Int) - 1) ≤ 9223372036854775807)) ((BV N h_3 0 ((h_1.length : Int) - 1)).bind fun r14 => if r14 = true then ck (0 ≤ h_3 ∧ h_3 < (h_1.length : Int)) (if ((h_1[h_3.toNat]!).2 : Int) ≤ 16 then (BV N h_4 1 64).bind fun r19 => if r19 = true then (BV N h_5 0 4096).bind fun r22 => some r22 else some false else some false) else some false) else some false
theorem MQ (N : Nat) (h_0 : List UInt8) (h_1 : List (List UInt8 × Int)) (h_2 : Int) (h_3 : Int) (h_4 : Int) (h_5 : Int) (r) (hM : DF N h_0 h_1 h_2 h_3 h_4 h_5 = some r) (ro : Ro) (h_1v : Value) (hh_1 : Rd enc_50 ro h_1v h_1) : Does prog 167 #[vA #[vS h_0, h_1v, vI h_2, vI h_3, vI h_4, vI h_5]] ro [] (pV (vB r)) := by
 unfold DF at hM
 refine Aq follows func167 rfl 51 rfl _ fz1 (fun base0_ => ?_)
 refine Ad <| r_a (48, #[vS h_0, h_1v, vI h_2, vI h_3, vI h_4, vI h_5]) rfl rfl rfl (fun b2 => ?_) (.inr rfl)
 refine r_V (vB false) rfl <| Aa <| Ai fun K3 hK3 => Ad <| r_V (vP b2 2) rfl <| rl (vI h_2) 0 <| r_V (vB (h_2 == 0)) rfl <| Aa <| Af _ rfl (fun hc5 => ?_) (fun hc5 => ?_)
 ·replace hM := iE hc5 hM
  refine Ai fun K6 hK6 => Ax <| r_V (vP b2 3) rfl <| rl (vI h_3) 0 <| r_R [vB (h_3 == 0), vB (h_3 == 0)] rfl ?_
  rcases hg7 : (h_3 == 0) with _ | _
  ·replace hM := iG hg7 hM
   refine r_R [none, none, none, vB false, vB false, none, none, none, vB false, vB false] rfl <| Aa <| hK6 _ _ ?_
   cases hM
   exact aR eV1
  replace hM := iE hg7 hM
  refine r_R [vP b2 4] rfl <| r_y rfl <| rl (vI h_4) 0 <| r_R [vB (h_4 == 0), vB (h_4 == 0), vB (h_4 == 0)] rfl ?_
  rcases hg8 : (h_4 == 0) with _ | _
  ·replace hM := iG hg8 hM
   refine r_R [none, none, none, vB false, vB false] rfl <| Aa <| hK6 _ _ ?_
   cases hM
   exact aR eV1
  replace hM := iE hg8 hM
  refine r_R [vP b2 5] rfl <| r_y rfl <| rl (vI h_5) 0 <| r_R [vB (h_5 == 0), vB (h_5 == 0), vB (h_5 == 0)] rfl <| Aa <| hK6 _ _ ?_
  cases hM
  exact aR eV1
 replace hM := iG hc5 hM
 refine Ah <| hK3 _ _ ?_
 refine Ai fun K9 hK9 => Ax <| r_V (vP b2 2) rfl <| rl (vI h_2) 0 ?_
 obtain ⟨r10, hr11, hM⟩ := Ab hM
 refine rc (vB r10) (cF FO) (Dv N h_2 1 64 _ hr11) <| r_V (vB r10) rfl ?_
 rcases hg12 : r10 with _ | _
 ·replace hM := iB hg12 hM
  refine r_R [none, none, none, none, none, none, none, vB false, vB false, none, none, none, none, none, none, none, none, vB false, vB false, none, none, none, vB false, vB false] rfl <| r_R [none, none, none, vB false, vB false] rfl <| Aa <| hK9 _ _ ?_
  refine Cd [(2, vB false)] rfl (fun T => ?_)
  cases hM
  exact aR eV1
 replace hM := ifp hg12 hM
 refine r_R [vP b2 3] rfl <| r_y rfl <| rl (vI h_3) 0 <| r_R [vP b2 1] rfl <| r_y rfl <| rl h_1v 0 <| r_y rfl <| r_W (vI (h_1.length : Int)) rfl (Aj rfl rfl rfl (Rd.shp hh_1)) <| r_y rfl ?_
 obtain ⟨ck13, hM⟩ := Ae hM
 refine r_X (vI ((h_1.length : Int) - 1)) rfl (AR rfl ck13.1 ck13.2) rfl <| r_y rfl ?_
 obtain ⟨r14, hr15, hM⟩ := Ab hM
 refine rc (vB r14) (cF FO) (Dv N h_3 0 ((h_1.length : Int) - 1) _ hr15) <| r_R [vB r14, vB r14] rfl ?_
 rcases hg16 : r14 with _ | _
 ·replace hM := iB hg16 hM
  refine r_R [none, none, none, none, none, none, none, none, vB false, vB false, none, none, none, vB false, vB false, none, none, none, vB false, vB false] rfl <| Aa <| hK9 _ _ ?_
  refine Cd [(2, vB false)] rfl (fun T => ?_)
  cases hM
  exact aR eV1
 replace hM := ifp hg16 hM
 refine r_R [vP b2 1] rfl <| r_y rfl <| rl h_1v 0 <| r_R [vP b2 3] rfl <| r_y rfl <| rl (vI h_3) 0 <| r_y rfl ?_
 obtain ⟨ck17, hM⟩ := Ae hM
 refine r_W (elA h_1v (h_3.toNat * 2)) rfl (AD (An rfl rfl rfl (Rd.shp hh_1) ck17)) <| r_y rfl <| r_W (elA h_1v (h_3.toNat * 2 + 1)) rfl (AD (AH rfl rfl rfl rfl rfl rfl (Rd.shp hh_1) (AY ck17))) <| r_y rfl <| Bw (vI ((h_1[h_3.toNat]!).2)) (En := enc_50) (h_1[h_3.toNat]!) (h_3.toNat) 1 rfl rfl (Av hh_1) (AA ck17) rfl <| r_R [vB (decide (((h_1[h_3.toNat]!).2 : Int) ≤ 16)), vB (decide (((h_1[h_3.toNat]!).2 : Int) ≤ 16)), vB (decide (((h_1[h_3.toNat]!).2 : Int) ≤ 16))] rfl ?_
 rcases hg18 : (decide (((h_1[h_3.toNat]!).2 : Int) ≤ 16)) with _ | _
 ·replace hM := iF hg18 hM
  refine r_R [none, none, none, vB false, vB false, none, none, none, vB false, vB false] rfl <| Aa <| hK9 _ _ ?_
  refine Cd [(2, vB false)] rfl (fun T => ?_)
  cases hM
  exact aR eV1
 replace hM := iD hg18 hM
 refine r_R [vP b2 4] rfl <| r_y rfl <| rl (vI h_4) 0 <| r_y rfl ?_
 obtain ⟨r19, hr20, hM⟩ := Ab hM
 refine rc (vB r19) (cF FO) (Dv N h_4 1 64 _ hr20) <| r_R [vB r19, vB r19] rfl ?_
 rcases hg21 : r19 with _ | _
 ·replace hM := iB hg21 hM
  refine r_R [none, none, none, vB false, vB false] rfl <| Aa <| hK9 _ _ ?_
  refine Cd [(2, vB false)] rfl (fun T => ?_)
  cases hM
  exact aR eV1
 replace hM := ifp hg21 hM
 refine r_R [vP b2 5] rfl <| r_y rfl <| rl (vI h_5) 0 <| r_y rfl ?_
 obtain ⟨r22, hr23, hM⟩ := Ab hM
 refine rc (vB r22) (cF FO) (Dv N h_5 0 4096 _ hr23) <| r_R [vB r22, vB r22] rfl <| Aa <| hK9 _ _ ?_
 refine Cd [(2, vB r22)] rfl (fun T => ?_)
 cases hM
 exact aR eV1
def CP (N : Nat) (h_0 : List UInt8) (h_1 : List (List UInt8 × Int)) (h_2 : Int) (h_3 : Int) (h_4 : Int) (h_5 : Int) : Option Int := (HD N h_0).bind fun r5 => if r5 = true then if (h_1.length : Int) > 16 then some 2 else if (h_1.length : Int) = 0 then some 5 else (Ey N h_1).bind fun r17 => if (r17 : Int) ≠ 0 then some r17 else (GD N h_1).bind fun r24 => ck (0 ≤ r24 ∧ r24 ≤ 9223372036854775807) (if (r24 % 8 : Int) ≠ 0 then some 9 else (DF N h_0 h_1 h_2 h_3 h_4 h_5).bind fun r30 => if r30 = true then some 0 else some 7) else some 4
theorem Tg (N : Nat) (h_0 : List UInt8) (h_1 : List (List UInt8 × Int)) (h_2 : Int) (h_3 : Int) (h_4 : Int) (h_5 : Int) (r) (hM : CP N h_0 h_1 h_2 h_3 h_4 h_5 = some r) (ro : Ro) (h_1v : Value) (hh_1 : Rd enc_50 ro h_1v h_1) : Does prog 115 #[vA #[vS h_0, h_1v, vI h_2, vI h_3, vI h_4, vI h_5]] ro [] (pV (vI r)) := by
 unfold CP at hM
 refine Aq follows func115 rfl 35 rfl _ fz1 (fun base0_ => ?_)
 refine Ad <| r_a (48, #[vS h_0, h_1v, vI h_2, vI h_3, vI h_4, vI h_5]) rfl rfl rfl (fun b2 => ?_) (.inr rfl)
 refine r_V (vI 0) rfl <| Aa <| Ai fun K3 hK3 => Ap <| Ad <| r_V (vP b2 0) rfl <| rl (vS h_0) 0 ?_
 obtain ⟨r5, hr6, hM⟩ := Ab hM
 refine rc (vB r5) (cF SK) (Pm N h_0 _ hr6) <| r_R [vB (!(r5)), vB (!(r5))] rfl <| Aa <| Af _ rfl (fun hc7 => ?_) (fun hc7 => ?_)
 ·replace hM := ifn (Bool.eq_false_iff.1 (CZ hc7)) hM
  refine Ad <| r_V (vI 4) rfl <| Aa ?_
  cases hM
  exact aR eV1
 replace hM := ifp (Da hc7) hM
 refine Ad <| r_V (vP b2 1) rfl <| rl h_1v 0 <| r_W (vI (h_1.length : Int)) rfl (Aj rfl rfl rfl (Rd.shp hh_1)) <| r_R [vB (decide ((h_1.length : Int) > 16)), vB (decide ((h_1.length : Int) > 16))] rfl <| Aa <| Af _ rfl (fun hc10 => ?_) (fun hc10 => ?_)
 ·replace hM := iD hc10 hM
  refine Ad <| r_V (vI 2) rfl <| Aa ?_
  cases hM
  exact aR eV1
 replace hM := iF hc10 hM
 refine Ad <| r_V (vP b2 1) rfl <| rl h_1v 0 <| r_W (vI (h_1.length : Int)) rfl (Aj rfl rfl rfl (Rd.shp hh_1)) <| r_R [vB (((h_1.length : Int) == 0)), vB (((h_1.length : Int) == 0))] rfl <| Aa <| Af _ rfl (fun hc13 => ?_) (fun hc13 => ?_)
 ·replace hM := iE hc13 hM
  refine Ad <| r_V (vI 5) rfl <| Aa ?_
  cases hM
  exact aR eV1
 replace hM := iG hc13 hM
 refine Ah <| hK3 _ _ ?_
 refine Ai fun K15 hK15 => AL [(some 21, false)] (conG prog [(21, cV (Ey N h_1) fun u0_ => vI u0_)]) <| r_V (vP b2 1) rfl <| rl h_1v 0 ?_
 obtain ⟨r17, hr18, hM⟩ := Ab hM
 refine rg (vI r17) (cF ZC) (fun o w z_ => Ov N h_1 _ hr18 z_.view h_1v ((Av hh_1) o w z_)) (AF hr18) <| r_V (vI r17) rfl <| Aa <| Ad <| r_R [vI r17, vB (r17 != 0)] rfl <| Aa <| Af _ rfl (fun hc20 => ?_) (fun hc20 => ?_)
 ·replace hM := iN hc20 hM
  refine Ad <| r_R [vI r17, vI r17] rfl <| Aa ?_
  cases hM
  exact aR eV1
 replace hM := iM hc20 hM
 refine Ah <| hK15 _ _ ?_
 refine Ai fun K22 hK22 => Ap <| AL [(some 28, false)] (conG prog [(28, cV (GD N h_1) fun u0_ => vI u0_)]) <| r_V (vP b2 1) rfl <| rl h_1v 0 ?_
 obtain ⟨r24, hr25, hM⟩ := Ab hM
 refine rg (vI r24) (cF SJ) (fun o w z_ => Pk N h_1 _ hr25 z_.view h_1v ((Av hh_1) o w z_)) (AF hr25) ?_
 obtain ⟨ck26, hM⟩ := Ae hM
 refine r_X (vI (r24 % 8)) rfl (Ua ck26.1) rfl <| r_R [vB ((r24 % 8 : Int) != 0), vB ((r24 % 8 : Int) != 0)] rfl <| Aa <| Cd [(1, vP b2 0), (25, vB ((r24 % 8 : Int) != 0))] rfl (fun T => ?_)
 refine Af _ rfl (fun hc27 => ?_) (fun hc27 => ?_)
 ·replace hM := iN hc27 hM
  refine Ad <| r_V (vI 9) rfl <| Aa ?_
  cases hM
  exact aR eV1
 replace hM := iM hc27 hM
 refine AL [(some 33, false)] (conG prog [(33, cV (DF N h_0 h_1 h_2 h_3 h_4 h_5) fun u0_ => vB u0_)]) <| rl (vA #[vS h_0, h_1v, vI h_2, vI h_3, vI h_4, vI h_5]) 0 ?_
 obtain ⟨r30, hr31, hM⟩ := Ab hM
 refine rg (vB r30) (cF ZB) (fun o w z_ => MQ N h_0 h_1 h_2 h_3 h_4 h_5 _ hr31 z_.view h_1v ((Av hh_1) o w z_)) (AF hr31) <| r_R [vB (!(r30)), vB (!(r30))] rfl <| Aa <| Af _ rfl (fun hc32 => ?_) (fun hc32 => ?_)
 ·replace hM := ifn (Bool.eq_false_iff.1 (CZ hc32)) hM
  refine Ad <| r_V (vI 7) rfl <| Aa ?_
  cases hM
  exact aR eV1
 replace hM := ifp (Da hc32) hM
 refine Ah <| hK22 _ _ ?_
 refine Ad <| r_V (vI 0) rfl <| Aa ?_
 cases hM
 exact aR eV1
def Ay (N : Nat) (names : List (List UInt8)) (i : Int) : Option Int := ck (0 ≤ i ∧ i ≤ (names.length : Int)) (ck (0 ≤ i ∧ i < (names.length : Int)) ((Dk N (((names).take (i.toNat)).drop 0) (names[i.toNat]!)).bind fun r5 => (Ag N (decide (r5 < 0)) 6).bind fun r7 => some r7))
theorem Dn (N : Nat) (names : List (List UInt8)) (i r : Int) (hM : Ay N names i = some r) (ro : Ro) (namesv : Value) (hnames : Rd encS ro namesv names) : Does prog 116 #[namesv, vI i] ro [] (pV (vI r)) := by
 unfold Ay at hM
 refine Aq follows func116 rfl 15 rfl _ fz2 (fun base0_ => ?_)
 refine Ad <| r_V (vI 0) rfl <| Aa <| Ai fun K2 hK2 => Ck [(some 12, false)] (conG prog [(12, cV (Dk N (((names).take (i.toNat)).drop 0) (names[i.toNat]!)) fun u0_ => vI u0_)]) [] (by decide +kernel) (fun hn => Be) <| r_R [namesv, vI i] rfl ?_
 obtain ⟨ck3, hM⟩ := Ae hM
 refine r_W (EJ namesv 0 (i.toNat) 1) rfl (AD (GK rfl rfl rfl rfl (Rd.shp hnames) ck3)) <| r_R [namesv, vI i] rfl ?_
 obtain ⟨ck4, hM⟩ := Ae hM
 refine r_W (elA namesv (i.toNat * 1)) rfl (AD (An rfl rfl rfl (Rd.shp hnames) ck4)) <| Bw (vS (names[i.toNat]!)) (En := encS) (names[i.toNat]!) (i.toNat) 0 rfl rfl (Av hnames) (AA ck4) rfl ?_
 obtain ⟨r5, hr6, hM⟩ := Ab hM
 refine rg (vI r5) (cF SI) (fun o w z_ => KP N (((names).take (i.toNat)).drop 0) (names[i.toNat]!) _ hr6 z_.view (EJ namesv 0 (i.toNat) 1) ((Ly (Av hnames) (Nat.zero_le _) (HC ck3.2)) o w z_)) (AF hr6) <| r_V (vB (decide (r5 < 0))) rfl ?_
 obtain ⟨r7, hr8, hM⟩ := Ab hM
 refine rc (vI r7) (cF AJ) (AB N (decide (r5 < 0)) 6 _ hr8) <| r_V (vI r7) rfl <| Aa <| hK2 _ _ ?_
 cases hM
 exact aR eV1
def Cf (N : Nat) (i : Int) (h_0 : List UInt8) (h_1 : List (List UInt8 × Int)) (h_2 : Int) (h_3 : Int) (h_4 : Int) (h_5 : Int) (c2_ : List (List UInt8)) : Option Int := (CP N h_0 h_1 h_2 h_3 h_4 h_5).bind fun r4 => (Ay N c2_ i).bind fun r6 => (As N ([r4, r6])).bind fun r11 => some r11
theorem LM (N : Nat) (i : Int) (h_0 : List UInt8) (h_1 : List (List UInt8 × Int)) (h_2 : Int) (h_3 : Int) (h_4 : Int) (h_5 : Int) (c2_ : List (List UInt8)) (r) (hM : Cf N i h_0 h_1 h_2 h_3 h_4 h_5 c2_ = some r) (ro : Ro) (h_1v : Value) (hh_1 : Rd enc_50 ro h_1v h_1) (bc2_ : Nat) (c2_v : Value) (hc2_ : Rd encS ro c2_v c2_) (hbc2_ : Blk ro bc2_ [c2_v]) : Does prog 114 #[vI i, vA #[vS h_0, h_1v, vI h_2, vI h_3, vI h_4, vI h_5], vP bc2_ 0] ro [] (pV (vI r)) := by
 unfold Cf at hM
 refine Aq follows func114 rfl 13 rfl _ fz3 (fun base0_ => ?_)
 refine Ad <| r_a (48, #[vS h_0, h_1v, vI h_2, vI h_3, vI h_4, vI h_5]) rfl rfl rfl (fun b2 => ?_) (.inr rfl)
 refine r_V (vI 0) rfl <| Aa <| Ai fun K3 hK3 => Ck [(some 7, false), (some 10, false), (some 11, false), (some 12, false)] (conG prog [(7, cV (CP N h_0 h_1 h_2 h_3 h_4 h_5) fun u0_ => vI u0_), (10, cV (Ay N c2_ i) fun u0_ => vI u0_), (12, fun _ _ v_ L_ U_ => ∀ u0_, CP N h_0 h_1 h_2 h_3 h_4 h_5 = some u0_ → ∀ u1_, Ay N c2_ i = some u1_ → ∀ u2_, As N ([u0_, u1_]) = some u2_ → (pV (vI u2_)) v_ L_ U_)]) [] (by decide +kernel) (fun hn => Be) ?_
 refine rl (vA #[vS h_0, h_1v, vI h_2, vI h_3, vI h_4, vI h_5]) 0 ?_
 obtain ⟨r4, hr5, hM⟩ := Ab hM
 refine rg (vI r4) (cF ah) (fun o w z_ => Tg N h_0 h_1 h_2 h_3 h_4 h_5 _ hr5 z_.view h_1v ((Av hh_1) o w z_)) (AF hr5) <| CR c2_v (vs := [c2_v]) (o := 0) rfl rfl (AK hbc2_) rfl <| r_V (vI i) rfl ?_
 obtain ⟨r6, hr7, hM⟩ := Ab hM
 refine rg (vI r6) (cF Hu) (fun o w z_ => Dn N c2_ i _ hr7 z_.view c2_v ((Av hc2_) o w z_)) (AF hr7) ?_
 refine Dj (cs0 := [(7, cV (CP N h_0 h_1 h_2 h_3 h_4 h_5) fun u0_ => vI u0_), (10, cV (Ay N c2_ i) fun u0_ => vI u0_), (12, fun _ _ v_ L_ U_ => ∀ u0_, CP N h_0 h_1 h_2 h_3 h_4 h_5 = some u0_ → ∀ u1_, Ay N c2_ i = some u1_ → ∀ u2_, As N ([u0_, u1_]) = some u2_ → (pV (vI u2_)) v_ L_ U_)]) (Ls := [(JK b2 h_0 h_1v h_2 h_3 h_4 h_5)]) 38 BK [r4, r6] [vI r4, vI r6] [vI 0, vI 0] rfl rfl rfl rfl rfl rfl rfl (by kernel_rfl) (by kernel_rfl) rfl rfl rfl (fun s8 S9 H10 => ?_)
 obtain ⟨r11, hr12, hM⟩ := Ab hM
 refine rg (vI r11) (cF Br) (fun o w z_ => Bb N ([r4, r6]) _ hr12 z_.view s8 ((AN H10 (Aw (Ls := [(JK b2 h_0 h_1v h_2 h_3 h_4 h_5), S9]) (k := 1) rfl rfl)) o w z_)) (fun _ _ v_ L_ U_ => ⟨fun h_ => h_ _ hr5 _ hr7 _ hr12, fun h_ => by intro _ e_; cases Option.some.inj (e_.symm.trans hr5); intro _ e_; cases Option.some.inj (e_.symm.trans hr7); intro _ e_; cases Option.some.inj (e_.symm.trans hr12); exact h_⟩) ?_
 refine r_V (vI r11) rfl <| Aa <| hK3 _ _ ?_
 cases hM
 exact aR eV1
def De (N : Nat) (l' : List ((List UInt8) × (List (List UInt8 × Int)) × Int × Int × Int × Int)) (ask0_ : List (List UInt8)) : Nat → Int → Option (Int × Int)
  | 0, _ => none
  | n8 + 1, x1_ => if x1_ < (l'.length : Int) then ck (0 ≤ x1_ ∧ x1_ < (l'.length : Int)) ((Cf N x1_ (l'[x1_.toNat]!.1) (l'[x1_.toNat]!.2.1) (l'[x1_.toNat]!.2.2.1) (l'[x1_.toNat]!.2.2.2.1) (l'[x1_.toNat]!.2.2.2.2.1) (l'[x1_.toNat]!.2.2.2.2.2) ask0_).bind fun r20 => if (r20 : Int) ≠ 0 then some (x1_, r20) else ck (-9223372036854775808 ≤ (x1_ + 1) ∧ (x1_ + 1) ≤ 9223372036854775807) ((De N l' ask0_ n8) (x1_ + 1))) else some (0, 0)
def EY (N : Nat) (l' : List ((List UInt8) × (List (List UInt8 × Int)) × Int × Int × Int × Int)) (most : Int) (ask0_ : List (List UInt8)) : Option (Int × Int) := if (l'.length : Int) > most then some (0, 2) else De N l' ask0_ N 0
theorem NC (N : Nat) (l' : List ((List UInt8) × (List (List UInt8 × Int)) × Int × Int × Int × Int)) (most : Int) (ask0_ : List (List UInt8)) (r) (hM : EY N l' most ask0_ = some r) (ro : Ro) (l'v : Value) (hl' : RdN encr_48 ro l'v l') (bask0_ : Nat) (ask0_v : Value) (hask0_ : Rd encS ro ask0_v ask0_) (hbask0_ : Blk ro bask0_ [ask0_v]) : Does prog 113 #[l'v, vI most, vF 114 #[] #[vP bask0_ 0]] ro [] (pV (vT #[vI r.1, vI r.2])) := by
 unfold EY at hM
 refine Aq follows func113 rfl 31 rfl _ fz3 (fun base0_ => ?_)
 refine Ad <| r_R [vI 0, vI 0] rfl <| Aa <| Ai fun K2 hK2 => Ad <| r_V l'v rfl <| r_W (vI (l'.length : Int)) rfl (Aj rfl rfl rfl (RdN.shp hl')) <| r_R [vI most, vB (decide ((l'.length : Int) > most))] rfl <| Aa <| Af _ rfl (fun hc4 => ?_) (fun hc4 => ?_)
 ·replace hM := iD hc4 hM
  refine Ad <| r_R [vI 0, vI 2] rfl <| Aa ?_
  cases hM
  exact aR eV2
 replace hM := iF hc4 hM
 refine Ah <| hK2 _ _ ?_
 refine Ai fun K6 hK6 => Ad <| r_V l'v rfl <| r_W (vI (l'.length : Int)) rfl (Aj rfl rfl rfl (RdN.shp hl')) <| r_V (vI 0) rfl <| Aa <| Ap <| AS (fun tt ll nn => ∃ (n8 : Nat) (x1_ : Int), (De N l' ask0_ n8 x1_ = some r) ∧ Is [(2, vF 114 #[] #[vP bask0_ 0]), (15, l'v), (16, vI (l'.length : Int)), (17, vI x1_)] [] tt ll ∧ nn = n8 + 1) (N + 1) ?_ ?_
 ·exact ⟨N, 0, hM, Ak rfl rfl, rfl⟩
 clear hM; rintro t l _ ⟨n8, x1_, hM, ⟨⟨T, rfl⟩, rfl⟩, rfl⟩
 rcases n8 with _ | n8
 ·exact absurd hM (by simp [De])
 rw [De] at hM
 refine Ad <| r_V (vB (decide (x1_ < (l'.length : Int)))) rfl <| Aa <| Ai fun K10 hK10 => Af _ rfl (fun hc11 => ?_) (fun hc11 => ?_)
 ·replace hM := iD hc11 hM
  refine Ah <| hK10 _ _ ?_
  refine Ai fun K12 hK12 => Ap <| Ad <| r_V (vI x1_) rfl ?_
  obtain ⟨ck14, hM⟩ := Ae hM
  obtain ⟨_, ⟨s15, hs16, rfl⟩, hat17⟩ := RdN.at (E := encr_48) hl' (AA ck14)
  refine r_W (elA l'v (x1_.toNat * 6)) rfl (AD (An rfl rfl rfl (RdN.shp hl') ck14)) <| Eo (vA #[vS (l'[x1_.toNat]!.1), s15, vI (l'[x1_.toNat]!.2.2.1), vI (l'[x1_.toNat]!.2.2.2.1), vI (l'[x1_.toNat]!.2.2.2.2.1), vI (l'[x1_.toNat]!.2.2.2.2.2)]) (vs := [vS (l'[x1_.toNat]!.1), s15, vI (l'[x1_.toNat]!.2.2.1), vI (l'[x1_.toNat]!.2.2.2.1), vI (l'[x1_.toNat]!.2.2.2.2.1), vI (l'[x1_.toNat]!.2.2.2.2.2)]) (x1_.toNat * 6) 0 rfl rfl (fun o w z_ => At.mono z_.ro_cell hat17) rfl <| r_a (48, #[Value.string (⟨#[]⟩), nS, vI 0, vI 0, vI 0, vI 0]) rfl rfl rfl (fun b18 => ?_) (.inr rfl)
  refine r_V (vI x1_) rfl <| r_s (JK b18 (l'[x1_.toNat]!.1) s15 (l'[x1_.toNat]!.2.2.1) (l'[x1_.toNat]!.2.2.2.1) (l'[x1_.toNat]!.2.2.2.2.1) (l'[x1_.toNat]!.2.2.2.2.2)) 0 _ _ _ _ _ (#[vS (l'[x1_.toNat]!.1), s15, vI (l'[x1_.toNat]!.2.2.1), vI (l'[x1_.toNat]!.2.2.2.1), vI (l'[x1_.toNat]!.2.2.2.2.1), vI (l'[x1_.toNat]!.2.2.2.2.2)]) rfl rfl rfl rfl (.ofS rfl rfl (Ao rfl (Ao (Shp.one (Rd.shp hs16)) (Ao rfl (Ao rfl (Ao rfl (Ao rfl Bi))))))) rfl rfl <| Aa ?_
  refine AL [(some 25, false)] (conG prog [(25, cV (Cf N x1_ (l'[x1_.toNat]!.1) (l'[x1_.toNat]!.2.1) (l'[x1_.toNat]!.2.2.1) (l'[x1_.toNat]!.2.2.2.1) (l'[x1_.toNat]!.2.2.2.2.1) (l'[x1_.toNat]!.2.2.2.2.2) ask0_) fun u0_ => vI u0_)]) <| r_R [vF 114 #[] #[vP bask0_ 0], vI x1_] rfl <| rl (vA #[vS (l'[x1_.toNat]!.1), s15, vI (l'[x1_.toNat]!.2.2.1), vI (l'[x1_.toNat]!.2.2.2.1), vI (l'[x1_.toNat]!.2.2.2.2.1), vI (l'[x1_.toNat]!.2.2.2.2.2)]) 0 ?_
  obtain ⟨r20, hr21, hM⟩ := Ab hM
  refine rg (vI r20) (AX (caps := [vP bask0_ 0]) rfl ai rfl) (fun o w z_ => LM N x1_ (l'[x1_.toNat]!.1) (l'[x1_.toNat]!.2.1) (l'[x1_.toNat]!.2.2.1) (l'[x1_.toNat]!.2.2.2.1) (l'[x1_.toNat]!.2.2.2.2.1) (l'[x1_.toNat]!.2.2.2.2.2) ask0_ _ hr21 z_.view s15 ((Av hs16) o w z_) bask0_ ask0_v ((Av hask0_) o w z_) (AK hbask0_ o w z_)) (AF hr21) <| r_V (vI r20) rfl <| Aa <| Ad <| r_R [vI r20, vB (r20 != 0)] rfl <| Aa <| Af _ rfl (fun hc23 => ?_) (fun hc23 => ?_)
  ·replace hM := iN hc23 hM
   refine Ad <| r_R [vI x1_, vI r20, vI x1_, vI r20] rfl <| Aa ?_
   cases hM
   exact aR eV2
  replace hM := iM hc23 hM
  refine Ah <| hK12 _ _ ?_
  refine Ax ?_
  obtain ⟨ck25, hM⟩ := Ae hM
  refine r_X (vI (x1_ + 1)) rfl (AR rfl ck25.1 ck25.2) rfl <| r_V (vI (x1_ + 1)) rfl <| Aa <| fg _ (Sub.of (suC _ suN)) ?_
  exact ⟨n8 + 1, by omega, n8, (x1_ + 1), hM, Ak rfl rfl, rfl⟩
 replace hM := iF hc11 hM
 refine AM <| hK6 _ _ ?_
 refine Ad <| r_R [vI 0, vI 0] rfl <| Aa ?_
 cases hM
 exact aR eV2
end Go.Proofs.YtjmdbbnnpmmpiaaGreatDoor
