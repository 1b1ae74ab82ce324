import Derived.Test.YthafnifhhblkbaaGreatDoorBg
set_option linter.unusedSimpArgs false
set_option linter.unusedVariables false
namespace Go.Proofs.YthafnifhhblkbaaGreatDoor
open Go Go.RowKit Go.Eng _root_.Go.Proofs.Tryz
set_option maxRecDepth 100000
set_option maxHeartbeats 8000000
abbrev Ey (b : Nat) (x0 : List UInt8) (x1 : Value) (x2 : Value) : List Bl := [(b, 87, #[vS x0, x1, x2])]
abbrev QU (b : Nat) (x0 : Int) (x1 : BitVec 64) (x2 : BitVec 64) : List Bl := [(b, 54, #[vI x0, U x1, U x2])]
abbrev Gq (b : Nat) (x0 : Int) (x1 : Value) : List Bl := [(b, 92, #[vI x0, x1])]
abbrev DF (b : Nat) (x0 : List UInt8) (x1 : Int) (x2 : Value) (x3 : Value) (x4 : Int) (x5 : Value) (x6 : Int) : List Bl := [(b, 94, #[vS x0, vI x1, x2, x3, vI x4, x5, vI x6])]
abbrev Bg (b : Nat) (x0 : Int) (x1 : Int) (x2 : Value) (x3 : Value) (x4 : Int) (x5 : Int) : List Bl := [(b, 128, #[vI x0, vI x1, x2, x3, vI x4, vI x5])]
def Qv (_ : Nat) (s_0 : Int) (_ : Int) : Option Int := some s_0
theorem Xw (N s_0 s_1 r) (hM : Qv N s_0 s_1 = some r) : Gives prog 425 #[vA #[vI s_0, vI s_1]] (vI r) := by
 unfold Qv at hM
 refine Aq follows func425 rfl 5 rfl _ fz1 (fun base0_ => ?_)
 refine Ai <| rA rfl fun b2 => rz rfl <| AY [0] rfl ?_
 cases hM
 exact aR eE1
def Qq (_ : Nat) (s_0 : Int) (_ : Int) : Option Int := some s_0
theorem Xr (N s_0 s_1 r) (hM : Qq N s_0 s_1 = some r) : Gives prog 426 #[vA #[vI s_0, vI s_1]] (vI r) := by
 unfold Qq at hM
 refine Aq follows func426 rfl 5 rfl _ fz1 (fun base0_ => ?_)
 refine Ai <| rA rfl fun b2 => rz rfl <| AY [0] rfl ?_
 cases hM
 exact aR eE1
def SD (_ : Nat) (s_0 : Int) (_ : Int) : Option Int := some s_0
theorem YW (N s_0 s_1 r) (hM : SD N s_0 s_1 = some r) : Gives prog 427 #[vA #[vI s_0, vI s_1]] (vI r) := by
 unfold SD at hM
 refine Aq follows func427 rfl 5 rfl _ fz1 (fun base0_ => ?_)
 refine Ai <| rA rfl fun b2 => rz rfl <| AY [0] rfl ?_
 cases hM
 exact aR eE1
def Qs (_ : Nat) (_ : Int) (_ : Int) : Option Int := some 10
theorem Xt (N s_0 s_1 r) (hM : Qs N s_0 s_1 = some r) : Gives prog 428 #[vA #[vI s_0, vI s_1]] (vI r) := by
 unfold Qs at hM
 refine Aq follows func428 rfl 3 rfl _ fz1 (fun base0_ => ?_)
 refine Ai <| rA rfl fun b2 => rz rfl <| AZ rfl ?_
 cases hM
 exact aR eE1
def Pf (_ : Nat) (s_0 : Int) (_ : Int) (_ : Int) : Option Int := some s_0
theorem VT (N s_0 s_1 s_2 r) (hM : Pf N s_0 s_1 s_2 = some r) : Gives prog 429 #[vA #[vI s_0, vI s_1, vI s_2]] (vI r) := by
 unfold Pf at hM
 refine Aq follows func429 rfl 5 rfl _ fz1 (fun base0_ => ?_)
 refine Ai <| rA rfl fun b2 => rz rfl <| AY [0] rfl ?_
 cases hM
 exact aR eE1
def Qt (_ : Nat) (s_0 : Int) (_ : Int) : Option Int := some s_0
theorem Xu (N s_0 s_1 r) (hM : Qt N s_0 s_1 = some r) : Gives prog 430 #[vA #[vI s_0, vI s_1]] (vI r) := by
 unfold Qt at hM
 refine Aq follows func430 rfl 5 rfl _ fz1 (fun base0_ => ?_)
 refine Ai <| rA rfl fun b2 => rz rfl <| AY [0] rfl ?_
 cases hM
 exact aR eE1
def Qu (_ : Nat) (_ : Int) (_ : Int) : Option Int := some 33
theorem Xv (N s_0 s_1 r) (hM : Qu N s_0 s_1 = some r) : Gives prog 431 #[vA #[vI s_0, vI s_1]] (vI r) := by
 unfold Qu at hM
 refine Aq follows func431 rfl 3 rfl _ fz1 (fun base0_ => ?_)
 refine Ai <| rA rfl fun b2 => rz rfl <| AZ rfl ?_
 cases hM
 exact aR eE1
def Qp (_ : Nat) : Option Int := some 34
theorem Xq (N r) (hM : Qp N = some r) : Gives prog 432 #[vA #[]] (vI r) := by
 unfold Qp at hM
 refine Aq follows func432 rfl 3 rfl _ fz1 (fun base0_ => ?_)
 refine Ai <| rA rfl fun b2 => rz rfl <| AZ rfl ?_
 cases hM
 exact aR eE1
def SC (_ : Nat) (s : Int) : Option Int := some s
theorem YU (N s r) (hM : SC N s = some r) : Gives prog 433 #[vA #[vI s]] (vI r) := by
 unfold SC at hM
 refine Aq follows func433 rfl 5 rfl _ fz1 (fun base0_ => ?_)
 refine Ai <| rA rfl fun b2 => rz rfl <| AY [0] rfl ?_
 cases hM
 exact aR eE1
theorem mK {s : Sum214} (h : Bt s = 272) : ∃ x0 x1, s = .t272 x0 x1 := by cases s <;> first | exact ⟨_, _, rfl⟩ | simp [Bt, Sum214.on] at h
theorem mB {s : Sum214} {c : Addr → Option Value} (h : Bt s ≠ 272) : ev prog c (Instr.typeAssert (Sum214.v s) 214 272 true) = some (vT #[vA #[vI 0, U (0#64), U (0#64)], vB false]) := by cases s <;> first | rfl | exact absurd rfl h
def jP (s : Sum214) : Option Int := Sum214.on s none (fun _ _ => some 0) (fun a _ _ => some a) (fun a _ => some a) (fun a _ => some a) (fun a _ => some a) (fun _ _ => some 10) (fun a _ _ => some a) (fun a _ => some a) (fun _ _ => some 33) (some 34) (fun a => some a)
theorem opc {s : Sum214} {o : Int} (h : jP s = some o) {c : Addr → Option Value} {ρ : Operand → Value} {d : Option Tmp} {ty : TypeId} {pos : String} {af : Array Edge} {g : Option (Nat × Bool)} (hρ : ρ (.tmp 6) = Sum214.v s) :
    ∃ f args, ev prog c (execOp ρ ⟨d, .call ⟨.invoke (.tmp 6) "Op", #[], #[]⟩, ty, pos, af, g⟩) = some (.enter f args) ∧ Gives prog f args (vI o) := by
 cases s with
 | nil => cases h
 | t272 x0 x1 => exact ⟨_, _, Gd hρ (by kernel_rfl) cT rfl, Xs 0 x0 x1 _ h⟩
 | t294 x0 x1 x2 => exact ⟨_, _, Gd hρ (by kernel_rfl) cS rfl, VS 0 x0 x1 x2 _ h⟩
 | t297 x0 x1 => exact ⟨_, _, Gd hρ (by kernel_rfl) cR rfl, Xw 0 x0 x1 _ h⟩
 | t299 x0 x1 => exact ⟨_, _, Gd hρ (by kernel_rfl) cQ rfl, Xr 0 x0 x1 _ h⟩
 | t301 x0 x1 => exact ⟨_, _, Gd hρ (by kernel_rfl) cP rfl, YW 0 x0 x1 _ h⟩
 | t304 x0 x1 => exact ⟨_, _, Gd hρ (by kernel_rfl) cO rfl, Xt 0 x0 x1 _ h⟩
 | t307 x0 x1 x2 => exact ⟨_, _, Gd hρ (by kernel_rfl) cN rfl, VT 0 x0 x1 x2 _ h⟩
 | t310 x0 x1 => exact ⟨_, _, Gd hρ (by kernel_rfl) cM rfl, Xu 0 x0 x1 _ h⟩
 | t313 x0 x1 => exact ⟨_, _, Gd hρ (by kernel_rfl) cL rfl, Xv 0 x0 x1 _ h⟩
 | t366 => exact ⟨_, _, Gd hρ (by kernel_rfl) cK rfl, Xq 0 _ h⟩
 | t368 x0 => exact ⟨_, _, Gd hρ (by kernel_rfl) cJ rfl, YU 0 x0 _ h⟩
theorem rcx {E : Env} {g : Bool} {ops : Array Oper} {K : (Nat → Value) → List Bl → Prop} {r : List Oper} {T : Nat → Value} {l : List Bl} {m : Nat} {d : Tmp} {ty : TypeId} {pos : String} {af : Array Edge} {v : Value} {c : Call} (h0 : ∃ f args, ev E.P E.ro (execOp (rd T) ⟨some d, .call c, ty, pos, af, none⟩) = some (.enter f args) ∧ Gives E.P f args v)
    (h : lx E g ops K r (upd T d v) l m) (hd : decide (d < E.n) = true := by rfl) (hpl : Dl E.ks ⟨some d, .call c, ty, pos, af, none⟩ := by rfl) : lx E g ops K (⟨some d, .call c, ty, pos, af, none⟩ :: r) T l m := by
 obtain ⟨f, args, h1, h2⟩ := h0; exact rc v h1 h2 h hd hpl
def Ke (N : Nat) (s : Sum214) (r30 : List UInt8) : Option (List UInt8) := (MS N s).bind fun r40 => (Ae N r40).bind fun r45 => ck (r30.length + r45.length ≤ 140737488355328) (some (r30 ++ r45))
def iH (N : Nat) (s : Sum214) (r30 : List UInt8) : Option (List UInt8) := Sum214.on s none (fun w x => (Dx N r30 w x).bind fun r40 => some r40) (fun _ _ _ => Ke N s r30) (fun _ _ => Ke N s r30) (fun _ _ => Ke N s r30) (fun _ _ => Ke N s r30) (fun _ _ => Ke N s r30) (fun _ _ _ => Ke N s r30) (fun _ _ => Ke N s r30) (fun _ _ => Ke N s r30) (Ke N s r30) (fun _ => Ke N s r30)
def Ca (N : Nat) (s : Sum214) : Option (List UInt8) := (jP s).bind fun r25 => (Ae N [r25]).bind fun r30 => iH N s r30
theorem Ob (N s r) (hM : Ca N s = some r) (ro : Ro) : Does prog 140 #[Sum214.v s] ro [] (p1 (fun s_ => s_) 5 encY r) := by
 unfold Ca at hM
 obtain ⟨o, ho, hM⟩ := BG hM
 obtain ⟨r30, hr30, hM⟩ := BG hM
 refine Ac follows func140 rfl 25 rfl _ fz1 (fun base0_ => ?_)
 refine AZ rfl <| Aa fun K2 hK2 => A_regC [(some 8, false), (some 9, false)] (conG prog [(9, fun _ _ v_ L_ U_ => (p1 (fun s_ => s_) 5 encY r30) v_ L_ U_)]) <| rn 1 rfl <| rcx (opc ho rfl) ?_
 refine BF (cs0 := [(9, fun _ _ v_ L_ U_ => (p1 (fun s_ => s_) 5 encY r30) v_ L_ U_)]) (Ls := []) 3 Bf [o] [vI o] [vI 0] rfl rfl rfl rfl rfl rfl rfl (by kernel_rfl) (by kernel_rfl) rfl rfl rfl (fun s27 S28 H29 => ?_)
 refine AP (Ls := [S28]) (fun s32 => s32) 5 encY r30 83 _ rfl rfl rfl (cF BI) (fun q w z_ => Ay N [o] _ hr30 z_.view s27 ((Ap H29 (Ad (Ls := [S28]) (k := 0) rfl rfl)) q w z_)) (fun _ _ _ _ _ => Iff.rfl) (fun s32 S33 H34 => rz rfl <| hK2 _ _ ?_)
 refine Aa fun K35 hK35 => Ai <| rn 1 rfl ?_
 by_cases hs : Bt s = 272
 ·obtain ⟨x0, x1, rfl⟩ := mK hs
  obtain ⟨r40, hr41, hM⟩ := BG (show (Dx N r30 x0 x1).bind (fun r40 => some r40) = some r from hM)
  refine r_W (vT #[vA #[vI x0, U (hi x1), U (lo x1)], vB true]) rfl (BT rfl rfl) <| rn 3 rfl <| rA rfl fun b37 => ry [0] rfl <| AZ rfl <| AB true rfl (fun _ => ?_) (fun h_ => nomatch h_)
  refine A_sc [(some 19, false)] (conG prog [(19, fun _ _ v_ L_ U_ => (p1 (fun s_ => s_) 5 encY r40) v_ L_ U_)]) <| rm 3 [0] rfl <| AP (Ls := [[(b37, 272, #[vI x0, U (hi x1), U (lo x1)])], S28, S33]) (fun s42 => s42) 5 encY r40 191 _ rfl rfl rfl (cF SR) (fun q w z_ => NV N r30 x0 x1 _ hr41 z_.view s32 ((Ap H34 (Ad (Ls := [[(b37, 272, #[vI x0, U (hi x1), U (lo x1)])], S28, S33]) (k := 2) rfl rfl)) q w z_)) (fun _ _ _ _ _ => Iff.rfl) (fun s42 S43 H44 => rz rfl ?_)
  cases hM
  exact Au (fun hn => AG (v0 := s42) H44 (Aw (Sub.pick [[(b37, 272, #[vI x0, U (hi x1), U (lo x1)])], S28, S33, S43] [3] rfl)) rfl (AV rfl))
 replace hM : Ke N s r30 = some r := by cases s <;> first | exact hM | exact absurd rfl hs | cases ho
 obtain ⟨r40, hr41, hM⟩ := BG hM
 obtain ⟨r45, hr46, hM⟩ := BG hM
 refine r_W (vT #[vA #[vI 0, U (0#64), U (0#64)], vB false]) rfl (BT rfl (mB hs)) <| rn 3 rfl <| rA rfl fun b37 => ry [0] rfl <| AZ rfl <| AB false rfl (fun h_ => nomatch h_) (fun _ => Af <| hK35 _ _ ?_)
 refine A_sc [(some 22, false), (some 23, false), (some 24, true)] (conG prog [(22, fun _ _ v_ L_ U_ => (p1 (fun s_ => s_) 3 Bf r40) v_ L_ U_), (23, fun _ _ v_ L_ U_ => (p1 (fun s_ => s_) 5 encY r45) v_ L_ U_)]) <| rn 2 rfl <| AP (Ls := [[(b37, 272, #[vI 0, U (0#64), U (0#64)])], S28, S33]) (fun s42 => s42) 3 Bf r40 192 _ rfl rfl rfl (cF gb) (fun q w z_ => Ru N s _ hr41 z_.view) (fun _ _ _ _ _ => Iff.rfl) (fun s42 S43 H44 => ?_)
 refine AP (Ls := [[(b37, 272, #[vI 0, U (0#64), U (0#64)])], S28, S33, S43]) (fun s47 => s47) 5 encY r45 83 _ rfl rfl rfl (cF BI) (fun q w z_ => Ay N r40 _ hr46 z_.view s42 ((Ap H44 (Ad (Ls := [[(b37, 272, #[vI 0, U (0#64), U (0#64)])], S28, S33, S43]) (k := 3) rfl rfl)) q w z_)) (fun _ _ _ _ _ => Iff.rfl) (fun s47 S48 H49 => ?_)
 refine kC hM fun ck50 hM => Dg (Ls := [[(b37, 272, #[vI 0, U (0#64), U (0#64)])], S28, S33, S43, S48]) 2 (En := encY) rfl rfl rfl rfl rfl H34 rfl (Ap H49 (Ad (Ls := [[(b37, 272, #[vI 0, U (0#64), U (0#64)])], S28, S33, S43, S48]) (k := 4) rfl rfl)) rfl rfl rfl rfl rfl (Dk ck50 rfl) (Dj ck50 rfl) rfl (fun s51 S52 H53 => rz rfl ?_)
 cases hM
 exact Au (fun hn => AG (v0 := s51) H53 (Aw (Sub.pick [[(b37, 272, #[vI 0, U (0#64), U (0#64)])], S28, S52, S43, S48] [2] rfl)) rfl (AV rfl))
def Bu (N : Nat) (l' : List Sum214) : Nat → List UInt8 → Int → Option (List UInt8)
  | 0, _, _ => none
  | n13 + 1, b1_, x2_ => if x2_ < (l'.length : Int) then ck (0 ≤ x2_ ∧ x2_ < (l'.length : Int)) ((Ca N (l'[x2_.toNat]!)).bind fun r20 => ck ((b1_).length + (r20).length ≤ 140737488355328) (ck (-9223372036854775808 ≤ (x2_ + 1) ∧ (x2_ + 1) ≤ 9223372036854775807) ((Bu N l' n13) (b1_ ++ r20) (x2_ + 1)))) else some b1_
def BJ (N : Nat) (l' : List Sum214) : Option (List UInt8) := (Ae N ([(l'.length : Int)])).bind fun r6 => Bu N l' N r6 0
theorem KC (N l' r) (hM : BJ N l' = some r) (ro l'v) (hl' : Rd Fh ro l'v l') : Does prog 139 #[l'v, vF 140 #[] #[]] ro [] (p1 (fun s_ => s_) 5 encY r) := by
 unfold BJ at hM
 refine Ac follows func139 rfl 25 rfl _ fz2 (fun base0_ => ?_)
 refine AZ rfl <| A_sc [(some 10, false), (some 11, false)] (conG prog [(11, fun _ _ v_ L_ U_ => ∀ u0_, Ae N ([(l'.length : Int)]) = some u0_ → (p1 (fun s_ => s_) 5 encY u0_) v_ L_ U_)]) <| rn 1 rfl <| rL (Rd.shp hl') rfl <| BF (Ls := []) 3 Bf [(l'.length : Int)] [vI (l'.length : Int)] [vI 0] rfl rfl rfl rfl rfl rfl rfl (by kernel_rfl) (by kernel_rfl) rfl rfl rfl (fun s3 S4 H5 => ?_)
 refine kB hM fun r6 hr7 hM => AP (Ls := [S4]) (fun s8 => s8) 5 encY r6 83 _ rfl rfl rfl (cF BI) (fun o w z_ => Ay N ([(l'.length : Int)]) _ hr7 z_.view s3 ((Ap H5 (Ad (Ls := [S4]) (k := 0) rfl rfl)) o w z_)) (Ao hr7) (fun s8 S9 H10 => ?_)
 refine rz rfl <| Aa fun K11 hK11 => Ai <| rn 1 rfl <| rL (Rd.shp hl') rfl <| rz rfl <| Aj <| Be _ (Sub.pick [S4, S9] [1] rfl) <| AU (fun tt ll nn => ∃ (n13 : Nat) (b1_ : List UInt8) (x2_ : Int), (Bu N l' n13 b1_ x2_ = some r) ∧ ∃ (vb1_ : Value) (Sb1_ : List Bl), Sl 5 encY vb1_ b1_ Sb1_ ∧ Is [(1, vF 140 #[] #[]), (5, vb1_), (12, l'v), (13, vI (l'.length : Int)), (14, vI x2_)] (List.flatten [Sb1_]) tt ll ∧ nn = n13 + 1) (N + 1) ?_ ?_
 ·exact ⟨N, r6, 0, hM, s8, S9, H10, Ak rfl rfl, rfl⟩
 clear hM; rintro t l _ ⟨n13, b1_, x2_, hM, vb1_, Sb1_, hb1_, ⟨⟨T, rfl⟩, rfl⟩, rfl⟩
 rcases n13 with _ | n13
 ·exact absurd hM (by simp [Bu])
 rw [Bu] at hM
 refine AZ rfl <| Aa fun K15 hK15 => aD hM rfl (fun hc16 hM => ?_) (fun hc16 hM => ?_)
 ·refine Af <| hK15 _ _ ?_
  refine Aa fun K17 hK17 => Aj <| Ai <| kC hM fun ck19 hM => rI (Rd.shp hl') ck19 rfl <| rE (AA hl') ck19 0 rfl <| rz rfl <| A_regC [(some 21, false), (some 22, true)] (conG prog [(21, fun _ _ v_ L_ U_ => ∀ u0_, Ca N (l'[x2_.toNat]!) = some u0_ → (p1 (fun s_ => s_) 5 encY u0_) v_ L_ U_)]) <| rn 3 rfl <| kB hM fun r20 hr21 hM => AP (Ls := [Sb1_]) (fun s22 => s22) 5 encY r20 140 _ rfl rfl rfl (AO (caps := []) rfl gq rfl) (fun o w z_ => Ob N (l'[x2_.toNat]!) _ hr21 z_.view ) (Ao hr21) (fun s22 S23 H24 => ?_)
  refine kC hM fun ck25 hM => Dg (Ls := [Sb1_, S23]) 0 (En := encY) rfl rfl rfl rfl rfl hb1_ rfl (Ap H24 (Ad (Ls := [Sb1_, S23]) (k := 1) rfl rfl)) rfl rfl rfl rfl rfl (Dk ck25 rfl) (Dj ck25 rfl) rfl (fun s26 S27 H28 => ?_)
  refine rz rfl <| hK17 _ _ ?_
  refine Ar <| kC hM fun ck29 hM => rX ck29 rfl <| rz rfl <| fg _ (Sub.pick [S27, S23] [0] rfl) ?_
  exact ⟨n13 + 1, by omega, n13, (b1_ ++ r20), (x2_ + 1), hM, s26, S27, H28, Ak rfl rfl, rfl⟩
 refine AS <| hK11 _ _ ?_
 refine AZ rfl ?_
 cases hM
 refine Au (fun hn => AG (v0 := vb1_) hb1_ (Aw (Sub.pick [Sb1_] [0] rfl)) rfl (AV rfl))
def Bm (N : Nat) (l' : List (Int × Int × Int × Int × BitVec 128)) : Option (List UInt8) := (Lh N l').bind fun r3 => (BJ N r3.1).bind fun r9 => some r9
theorem GD (N l' r) (hM : Bm N l' = some r) (ro l'v) (hl' : Rd enc_56 ro l'v l') : Does prog 41 #[l'v] ro [] (p1 (fun s_ => s_) 5 encY r) := by
 unfold Bm at hM
 refine Ac follows func41 rfl 14 rfl _ fz1 (fun base0_ => ?_)
 refine AZ rfl <| A_sc [(some 8, false)] (conG prog [(8, fun _ _ v_ L_ U_ => ∀ u0_, Lh N l' = some u0_ → (p1 (fun s_ => vT #[s_, vI u0_.2.1, vI u0_.2.2]) 214 Fh u0_.1) v_ L_ U_)]) <| rn 1 rfl <| kB hM fun r3 hr4 hM => AP (Ls := []) (fun s5 => vT #[s5, vI r3.2.1, vI r3.2.2]) 214 Fh r3.1 138 _ rfl rfl rfl (cF Yd) (fun o w z_ => ZN N l' _ hr4 z_.view l'v ((AA hl') o w z_)) (Ao hr4) (fun s5 S6 H7 => ?_)
 refine rz rfl <| A_sc [(some 13, false)] (conG prog [(13, fun _ _ v_ L_ U_ => ∀ u0_, BJ N r3.1 = some u0_ → (p1 (fun s_ => s_) 5 encY u0_) v_ L_ U_)]) <| rn 1 rfl <| kB hM fun r9 hr10 hM => AP (Ls := [S6]) (fun s11 => s11) 5 encY r9 139 _ rfl rfl rfl (cF gr) (fun o w z_ => KC N r3.1 _ hr10 z_.view s5 ((Ap H7 (Ad (Ls := [S6]) (k := 0) rfl rfl)) o w z_)) (Ao hr10) (fun s11 S12 H13 => ?_)
 refine rz rfl ?_
 cases hM
 refine Au (fun hn => AG (v0 := s11) H13 (Aw (Sub.pick [S6, S12] [1] rfl)) rfl (AV rfl))
def Gm (N : Nat) (x_0 : List UInt8) (x_1 : List Int) (x_2 : List (Int × Int × Int × Int × BitVec 128)) : Option (List UInt8) := (CE N ([]) x_1).bind fun r4 => (Bm N x_2).bind fun r9 => (Bs N x_0 ([r4, r9])).bind fun r21 => some r21
theorem PA (N x_0 x_1 x_2 r) (hM : Gm N x_0 x_1 x_2 = some r) (ro x_1v) (hx_1 : Rd Bf ro x_1v x_1) (x_2v) (hx_2 : Rd enc_56 ro x_2v x_2) : Does prog 110 #[vA #[vS x_0, x_1v, x_2v]] ro [] (p1 (fun s_ => s_) 5 encY r) := by
 unfold Gm at hM
 refine Ac follows func110 rfl 13 rfl _ fz1 (fun base0_ => ?_)
 refine Ai <| rA rfl fun b2 => rz rfl <| Aa fun K3 hK3 => BA [(some 7, false), (some 10, false), (some 11, false), (some 12, false)] (conG prog [(7, fun _ _ v_ L_ U_ => ∀ u0_, CE N ([]) x_1 = some u0_ → (p1 (fun s_ => s_) 5 encY u0_) v_ L_ U_), (10, fun _ _ v_ L_ U_ => ∀ u0_, Bm N x_2 = some u0_ → (p1 (fun s_ => s_) 5 encY u0_) v_ L_ U_), (12, fun _ _ v_ L_ U_ => ∀ u0_, CE N ([]) x_1 = some u0_ → ∀ u1_, Bm N x_2 = some u1_ → ∀ u2_, Bs N x_0 ([u0_, u1_]) = some u2_ → (p1 (fun s_ => s_) 5 encY u2_) v_ L_ U_)]) [] (by decide +kernel) (fun hn => Ba) <| rn 1 rfl ?_
 refine rm 3 [0, 0] rfl <| kB hM fun r4 hr5 hM => AP (Ls := [(Ey b2 x_0 x_1v x_2v)]) (fun s6 => s6) 5 encY r4 119 _ rfl rfl rfl (cF SS) (fun o w z_ => JW N ([]) x_1 _ hr5 z_.view nS ((fun _ _ _ => .inl ⟨rfl, rfl⟩) o w z_) x_1v (z_.r hx_1)) (Ao hr5) (fun s6 S7 H8 => ?_)
 refine rm 2 [0] rfl <| kB hM fun r9 hr10 hM => AP (Ls := [(Ey b2 x_0 x_1v x_2v), S7]) (fun s11 => s11) 5 encY r9 41 _ rfl rfl rfl (cF VW) (fun o w z_ => GD N x_2 _ hr10 z_.view x_2v (z_.r hx_2)) (Ao hr10) (fun s11 S12 H13 => ?_)
 have hR14 : ((AD 5 encY)).R r4 [s6] S7 := (by have h_ := (Bi (e := 5) (E := encY) H8); exact EncO.cast h_ (by first | rfl | simp only [List.nil_append, List.append_nil, List.append_assoc]))
 have hR15 : ((AD 5 encY)).R r9 [s11] S12 := (by have h_ := (Bi (e := 5) (E := encY) H13); exact EncO.cast h_ (by first | rfl | simp only [List.nil_append, List.append_nil, List.append_assoc]))
 refine BF (Ls := [(Ey b2 x_0 x_1v x_2v), S7, S12]) 38 (EncO.raw (AD 5 encY)) [EncO.of (AD 5 encY) hR14, EncO.of (AD 5 encY) hR15] [s6, s11] [nS, nS] rfl rfl rfl rfl rfl rfl rfl (by kernel_rfl) ((CN _ _ _ _ (Bj (AI rfl (Sl.shp H8)) (Bj (AI rfl (Sl.shp H13)) Ei))).trans (by kernel_rfl)) rfl rfl rfl (fun s16 S17 H18 => ?_)
 refine AX (Ls := [(Ey b2 x_0 x_1v x_2v), S7, S12, S17]) (Ls' := [(Ey b2 x_0 x_1v x_2v), S17, S7, S12]) [0, 3, 1, 2] rfl rfl <| Jl (Ls := [(Ey b2 x_0 x_1v x_2v), S17, S7, S12]) (Ls' := [(Ey b2 x_0 x_1v x_2v), (S17 ++ (S7 ++ S12))]) (by simp only [List.flatten_cons, List.flatten_nil, List.append_nil, List.append_assoc]) ?_
 refine Ee (Ls := [(Ey b2 x_0 x_1v x_2v), (S17 ++ (S7 ++ S12))]) (p := fun S_ => SlO 38 (AD 5 encY) s16 ([r4, r9]) S_) 1 rfl (SlO.cast (⟨_, _, _, H18, (Items.append (Items.one hR14) (Items.one hR15)), rfl⟩ : SlO 38 (AD 5 encY) s16 [r4, r9] _) (by first | rfl | simp only [List.nil_append, List.append_nil, List.append_assoc])) (fun S19 H20 => ?_)
 refine kB hM fun r21 hr22 hM => AP (Ls := [(Ey b2 x_0 x_1v x_2v), S19]) (fun s23 => s23) 5 encY r21 177 _ rfl rfl rfl (cF GQ) (fun o w z_ => DC N x_0 ([r4, r9]) _ hr22 z_.view s16 ((fun o w z_ => RdN.map (E' := DH) (SlO.view H20 (CF (Ad (Ls := [(Ey b2 x_0 x_1v x_2v), S19]) (k := 1) rfl rfl) o w z_)) rfl (fun _ _ h_ => Dz h_)) o w z_)) (fun _ _ v_ L_ U_ => ⟨fun h_ => h_ _ hr5 _ hr10 _ hr22, fun h_ => by intro _ e_; cases Option.some.inj (e_.symm.trans hr5); intro _ e_; cases Option.some.inj (e_.symm.trans hr10); intro _ e_; cases Option.some.inj (e_.symm.trans hr22); exact h_⟩) (fun s23 S24 H25 => ?_)
 refine rz rfl <| hK3 _ _ ?_
 cases hM
 refine Au (fun hn => AG (v0 := s23) H25 (Aw (Sub.pick [(Ey b2 x_0 x_1v x_2v), S19, S24] [2] rfl)) rfl (AV rfl))
def Cm (N : Nat) (l' : List ((List UInt8) × (List Int) × (List (Int × Int × Int × Int × BitVec 128)))) : Nat → List UInt8 → Int → Option (List UInt8)
  | 0, _, _ => none
  | n13 + 1, b1_, x2_ => if x2_ < (l'.length : Int) then ck (0 ≤ x2_ ∧ x2_ < (l'.length : Int)) ((Gm N (l'[x2_.toNat]!.1) (l'[x2_.toNat]!.2.1) (l'[x2_.toNat]!.2.2)).bind fun r26 => ck ((b1_).length + (r26).length ≤ 140737488355328) (ck (-9223372036854775808 ≤ (x2_ + 1) ∧ (x2_ + 1) ≤ 9223372036854775807) ((Cm N l' n13) (b1_ ++ r26) (x2_ + 1)))) else some b1_
def Dd (N : Nat) (l' : List ((List UInt8) × (List Int) × (List (Int × Int × Int × Int × BitVec 128)))) : Option (List UInt8) := (Ae N ([(l'.length : Int)])).bind fun r6 => Cm N l' N r6 0
theorem Kg (N l' r) (hM : Dd N l' = some r) (ro l'v) (hl' : RdN Hk ro l'v l') : Does prog 109 #[l'v, vF 110 #[] #[]] ro [] (p1 (fun s_ => s_) 5 encY r) := by
 unfold Dd at hM
 refine Ac follows func109 rfl 25 rfl _ fz2 (fun base0_ => ?_)
 refine AZ rfl <| A_sc [(some 10, false), (some 11, false)] (conG prog [(11, fun _ _ v_ L_ U_ => ∀ u0_, Ae N ([(l'.length : Int)]) = some u0_ → (p1 (fun s_ => s_) 5 encY u0_) v_ L_ U_)]) <| rn 1 rfl <| rL (RdN.shp hl') rfl <| BF (Ls := []) 3 Bf [(l'.length : Int)] [vI (l'.length : Int)] [vI 0] rfl rfl rfl rfl rfl rfl rfl (by kernel_rfl) (by kernel_rfl) rfl rfl rfl (fun s3 S4 H5 => ?_)
 refine kB hM fun r6 hr7 hM => AP (Ls := [S4]) (fun s8 => s8) 5 encY r6 83 _ rfl rfl rfl (cF BI) (fun o w z_ => Ay N ([(l'.length : Int)]) _ hr7 z_.view s3 ((Ap H5 (Ad (Ls := [S4]) (k := 0) rfl rfl)) o w z_)) (Ao hr7) (fun s8 S9 H10 => ?_)
 refine rz rfl <| Aa fun K11 hK11 => Ai <| rn 1 rfl <| rL (RdN.shp hl') rfl <| rz rfl <| Aj <| Be _ (Sub.pick [S4, S9] [1] rfl) <| AU (fun tt ll nn => ∃ (n13 : Nat) (b1_ : List UInt8) (x2_ : Int), (Cm N l' n13 b1_ x2_ = some r) ∧ ∃ (vb1_ : Value) (Sb1_ : List Bl), Sl 5 encY vb1_ b1_ Sb1_ ∧ Is [(1, vF 110 #[] #[]), (5, vb1_), (12, l'v), (13, vI (l'.length : Int)), (14, vI x2_)] (List.flatten [Sb1_]) tt ll ∧ nn = n13 + 1) (N + 1) ?_ ?_
 ·exact ⟨N, r6, 0, hM, s8, S9, H10, Ak rfl rfl, rfl⟩
 clear hM; rintro t l _ ⟨n13, b1_, x2_, hM, vb1_, Sb1_, hb1_, ⟨⟨T, rfl⟩, rfl⟩, rfl⟩
 rcases n13 with _ | n13
 ·exact absurd hM (by simp [Cm])
 rw [Cm] at hM
 refine AZ rfl <| Aa fun K15 hK15 => aD hM rfl (fun hc16 hM => ?_) (fun hc16 hM => ?_)
 ·refine Af <| hK15 _ _ ?_
  refine Aa fun K17 hK17 => Aj <| Ai <| kC hM fun ck19 hM => ?_
  obtain ⟨_, ⟨s20, s21, hs22, hs23, rfl⟩, hat24⟩ := RdN.at (E := Hk) hl' (CP ck19)
  refine rI (RdN.shp hl') ck19 rfl <| Mv (vA #[vS (l'[x2_.toNat]!.1), s20, s21]) (vs := [vS (l'[x2_.toNat]!.1), s20, s21]) (x2_.toNat * 3) 0 rfl rfl (fun o w z_ => At.mono z_.ro_cell hat24) rfl <| rA rfl fun b25 => r_s (List.flatten [(Ey b25 (l'[x2_.toNat]!.1) s20 s21), Sb1_]) 0 _ _ _ _ _ (#[vS (l'[x2_.toNat]!.1), s20, s21]) rfl rfl rfl rfl (.ofS rfl rfl (Ab rfl (Ab (Shp.one (Rd.shp hs22)) (Ab (Shp.one (Rd.shp hs23)) Bh)))) rfl rfl <| As <| A_regC [(some 21, false), (some 22, true)] (conG prog [(21, fun _ _ v_ L_ U_ => ∀ u0_, Gm N (l'[x2_.toNat]!.1) (l'[x2_.toNat]!.2.1) (l'[x2_.toNat]!.2.2) = some u0_ → (p1 (fun s_ => s_) 5 encY u0_) v_ L_ U_)]) <| rm 3 [0] rfl <| kB hM fun r26 hr27 hM => AP (Ls := [(Ey b25 (l'[x2_.toNat]!.1) s20 s21), Sb1_]) (fun s28 => s28) 5 encY r26 110 _ rfl rfl rfl (AO (caps := []) rfl gS rfl) (fun o w z_ => PA N (l'[x2_.toNat]!.1) (l'[x2_.toNat]!.2.1) (l'[x2_.toNat]!.2.2) _ hr27 z_.view s20 (z_.r hs22) s21 (z_.r hs23)) (Ao hr27) (fun s28 S29 H30 => ?_)
  refine kC hM fun ck31 hM => Dg (Ls := [(Ey b25 (l'[x2_.toNat]!.1) s20 s21), Sb1_, S29]) 1 (En := encY) rfl rfl rfl rfl rfl hb1_ rfl (Ap H30 (Ad (Ls := [(Ey b25 (l'[x2_.toNat]!.1) s20 s21), Sb1_, S29]) (k := 2) rfl rfl)) rfl rfl rfl rfl rfl (Dk ck31 rfl) (Dj ck31 rfl) rfl (fun s32 S33 H34 => ?_)
  refine rz rfl <| hK17 _ _ ?_
  refine Ar <| kC hM fun ck35 hM => rX ck35 rfl <| rz rfl <| fg _ (Sub.pick [(Ey b25 (l'[x2_.toNat]!.1) s20 s21), S33, S29] [1] rfl) ?_
  exact ⟨n13 + 1, by omega, n13, (b1_ ++ r26), (x2_ + 1), hM, s32, S33, H34, Ak rfl rfl, rfl⟩
 refine AS <| hK11 _ _ ?_
 refine AZ rfl ?_
 cases hM
 refine Au (fun hn => AG (v0 := vb1_) hb1_ (Aw (Sub.pick [Sb1_] [0] rfl)) rfl (AV rfl))
def FI (N : Nat) (m : AN) : Option (List UInt8) := (Dd N m.2.2.2.2.2.1).bind fun r4 => some r4
theorem MN (N m r) (hM : FI N m = some r) (ro) (mv : AH) (hm : Bun35R ro mv m) : Does prog 108 #[vA (Ag m mv)] ro [] (p1 (fun s_ => s_) 5 encY r) := by
 unfold FI at hM
 refine Ac follows func108 rfl 6 rfl _ fz1 (fun base0_ => ?_)
 refine Ai <| rA rfl fun b2 => rz rfl <| A_sc [(some 5, false)] (conG prog [(5, fun _ _ v_ L_ U_ => ∀ u0_, Dd N m.2.2.2.2.2.1 = some u0_ → (p1 (fun s_ => s_) 5 encY u0_) v_ L_ U_)]) <| rm 2 [0] rfl <| kB hM fun r4 hr5 hM => AP (Ls := [[(b2, 35, (Ag m mv))]]) (fun s6 => s6) 5 encY r4 109 _ rfl rfl rfl (cF gT) (fun o w z_ => Kg N m.2.2.2.2.2.1 _ hr5 z_.view mv.2.2.2.2.1 (RdN.mono z_.ro_cell hm.2.2.2.2.1)) (Ao hr5) (fun s6 S7 H8 => ?_)
 refine rz rfl ?_
 cases hM
 refine Au (fun hn => AG (v0 := s6) H8 (Aw (Sub.pick [[(b2, 35, (Ag m mv))], S7] [1] rfl)) rfl (AV rfl))
def CD (N : Nat) (l' : List (Int × BitVec 128)) : Nat → List UInt8 → Int → Option (List UInt8)
  | 0, _, _ => none
  | n19 + 1, b1_, x2_ => if x2_ < (l'.length : Int) then ck (0 ≤ x2_ ∧ x2_ < (l'.length : Int)) ((DW N b1_ ((l'[x2_.toNat]!).1) ((l'[x2_.toNat]!).2)).bind fun r27 => ck (-9223372036854775808 ≤ (x2_ + 1) ∧ (x2_ + 1) ≤ 9223372036854775807) ((CD N l' n19) r27 (x2_ + 1))) else some b1_
def DK (N : Nat) (b : List UInt8) (l' : List (Int × BitVec 128)) : Option (List UInt8) := if (l'.length : Int) > 255 then (Ax N b 0 1).bind fun r6 => some r6 else (Ax N b (l'.length : Int) 1).bind fun r12 => CD N l' N r12 0
theorem LB (N b l' r) (hM : DK N b l' = some r) (ro) (bv : Value) (Sb : List Bl) (hb : Sl 5 encY bv b Sb) (l'v) (hl' : Rd enc_54 ro l'v l') : Does prog 220 #[bv, l'v, vF 221 #[] #[]] ro (List.flatten [Sb]) (pO (List.flatten [Sb]) (oS 5 encY r fun s_0 => (oE s_0 []))) := by
 unfold DK at hM
 refine BU follows func220 rfl 30 rfl _ fz3 (fun _ _ h_ _ => h_) (fun base0_ => ?_)
 refine AZ rfl <| Aa fun K2 hK2 => Ai <| rn 1 rfl <| rL (Rd.shp hl') rfl <| rz rfl <| aD hM rfl (fun hc4 hM => ?_) (fun hc4 hM => ?_)
 ·refine A_sc [(some 13, true)] (conG prog [(13, fun _ _ v_ L_ U_ => ∀ u0_, Ax N b 0 1 = some u0_ → (pO (List.flatten [Sb]) (oS 5 encY u0_ fun s_0 => (oE s_0 []))) v_ L_ U_)]) <| rn 1 rfl <| kB hM fun r6 hr7 hM => Ju (Ls := [Sb]) (FL := [Sb]) [0] _ (some 13) 164 _ rfl rfl rfl rfl rfl (cF Fe) (fun o w hn_ z_ => BL N b 0 1 _ hr7 _ bv Sb hb) (Ao hr7) (fun h_ => nomatch h_) ?_
  rintro s8 _ ⟨_, S9, _, H10, ⟨rfl, rfl⟩, rfl⟩
  refine AX (Ls := [S9]) (Ls' := [S9]) [0] rfl rfl <| rz rfl ?_
  cases hM
  refine Au (fun hn => Ge (v0 := s8) (O := [S9]) (AV rfl) (Sub.pick [S9] [0] rfl) ⟨s8, S9, _, H10, ⟨rfl, rfl⟩, rfl⟩)
 refine Af <| hK2 _ _ ?_
 refine A_sc [(some 17, true)] (conG prog [(17, fun _ _ v_ L_ U_ => ∀ u0_, Ax N b (l'.length : Int) 1 = some u0_ → (pO (List.flatten [Sb]) (oS 5 encY u0_ fun s_0 => (oE s_0 []))) v_ L_ U_)]) <| rn 2 rfl <| rL (Rd.shp hl') rfl <| kB hM fun r12 hr13 hM => Ju (Ls := [Sb]) (FL := [Sb]) [0] _ (some 17) 164 _ rfl rfl rfl rfl rfl (cF Fe) (fun o w hn_ z_ => BL N b (l'.length : Int) 1 _ hr13 _ bv Sb hb) (Ao hr13) (fun h_ => nomatch h_) ?_
 rintro s14 _ ⟨_, S15, _, H16, ⟨rfl, rfl⟩, rfl⟩
 refine AX (Ls := [S15]) (Ls' := [S15]) [0] rfl rfl <| rz rfl <| Aa fun K17 hK17 => Ai <| rn 1 rfl <| rL (Rd.shp hl') rfl <| rz rfl <| Aj <| Be _ (Sub.pick [S15] [0] rfl) <| AU (fun tt ll nn => ∃ (n19 : Nat) (b1_ : List UInt8) (x2_ : Int), (CD N l' n19 b1_ x2_ = some r) ∧ ∃ (vb1_ : Value) (Sb1_ : List Bl), Sl 5 encY vb1_ b1_ Sb1_ ∧ Is [(0, vb1_), (2, vF 221 #[] #[]), (18, l'v), (19, vI (l'.length : Int)), (20, vI x2_)] (List.flatten [Sb1_]) tt ll ∧ nn = n19 + 1) (N + 1) ?_ ?_
 ·exact ⟨N, r12, 0, hM, s14, S15, H16, Ak rfl rfl, rfl⟩
 clear hM; rintro t l _ ⟨n19, b1_, x2_, hM, vb1_, Sb1_, hb1_, ⟨⟨T, rfl⟩, rfl⟩, rfl⟩
 rcases n19 with _ | n19
 ·exact absurd hM (by simp [CD])
 rw [CD] at hM
 refine AZ rfl <| Aa fun K21 hK21 => aD hM rfl (fun hc22 hM => ?_) (fun hc22 hM => ?_)
 ·refine Af <| hK21 _ _ ?_
  refine Aa fun K23 hK23 => Aj <| Ai <| kC hM fun ck25 hM => rI (Rd.shp hl') ck25 rfl <| rE (AA hl') ck25 0 rfl <| rA rfl fun b26 => ry [0] rfl <| A_regC [(some 27, true)] (conG prog [(27, fun _ _ v_ L_ U_ => ∀ u0_, DW N b1_ ((l'[x2_.toNat]!).1) ((l'[x2_.toNat]!).2) = some u0_ → (pO (List.flatten [Sb1_]) (oS 5 encY u0_ fun s_0 => (oE s_0 []))) v_ L_ U_)]) <| rn 2 rfl ?_
  refine rm 1 [0] rfl <| kB hM fun r27 hr28 hM => Ju (Ls := [(QU b26 ((l'[x2_.toNat]!).1) (hi ((l'[x2_.toNat]!).2)) (lo ((l'[x2_.toNat]!).2))), Sb1_]) (FL := [Sb1_]) [1] _ (some 27) 221 _ rfl rfl rfl rfl rfl (AO (caps := []) rfl XY rfl) (fun o w hn_ z_ => NM N b1_ ((l'[x2_.toNat]!).1) ((l'[x2_.toNat]!).2) _ hr28 _ vb1_ Sb1_ hb1_) (Ao hr28) (fun h_ => nomatch h_) ?_
  rintro s29 _ ⟨_, S30, _, H31, ⟨rfl, rfl⟩, rfl⟩
  refine AX (Ls := [(QU b26 ((l'[x2_.toNat]!).1) (hi ((l'[x2_.toNat]!).2)) (lo ((l'[x2_.toNat]!).2))), S30]) (Ls' := [(QU b26 ((l'[x2_.toNat]!).1) (hi ((l'[x2_.toNat]!).2)) (lo ((l'[x2_.toNat]!).2))), S30]) [0, 1] rfl rfl <| rz rfl <| hK23 _ _ ?_
  refine Ar <| kC hM fun ck32 hM => rX ck32 rfl <| rz rfl <| fg _ (Sub.pick [(QU b26 ((l'[x2_.toNat]!).1) (hi ((l'[x2_.toNat]!).2)) (lo ((l'[x2_.toNat]!).2))), S30] [1] rfl) ?_
  exact ⟨n19 + 1, by omega, n19, r27, (x2_ + 1), hM, s29, S30, H31, Ak rfl rfl, rfl⟩
 refine AS <| hK17 _ _ ?_
 refine AZ rfl ?_
 cases hM
 refine Au (fun hn => Ge (v0 := vb1_) (O := [Sb1_]) (AV rfl) (Sub.pick [Sb1_] [0] rfl) ⟨vb1_, Sb1_, _, hb1_, ⟨rfl, rfl⟩, rfl⟩)
def EP (N : Nat) (b : List UInt8) (l' : List (Int × BitVec 128)) : Option (List UInt8) := (Av N b).bind fun r3 => (DK N r3 l').bind fun r11 => some r11
theorem PX (N b l' r) (hM : EP N b l' = some r) (ro bv) (hb : Rd encY ro bv b) (l'v) (hl' : Rd enc_54 ro l'v l') : Does prog 187 #[bv, l'v] ro [] (p1 (fun s_ => s_) 5 encY r) := by
 unfold EP at hM
 refine Ac follows func187 rfl 9 rfl _ fz2 (fun base0_ => ?_)
 refine AZ rfl <| A_sc [(some 6, false), (some 8, true)] (conG prog [(6, fun _ _ v_ L_ U_ => ∀ u0_, Av N b = some u0_ → (p1 (fun s_ => s_) 5 encY u0_) v_ L_ U_), (8, fun a_ _ v_ L_ U_ => ∀ u0_, Av N b = some u0_ → ∀ u1_, DK N u0_ l' = some u1_ → (pN (List.flatten [Nk (Li a_ 1)]) (oS 5 encY u1_ fun s_0 => (oE s_0 []))) v_ L_ U_)]) <| rn 1 rfl <| kB hM fun r3 hr4 hM => AP (Ls := []) (fun s5 => s5) 5 encY r3 165 _ rfl rfl rfl (cF KA) (fun o w z_ => BZ N b _ hr4 z_.view bv (z_.r hb)) (Ao hr4) (fun s5 S6 H7 => ?_)
 refine rn 1 rfl <| Ki (Ls := [S6]) trivial 0 rfl H7 (fun S8 H9 hn10 => ?_)
 refine kB hM fun r11 hr12 hM => Qf (Ls := [S8]) (FL := [S8]) (RL := []) [0] (oS 5 encY r11 fun s_0 => (oE s_0 [])) (some 8) 220 _ (pc := fun a_ => pN (List.flatten [Nk (Li a_ 1)]) (oS 5 encY r11 fun s_0 => (oE s_0 []))) rfl rfl rfl rfl rfl (cF fK) (fun o w hn_ z_ => LB N r3 l' _ hr12 _ s5 S8 H9 l'v (Rd.mono (OB (Ls := [S8]) (is := [0]) rfl z_) hl')) (fun _ _ v_ L_ U_ => ⟨fun h_ => h_ _ hr4 _ hr12, fun h_ => by intro _ e_; cases Option.some.inj (e_.symm.trans hr4); intro _ e_; cases Option.some.inj (e_.symm.trans hr12); exact h_⟩) (fun _ _ _ => Oc (nmF (nmC hn10 nmN))) (fun h_ => nomatch h_) ?_
 rintro s13 _ ⟨_, S14, _, H15, ⟨rfl, rfl⟩, rfl⟩
 refine AX (Ls := [S14]) (Ls' := [S14]) [0] rfl rfl <| rz rfl ?_
 cases hM
 refine Au (fun hn => AG (v0 := s13) H15 (Aw (Sub.pick [S14] [0] rfl)) rfl (AV rfl))
def FO (N : Nat) (x_0 : Int) (x_1 : List (Int × BitVec 128)) : Option (List UInt8) := (Ae N ([x_0])).bind fun r7 => (EP N ([]) x_1).bind fun r12 => (AF N ([r7, r12])).bind fun r24 => some r24
theorem Rz (N x_0 x_1 r) (hM : FO N x_0 x_1 = some r) (ro x_1v) (hx_1 : Rd enc_54 ro x_1v x_1) : Does prog 186 #[vA #[vI x_0, x_1v]] ro [] (p1 (fun s_ => s_) 5 encY r) := by
 unfold FO at hM
 refine Ac follows func186 rfl 12 rfl _ fz1 (fun base0_ => ?_)
 refine Ai <| rA rfl fun b2 => rz rfl <| Aa fun K3 hK3 => BA [(some 5, false), (some 6, false), (some 9, false), (some 10, false), (some 11, false)] (conG prog [(6, fun _ _ v_ L_ U_ => ∀ u0_, Ae N ([x_0]) = some u0_ → (p1 (fun s_ => s_) 5 encY u0_) v_ L_ U_), (9, fun _ _ v_ L_ U_ => ∀ u0_, EP N ([]) x_1 = some u0_ → (p1 (fun s_ => s_) 5 encY u0_) v_ L_ U_), (11, fun _ _ v_ L_ U_ => ∀ u0_, Ae N ([x_0]) = some u0_ → ∀ u1_, EP N ([]) x_1 = some u1_ → ∀ u2_, AF N ([u0_, u1_]) = some u2_ → (p1 (fun s_ => s_) 5 encY u2_) v_ L_ U_)]) [] (by decide +kernel) (fun hn => Ba) <| rn 1 rfl ?_
 refine rm 1 [0] rfl <| BF (Ls := [(Gq b2 x_0 x_1v)]) 3 Bf [x_0] [vI x_0] [vI 0] rfl rfl rfl rfl rfl rfl rfl (by kernel_rfl) (by kernel_rfl) rfl rfl rfl (fun s4 S5 H6 => ?_)
 refine kB hM fun r7 hr8 hM => AP (Ls := [(Gq b2 x_0 x_1v), S5]) (fun s9 => s9) 5 encY r7 83 _ rfl rfl rfl (cF BI) (fun o w z_ => Ay N ([x_0]) _ hr8 z_.view s4 ((Ap H6 (Ad (Ls := [(Gq b2 x_0 x_1v), S5]) (k := 1) rfl rfl)) o w z_)) (Ao hr8) (fun s9 S10 H11 => ?_)
 refine rm 2 [0] rfl <| kB hM fun r12 hr13 hM => AP (Ls := [(Gq b2 x_0 x_1v), S5, S10]) (fun s14 => s14) 5 encY r12 187 _ rfl rfl rfl (cF Ya) (fun o w z_ => PX N ([]) x_1 _ hr13 z_.view nS ((fun _ _ _ => .inl ⟨rfl, rfl⟩) o w z_) x_1v (z_.r hx_1)) (Ao hr13) (fun s14 S15 H16 => ?_)
 have hR17 : ((AD 5 encY)).R r7 [s9] S10 := (by have h_ := (Bi (e := 5) (E := encY) H11); exact EncO.cast h_ (by first | rfl | simp only [List.nil_append, List.append_nil, List.append_assoc]))
 have hR18 : ((AD 5 encY)).R r12 [s14] S15 := (by have h_ := (Bi (e := 5) (E := encY) H16); exact EncO.cast h_ (by first | rfl | simp only [List.nil_append, List.append_nil, List.append_assoc]))
 refine BF (Ls := [(Gq b2 x_0 x_1v), S5, S10, S15]) 38 (EncO.raw (AD 5 encY)) [EncO.of (AD 5 encY) hR17, EncO.of (AD 5 encY) hR18] [s9, s14] [nS, nS] rfl rfl rfl rfl rfl rfl rfl (by kernel_rfl) ((CN _ _ _ _ (Bj (AI rfl (Sl.shp H11)) (Bj (AI rfl (Sl.shp H16)) Ei))).trans (by kernel_rfl)) rfl rfl rfl (fun s19 S20 H21 => ?_)
 refine AX (Ls := [(Gq b2 x_0 x_1v), S5, S10, S15, S20]) (Ls' := [(Gq b2 x_0 x_1v), S5, S20, S10, S15]) [0, 1, 4, 2, 3] rfl rfl <| Jl (Ls := [(Gq b2 x_0 x_1v), S5, S20, S10, S15]) (Ls' := [(Gq b2 x_0 x_1v), S5, (S20 ++ (S10 ++ S15))]) (by simp only [List.flatten_cons, List.flatten_nil, List.append_nil, List.append_assoc]) ?_
 refine Ee (Ls := [(Gq b2 x_0 x_1v), S5, (S20 ++ (S10 ++ S15))]) (p := fun S_ => SlO 38 (AD 5 encY) s19 ([r7, r12]) S_) 2 rfl (SlO.cast (⟨_, _, _, H21, (Items.append (Items.one hR17) (Items.one hR18)), rfl⟩ : SlO 38 (AD 5 encY) s19 [r7, r12] _) (by first | rfl | simp only [List.nil_append, List.append_nil, List.append_assoc])) (fun S22 H23 => ?_)
 refine kB hM fun r24 hr25 hM => AP (Ls := [(Gq b2 x_0 x_1v), S5, S22]) (fun s26 => s26) 5 encY r24 40 _ rfl rfl rfl (cF Mq) (fun o w z_ => BS N ([r7, r12]) _ hr25 z_.view s19 ((fun o w z_ => RdN.map (E' := DH) (SlO.view H23 (CF (Ad (Ls := [(Gq b2 x_0 x_1v), S5, S22]) (k := 2) rfl rfl) o w z_)) rfl (fun _ _ h_ => Dz h_)) o w z_)) (fun _ _ v_ L_ U_ => ⟨fun h_ => h_ _ hr8 _ hr13 _ hr25, fun h_ => by intro _ e_; cases Option.some.inj (e_.symm.trans hr8); intro _ e_; cases Option.some.inj (e_.symm.trans hr13); intro _ e_; cases Option.some.inj (e_.symm.trans hr25); exact h_⟩) (fun s26 S27 H28 => ?_)
 refine rz rfl <| hK3 _ _ ?_
 cases hM
 refine Au (fun hn => AG (v0 := s26) H28 (Aw (Sub.pick [(Gq b2 x_0 x_1v), S5, S22, S27] [3] rfl)) rfl (AV rfl))
def GT (N : Nat) (x_0 : List UInt8) (x_1 : Int) (x_2 : List (Int × Int × Int)) (x_3 : List Int) (x_4 : Int) (x_5 : List (Int × BitVec 128)) (x_6 : Int) : Option (List UInt8) := (Ae N ([x_1])).bind fun r7 => (BH N x_2).bind fun r12 => (CE N ([]) x_3).bind fun r17 => (FO N x_4 x_5).bind fun r22 => (Da N ([]) x_6).bind fun r27 => (Bs N x_0 ([r7, r12, r17, r22, r27])).bind fun r42 => some r42
theorem Qw (N x_0 x_1 x_2 x_3 x_4 x_5 x_6 r) (hM : GT N x_0 x_1 x_2 x_3 x_4 x_5 x_6 = some r) (ro x_2v) (hx_2 : Rd DO ro x_2v x_2) (x_3v) (hx_3 : Rd Bf ro x_3v x_3) (x_5v) (hx_5 : Rd enc_54 ro x_5v x_5) : Does prog 113 #[vA #[vS x_0, vI x_1, x_2v, x_3v, vI x_4, x_5v, vI x_6]] ro [] (p1 (fun s_ => s_) 5 encY r) := by
 unfold GT at hM
 refine Ac follows func113 rfl 23 rfl _ fz1 (fun base0_ => ?_)
 refine Ai <| rA rfl fun b2 => rz rfl <| Aa fun K3 hK3 => ?_
 refine BA [(some 7, false), (some 8, false), (some 11, false), (some 14, false), (some 17, false), (some 20, false), (some 21, false), (some 22, false)] (conG prog [(8, fun _ _ v_ L_ U_ => ∀ u0_, Ae N ([x_1]) = some u0_ → (p1 (fun s_ => s_) 5 encY u0_) v_ L_ U_), (11, fun _ _ v_ L_ U_ => ∀ u0_, BH N x_2 = some u0_ → (p1 (fun s_ => s_) 5 encY u0_) v_ L_ U_), (14, fun _ _ v_ L_ U_ => ∀ u0_, CE N ([]) x_3 = some u0_ → (p1 (fun s_ => s_) 5 encY u0_) v_ L_ U_), (17, fun _ _ v_ L_ U_ => ∀ u0_, FO N x_4 x_5 = some u0_ → (p1 (fun s_ => s_) 5 encY u0_) v_ L_ U_), (20, fun _ _ v_ L_ U_ => ∀ u0_, Da N ([]) x_6 = some u0_ → (p1 (fun s_ => s_) 5 encY u0_) v_ L_ U_), (22, fun _ _ v_ L_ U_ => ∀ u0_, Ae N ([x_1]) = some u0_ → ∀ u1_, BH N x_2 = some u1_ → ∀ u2_, CE N ([]) x_3 = some u2_ → ∀ u3_, FO N x_4 x_5 = some u3_ → ∀ u4_, Da N ([]) x_6 = some u4_ → ∀ u5_, Bs N x_0 ([u0_, u1_, u2_, u3_, u4_]) = some u5_ → (p1 (fun s_ => s_) 5 encY u5_) v_ L_ U_)]) [] (by decide +kernel) (fun hn => Ba) ?_
 refine rm 4 [0, 0] rfl ?_
 refine BF (Ls := [(DF b2 x_0 x_1 x_2v x_3v x_4 x_5v x_6)]) 3 Bf [x_1] [vI x_1] [vI 0] rfl rfl rfl rfl rfl rfl rfl (by kernel_rfl) (by kernel_rfl) rfl rfl rfl (fun s4 S5 H6 => ?_)
 refine kB hM fun r7 hr8 hM => AP (Ls := [(DF b2 x_0 x_1 x_2v x_3v x_4 x_5v x_6), S5]) (fun s9 => s9) 5 encY r7 83 _ rfl rfl rfl (cF BI) (fun o w z_ => Ay N ([x_1]) _ hr8 z_.view s4 ((Ap H6 (Ad (Ls := [(DF b2 x_0 x_1 x_2v x_3v x_4 x_5v x_6), S5]) (k := 1) rfl rfl)) o w z_)) (Ao hr8) (fun s9 S10 H11 => ?_)
 refine rm 2 [0] rfl <| kB hM fun r12 hr13 hM => AP (Ls := [(DF b2 x_0 x_1 x_2v x_3v x_4 x_5v x_6), S5, S10]) (fun s14 => s14) 5 encY r12 181 _ rfl rfl rfl (cF Yc) (fun o w z_ => Ht N x_2 _ hr13 z_.view x_2v (z_.r hx_2)) (Ao hr13) (fun s14 S15 H16 => ?_)
 refine rm 2 [0] rfl <| kB hM fun r17 hr18 hM => AP (Ls := [(DF b2 x_0 x_1 x_2v x_3v x_4 x_5v x_6), S5, S10, S15]) (fun s19 => s19) 5 encY r17 119 _ rfl rfl rfl (cF SS) (fun o w z_ => JW N ([]) x_3 _ hr18 z_.view nS ((fun _ _ _ => .inl ⟨rfl, rfl⟩) o w z_) x_3v (z_.r hx_3)) (Ao hr18) (fun s19 S20 H21 => ?_)
 refine rm 2 [0] rfl <| kB hM fun r22 hr23 hM => AP (Ls := [(DF b2 x_0 x_1 x_2v x_3v x_4 x_5v x_6), S5, S10, S15, S20]) (fun s24 => s24) 5 encY r22 186 _ rfl rfl rfl (cF gg) (fun o w z_ => Rz N x_4 x_5 _ hr23 z_.view x_5v (z_.r hx_5)) (Ao hr23) (fun s24 S25 H26 => ?_)
 refine rm 2 [0] rfl <| kB hM fun r27 hr28 hM => AP (Ls := [(DF b2 x_0 x_1 x_2v x_3v x_4 x_5v x_6), S5, S10, S15, S20, S25]) (fun s29 => s29) 5 encY r27 178 _ rfl rfl rfl (cF Pk) (fun o w z_ => LT N ([]) x_6 _ hr28 z_.view nS ((fun _ _ _ => .inl ⟨rfl, rfl⟩) o w z_)) (Ao hr28) (fun s29 S30 H31 => ?_)
 have hR32 : ((AD 5 encY)).R r7 [s9] S10 := (by have h_ := (Bi (e := 5) (E := encY) H11); exact EncO.cast h_ (by first | rfl | simp only [List.nil_append, List.append_nil, List.append_assoc]))
 have hR33 : ((AD 5 encY)).R r12 [s14] S15 := (by have h_ := (Bi (e := 5) (E := encY) H16); exact EncO.cast h_ (by first | rfl | simp only [List.nil_append, List.append_nil, List.append_assoc]))
 have hR34 : ((AD 5 encY)).R r17 [s19] S20 := (by have h_ := (Bi (e := 5) (E := encY) H21); exact EncO.cast h_ (by first | rfl | simp only [List.nil_append, List.append_nil, List.append_assoc]))
 have hR35 : ((AD 5 encY)).R r22 [s24] S25 := (by have h_ := (Bi (e := 5) (E := encY) H26); exact EncO.cast h_ (by first | rfl | simp only [List.nil_append, List.append_nil, List.append_assoc]))
 have hR36 : ((AD 5 encY)).R r27 [s29] S30 := (by have h_ := (Bi (e := 5) (E := encY) H31); exact EncO.cast h_ (by first | rfl | simp only [List.nil_append, List.append_nil, List.append_assoc]))
 refine BF (Ls := [(DF b2 x_0 x_1 x_2v x_3v x_4 x_5v x_6), S5, S10, S15, S20, S25, S30]) 38 (EncO.raw (AD 5 encY)) [EncO.of (AD 5 encY) hR32, EncO.of (AD 5 encY) hR33, EncO.of (AD 5 encY) hR34, EncO.of (AD 5 encY) hR35, EncO.of (AD 5 encY) hR36] [s9, s14, s19, s24, s29] [nS, nS, nS, nS, nS] rfl rfl rfl rfl rfl rfl rfl (by kernel_rfl) ((CN _ _ _ _ (Bj (AI rfl (Sl.shp H11)) (Bj (AI rfl (Sl.shp H16)) (Bj (AI rfl (Sl.shp H21)) (Bj (AI rfl (Sl.shp H26)) (Bj (AI rfl (Sl.shp H31)) Ei)))))).trans (by kernel_rfl)) rfl rfl rfl (fun s37 S38 H39 => ?_)
 refine AX (Ls := [(DF b2 x_0 x_1 x_2v x_3v x_4 x_5v x_6), S5, S10, S15, S20, S25, S30, S38]) (Ls' := [(DF b2 x_0 x_1 x_2v x_3v x_4 x_5v x_6), S5, S38, S10, S15, S20, S25, S30]) [0, 1, 7, 2, 3, 4, 5, 6] rfl rfl <| Jl (Ls := [(DF b2 x_0 x_1 x_2v x_3v x_4 x_5v x_6), S5, S38, S10, S15, S20, S25, S30]) (Ls' := [(DF b2 x_0 x_1 x_2v x_3v x_4 x_5v x_6), S5, (S38 ++ (S10 ++ (S15 ++ (S20 ++ (S25 ++ S30)))))]) (by simp only [List.flatten_cons, List.flatten_nil, List.append_nil, List.append_assoc]) ?_
 refine Ee (Ls := [(DF b2 x_0 x_1 x_2v x_3v x_4 x_5v x_6), S5, (S38 ++ (S10 ++ (S15 ++ (S20 ++ (S25 ++ S30)))))]) (p := fun S_ => SlO 38 (AD 5 encY) s37 ([r7, r12, r17, r22, r27]) S_) 2 rfl (SlO.cast (⟨_, _, _, H39, (Items.append (Items.one hR32) (Items.append (Items.one hR33) (Items.append (Items.one hR34) (Items.append (Items.one hR35) (Items.one hR36))))), rfl⟩ : SlO 38 (AD 5 encY) s37 [r7, r12, r17, r22, r27] _) (by first | rfl | simp only [List.nil_append, List.append_nil, List.append_assoc])) (fun S40 H41 => ?_)
 refine kB hM fun r42 hr43 hM => AP (Ls := [(DF b2 x_0 x_1 x_2v x_3v x_4 x_5v x_6), S5, S40]) (fun s44 => s44) 5 encY r42 177 _ rfl rfl rfl (cF GQ) (fun o w z_ => DC N x_0 ([r7, r12, r17, r22, r27]) _ hr43 z_.view s37 ((fun o w z_ => RdN.map (E' := DH) (SlO.view H41 (CF (Ad (Ls := [(DF b2 x_0 x_1 x_2v x_3v x_4 x_5v x_6), S5, S40]) (k := 2) rfl rfl) o w z_)) rfl (fun _ _ h_ => Dz h_)) o w z_)) (fun _ _ v_ L_ U_ => ⟨fun h_ => h_ _ hr8 _ hr13 _ hr18 _ hr23 _ hr28 _ hr43, fun h_ => by intro _ e_; cases Option.some.inj (e_.symm.trans hr8); intro _ e_; cases Option.some.inj (e_.symm.trans hr13); intro _ e_; cases Option.some.inj (e_.symm.trans hr18); intro _ e_; cases Option.some.inj (e_.symm.trans hr23); intro _ e_; cases Option.some.inj (e_.symm.trans hr28); intro _ e_; cases Option.some.inj (e_.symm.trans hr43); exact h_⟩) (fun s44 S45 H46 => ?_)
 refine rz rfl <| hK3 _ _ ?_
 cases hM
 refine Au (fun hn => AG (v0 := s44) H46 (Aw (Sub.pick [(DF b2 x_0 x_1 x_2v x_3v x_4 x_5v x_6), S5, S40, S45] [3] rfl)) rfl (AV rfl))
def Ct (N : Nat) (l' : List ((List UInt8) × Int × (List (Int × Int × Int)) × (List Int) × Int × (List (Int × BitVec 128)) × Int)) : Nat → List UInt8 → Int → Option (List UInt8)
  | 0, _, _ => none
  | n13 + 1, b1_, x2_ => if x2_ < (l'.length : Int) then ck (0 ≤ x2_ ∧ x2_ < (l'.length : Int)) ((GT N (l'[x2_.toNat]!.1) (l'[x2_.toNat]!.2.1) (l'[x2_.toNat]!.2.2.1) (l'[x2_.toNat]!.2.2.2.1) (l'[x2_.toNat]!.2.2.2.2.1) (l'[x2_.toNat]!.2.2.2.2.2.1) (l'[x2_.toNat]!.2.2.2.2.2.2)).bind fun r28 => ck ((b1_).length + (r28).length ≤ 140737488355328) (ck (-9223372036854775808 ≤ (x2_ + 1) ∧ (x2_ + 1) ≤ 9223372036854775807) ((Ct N l' n13) (b1_ ++ r28) (x2_ + 1)))) else some b1_
def Dp (N : Nat) (l' : List ((List UInt8) × Int × (List (Int × Int × Int)) × (List Int) × Int × (List (Int × BitVec 128)) × Int)) : Option (List UInt8) := (Ae N ([(l'.length : Int)])).bind fun r6 => Ct N l' N r6 0
theorem KD (N l' r) (hM : Dp N l' = some r) (ro l'v) (hl' : RdN Il ro l'v l') : Does prog 112 #[l'v, vF 113 #[] #[]] ro [] (p1 (fun s_ => s_) 5 encY r) := by
 unfold Dp at hM
 refine Ac follows func112 rfl 25 rfl _ fz2 (fun base0_ => ?_)
 refine AZ rfl <| A_sc [(some 10, false), (some 11, false)] (conG prog [(11, fun _ _ v_ L_ U_ => ∀ u0_, Ae N ([(l'.length : Int)]) = some u0_ → (p1 (fun s_ => s_) 5 encY u0_) v_ L_ U_)]) <| rn 1 rfl <| rL (RdN.shp hl') rfl <| BF (Ls := []) 3 Bf [(l'.length : Int)] [vI (l'.length : Int)] [vI 0] rfl rfl rfl rfl rfl rfl rfl (by kernel_rfl) (by kernel_rfl) rfl rfl rfl (fun s3 S4 H5 => ?_)
 refine kB hM fun r6 hr7 hM => AP (Ls := [S4]) (fun s8 => s8) 5 encY r6 83 _ rfl rfl rfl (cF BI) (fun o w z_ => Ay N ([(l'.length : Int)]) _ hr7 z_.view s3 ((Ap H5 (Ad (Ls := [S4]) (k := 0) rfl rfl)) o w z_)) (Ao hr7) (fun s8 S9 H10 => ?_)
 refine rz rfl <| Aa fun K11 hK11 => Ai <| rn 1 rfl <| rL (RdN.shp hl') rfl <| rz rfl <| Aj <| Be _ (Sub.pick [S4, S9] [1] rfl) <| AU (fun tt ll nn => ∃ (n13 : Nat) (b1_ : List UInt8) (x2_ : Int), (Ct N l' n13 b1_ x2_ = some r) ∧ ∃ (vb1_ : Value) (Sb1_ : List Bl), Sl 5 encY vb1_ b1_ Sb1_ ∧ Is [(1, vF 113 #[] #[]), (5, vb1_), (12, l'v), (13, vI (l'.length : Int)), (14, vI x2_)] (List.flatten [Sb1_]) tt ll ∧ nn = n13 + 1) (N + 1) ?_ ?_
 ·exact ⟨N, r6, 0, hM, s8, S9, H10, Ak rfl rfl, rfl⟩
 clear hM; rintro t l _ ⟨n13, b1_, x2_, hM, vb1_, Sb1_, hb1_, ⟨⟨T, rfl⟩, rfl⟩, rfl⟩
 rcases n13 with _ | n13
 ·exact absurd hM (by simp [Ct])
 rw [Ct] at hM
 refine AZ rfl <| Aa fun K15 hK15 => aD hM rfl (fun hc16 hM => ?_) (fun hc16 hM => ?_)
 ·refine Af <| hK15 _ _ ?_
  refine Aa fun K17 hK17 => Aj <| Ai <| kC hM fun ck19 hM => ?_
  obtain ⟨_, ⟨s20, s21, s22, hs23, hs24, hs25, rfl⟩, hat26⟩ := RdN.at (E := Il) hl' (CP ck19)
  refine rI (RdN.shp hl') ck19 rfl <| Mv (vA #[vS (l'[x2_.toNat]!.1), vI (l'[x2_.toNat]!.2.1), s20, s21, vI (l'[x2_.toNat]!.2.2.2.2.1), s22, vI (l'[x2_.toNat]!.2.2.2.2.2.2)]) (vs := [vS (l'[x2_.toNat]!.1), vI (l'[x2_.toNat]!.2.1), s20, s21, vI (l'[x2_.toNat]!.2.2.2.2.1), s22, vI (l'[x2_.toNat]!.2.2.2.2.2.2)]) (x2_.toNat * 7) 0 rfl rfl (fun o w z_ => At.mono z_.ro_cell hat26) rfl <| rA rfl fun b27 => r_s (List.flatten [(DF b27 (l'[x2_.toNat]!.1) (l'[x2_.toNat]!.2.1) s20 s21 (l'[x2_.toNat]!.2.2.2.2.1) s22 (l'[x2_.toNat]!.2.2.2.2.2.2)), Sb1_]) 0 _ _ _ _ _ (#[vS (l'[x2_.toNat]!.1), vI (l'[x2_.toNat]!.2.1), s20, s21, vI (l'[x2_.toNat]!.2.2.2.2.1), s22, vI (l'[x2_.toNat]!.2.2.2.2.2.2)]) rfl rfl rfl rfl (.ofS rfl rfl (Ab rfl (Ab rfl (Ab (Shp.one (Rd.shp hs23)) (Ab (Shp.one (Rd.shp hs24)) (Ab rfl (Ab (Shp.one (Rd.shp hs25)) (Ab rfl Bh)))))))) rfl rfl <| As ?_
  refine A_regC [(some 21, false), (some 22, true)] (conG prog [(21, fun _ _ v_ L_ U_ => ∀ u0_, GT N (l'[x2_.toNat]!.1) (l'[x2_.toNat]!.2.1) (l'[x2_.toNat]!.2.2.1) (l'[x2_.toNat]!.2.2.2.1) (l'[x2_.toNat]!.2.2.2.2.1) (l'[x2_.toNat]!.2.2.2.2.2.1) (l'[x2_.toNat]!.2.2.2.2.2.2) = some u0_ → (p1 (fun s_ => s_) 5 encY u0_) v_ L_ U_)]) <| rm 3 [0] rfl <| kB hM fun r28 hr29 hM => AP (Ls := [(DF b27 (l'[x2_.toNat]!.1) (l'[x2_.toNat]!.2.1) s20 s21 (l'[x2_.toNat]!.2.2.2.2.1) s22 (l'[x2_.toNat]!.2.2.2.2.2.2)), Sb1_]) (fun s30 => s30) 5 encY r28 113 _ rfl rfl rfl (AO (caps := []) rfl gP rfl) (fun o w z_ => Qw N (l'[x2_.toNat]!.1) (l'[x2_.toNat]!.2.1) (l'[x2_.toNat]!.2.2.1) (l'[x2_.toNat]!.2.2.2.1) (l'[x2_.toNat]!.2.2.2.2.1) (l'[x2_.toNat]!.2.2.2.2.2.1) (l'[x2_.toNat]!.2.2.2.2.2.2) _ hr29 z_.view s20 (z_.r hs23) s21 (z_.r hs24) s22 (z_.r hs25)) (Ao hr29) (fun s30 S31 H32 => ?_)
  refine kC hM fun ck33 hM => Dg (Ls := [(DF b27 (l'[x2_.toNat]!.1) (l'[x2_.toNat]!.2.1) s20 s21 (l'[x2_.toNat]!.2.2.2.2.1) s22 (l'[x2_.toNat]!.2.2.2.2.2.2)), Sb1_, S31]) 1 (En := encY) rfl rfl rfl rfl rfl hb1_ rfl (Ap H32 (Ad (Ls := [(DF b27 (l'[x2_.toNat]!.1) (l'[x2_.toNat]!.2.1) s20 s21 (l'[x2_.toNat]!.2.2.2.2.1) s22 (l'[x2_.toNat]!.2.2.2.2.2.2)), Sb1_, S31]) (k := 2) rfl rfl)) rfl rfl rfl rfl rfl (Dk ck33 rfl) (Dj ck33 rfl) rfl (fun s34 S35 H36 => ?_)
  refine rz rfl <| hK17 _ _ ?_
  refine Ar <| kC hM fun ck37 hM => rX ck37 rfl <| rz rfl <| fg _ (Sub.pick [(DF b27 (l'[x2_.toNat]!.1) (l'[x2_.toNat]!.2.1) s20 s21 (l'[x2_.toNat]!.2.2.2.2.1) s22 (l'[x2_.toNat]!.2.2.2.2.2.2)), S35, S31] [1] rfl) ?_
  exact ⟨n13 + 1, by omega, n13, (b1_ ++ r28), (x2_ + 1), hM, s34, S35, H36, Ak rfl rfl, rfl⟩
 refine AS <| hK11 _ _ ?_
 refine AZ rfl ?_
 cases hM
 refine Au (fun hn => AG (v0 := vb1_) hb1_ (Aw (Sub.pick [Sb1_] [0] rfl)) rfl (AV rfl))
def FH (N : Nat) (m : AN) : Option (List UInt8) := (Dp N m.2.2.2.2.2.2.1).bind fun r4 => some r4
theorem MM (N m r) (hM : FH N m = some r) (ro) (mv : AH) (hm : Bun35R ro mv m) : Does prog 111 #[vA (Ag m mv)] ro [] (p1 (fun s_ => s_) 5 encY r) := by
 unfold FH at hM
 refine Ac follows func111 rfl 6 rfl _ fz1 (fun base0_ => ?_)
 refine Ai <| rA rfl fun b2 => rz rfl <| A_sc [(some 5, false)] (conG prog [(5, fun _ _ v_ L_ U_ => ∀ u0_, Dp N m.2.2.2.2.2.2.1 = some u0_ → (p1 (fun s_ => s_) 5 encY u0_) v_ L_ U_)]) <| rm 2 [0] rfl <| kB hM fun r4 hr5 hM => AP (Ls := [[(b2, 35, (Ag m mv))]]) (fun s6 => s6) 5 encY r4 112 _ rfl rfl rfl (cF gQ) (fun o w z_ => KD N m.2.2.2.2.2.2.1 _ hr5 z_.view mv.2.2.2.2.2.1 (RdN.mono z_.ro_cell hm.2.2.2.2.2.1)) (Ao hr5) (fun s6 S7 H8 => ?_)
 refine rz rfl ?_
 cases hM
 refine Au (fun hn => AG (v0 := s6) H8 (Aw (Sub.pick [[(b2, 35, (Ag m mv))], S7] [1] rfl)) rfl (AV rfl))
def HF (N : Nat) (x_0 : Int) (x_1 : Int) (x_2 : List (Int × Int × Int × Int × BitVec 128)) (x_3 : List (Int × BitVec 128)) (x_4 : Int) (x_5 : Int) : Option (List UInt8) := if x_0 = 1 then (Ae N ([x_0])).bind fun r12 => (Bm N x_2).bind fun r17 => (Ae N ([x_4, x_5])).bind fun r25 => (AF N ([r12, r17, r25])).bind fun r38 => some r38 else if x_0 = 2 then (Ae N ([x_0, x_1])).bind fun r49 => (EP N ([]) x_3).bind fun r54 => (Ae N ([x_4])).bind fun r62 => (AF N ([r49, r54, r62])).bind fun r75 => some r75 else (Ae N ([x_0, x_1, x_4, x_5])).bind fun r84 => some r84
theorem Rv (N x_0 x_1 x_2 x_3 x_4 x_5 r) (hM : HF N x_0 x_1 x_2 x_3 x_4 x_5 = some r) (ro x_2v) (hx_2 : Rd enc_56 ro x_2v x_2) (x_3v) (hx_3 : Rd enc_54 ro x_3v x_3) : Does prog 116 #[vA #[vI x_0, vI x_1, x_2v, x_3v, vI x_4, vI x_5]] ro [] (p1 (fun s_ => s_) 5 encY r) := by
 unfold HF at hM
 refine Ac follows func116 rfl 49 rfl _ fz1 (fun base0_ => ?_)
 refine Ai <| rA rfl fun b2 => rz rfl <| AY [0] rfl <| Aa fun K4 hK4 => AY [0] rfl <| Aj <| AZ rfl <| aE hM rfl (fun hc7 hM => ?_) (fun hc7 hM => ?_)
 ·refine Aa fun K8 hK8 => ?_
  refine BA [(some 1000000012, false), (some 12, false), (some 15, false), (some 1000000021, false), (some 21, false), (some 22, false), (some 23, false)] (conG prog [(12, fun _ _ v_ L_ U_ => ∀ u0_, Ae N ([x_0]) = some u0_ → (p1 (fun s_ => s_) 5 encY u0_) v_ L_ U_), (15, fun _ _ v_ L_ U_ => ∀ u0_, Bm N x_2 = some u0_ → (p1 (fun s_ => s_) 5 encY u0_) v_ L_ U_), (21, fun _ _ v_ L_ U_ => ∀ u0_, Ae N ([x_4, x_5]) = some u0_ → (p1 (fun s_ => s_) 5 encY u0_) v_ L_ U_), (23, fun _ _ v_ L_ U_ => ∀ u0_, Ae N ([x_0]) = some u0_ → ∀ u1_, Bm N x_2 = some u1_ → ∀ u2_, Ae N ([x_4, x_5]) = some u2_ → ∀ u3_, AF N ([u0_, u1_, u2_]) = some u3_ → (p1 (fun s_ => s_) 5 encY u3_) v_ L_ U_)]) [] (by decide +kernel) (fun hn => Ba) ?_
  refine rn 1 rfl ?_
  refine Rt (Ls := [(Bg b2 x_0 x_1 x_2v x_3v x_4 x_5)]) 3 Bf [x_0] [vI x_0] [vI 0] rfl rfl rfl rfl rfl rfl rfl (by kernel_rfl) (by kernel_rfl) rfl rfl rfl (fun s9 S10 H11 => ?_)
  refine kB hM fun r12 hr13 hM => AP (Ls := [(Bg b2 x_0 x_1 x_2v x_3v x_4 x_5), S10]) (fun s14 => s14) 5 encY r12 83 _ rfl rfl rfl (cF BI) (fun o w z_ => Ay N ([x_0]) _ hr13 z_.view s9 ((Ap H11 (Ad (Ls := [(Bg b2 x_0 x_1 x_2v x_3v x_4 x_5), S10]) (k := 1) rfl rfl)) o w z_)) (Ao hr13) (fun s14 S15 H16 => ?_)
  refine rm 2 [0] rfl <| kB hM fun r17 hr18 hM => AP (Ls := [(Bg b2 x_0 x_1 x_2v x_3v x_4 x_5), S10, S15]) (fun s19 => s19) 5 encY r17 41 _ rfl rfl rfl (cF VW) (fun o w z_ => GD N x_2 _ hr18 z_.view x_2v (z_.r hx_2)) (Ao hr18) (fun s19 S20 H21 => ?_)
  refine rm 4 [0, 0] rfl ?_
  refine Rt (Ls := [(Bg b2 x_0 x_1 x_2v x_3v x_4 x_5), S10, S15, S20]) 3 Bf [x_4, x_5] [vI x_4, vI x_5] [vI 0, vI 0] rfl rfl rfl rfl rfl rfl rfl (by kernel_rfl) (by kernel_rfl) rfl rfl rfl (fun s22 S23 H24 => ?_)
  refine kB hM fun r25 hr26 hM => AP (Ls := [(Bg b2 x_0 x_1 x_2v x_3v x_4 x_5), S10, S15, S20, S23]) (fun s27 => s27) 5 encY r25 83 _ rfl rfl rfl (cF BI) (fun o w z_ => Ay N ([x_4, x_5]) _ hr26 z_.view s22 ((Ap H24 (Ad (Ls := [(Bg b2 x_0 x_1 x_2v x_3v x_4 x_5), S10, S15, S20, S23]) (k := 4) rfl rfl)) o w z_)) (Ao hr26) (fun s27 S28 H29 => ?_)
  have hR30 : ((AD 5 encY)).R r12 [s14] S15 := (by have h_ := (Bi (e := 5) (E := encY) H16); exact EncO.cast h_ (by first | rfl | simp only [List.nil_append, List.append_nil, List.append_assoc]))
  have hR31 : ((AD 5 encY)).R r17 [s19] S20 := (by have h_ := (Bi (e := 5) (E := encY) H21); exact EncO.cast h_ (by first | rfl | simp only [List.nil_append, List.append_nil, List.append_assoc]))
  have hR32 : ((AD 5 encY)).R r25 [s27] S28 := (by have h_ := (Bi (e := 5) (E := encY) H29); exact EncO.cast h_ (by first | rfl | simp only [List.nil_append, List.append_nil, List.append_assoc]))
  refine BF (Ls := [(Bg b2 x_0 x_1 x_2v x_3v x_4 x_5), S10, S15, S20, S23, S28]) 38 (EncO.raw (AD 5 encY)) [EncO.of (AD 5 encY) hR30, EncO.of (AD 5 encY) hR31, EncO.of (AD 5 encY) hR32] [s14, s19, s27] [nS, nS, nS] rfl rfl rfl rfl rfl rfl rfl (by kernel_rfl) ((CN _ _ _ _ (Bj (AI rfl (Sl.shp H16)) (Bj (AI rfl (Sl.shp H21)) (Bj (AI rfl (Sl.shp H29)) Ei)))).trans (by kernel_rfl)) rfl rfl rfl (fun s33 S34 H35 => ?_)
  refine AX (Ls := [(Bg b2 x_0 x_1 x_2v x_3v x_4 x_5), S10, S15, S20, S23, S28, S34]) (Ls' := [(Bg b2 x_0 x_1 x_2v x_3v x_4 x_5), S10, S23, S34, S15, S20, S28]) [0, 1, 4, 6, 2, 3, 5] rfl rfl <| Jl (Ls := [(Bg b2 x_0 x_1 x_2v x_3v x_4 x_5), S10, S23, S34, S15, S20, S28]) (Ls' := [(Bg b2 x_0 x_1 x_2v x_3v x_4 x_5), S10, S23, (S34 ++ (S15 ++ (S20 ++ S28)))]) (by simp only [List.flatten_cons, List.flatten_nil, List.append_nil, List.append_assoc]) ?_
  refine Ee (Ls := [(Bg b2 x_0 x_1 x_2v x_3v x_4 x_5), S10, S23, (S34 ++ (S15 ++ (S20 ++ S28)))]) (p := fun S_ => SlO 38 (AD 5 encY) s33 ([r12, r17, r25]) S_) 3 rfl (SlO.cast (⟨_, _, _, H35, (Items.append (Items.one hR30) (Items.append (Items.one hR31) (Items.one hR32))), rfl⟩ : SlO 38 (AD 5 encY) s33 [r12, r17, r25] _) (by first | rfl | simp only [List.nil_append, List.append_nil, List.append_assoc])) (fun S36 H37 => ?_)
  refine kB hM fun r38 hr39 hM => AP (Ls := [(Bg b2 x_0 x_1 x_2v x_3v x_4 x_5), S10, S23, S36]) (fun s40 => s40) 5 encY r38 40 _ rfl rfl rfl (cF Mq) (fun o w z_ => BS N ([r12, r17, r25]) _ hr39 z_.view s33 ((fun o w z_ => RdN.map (E' := DH) (SlO.view H37 (CF (Ad (Ls := [(Bg b2 x_0 x_1 x_2v x_3v x_4 x_5), S10, S23, S36]) (k := 3) rfl rfl) o w z_)) rfl (fun _ _ h_ => Dz h_)) o w z_)) (fun _ _ v_ L_ U_ => ⟨fun h_ => h_ _ hr13 _ hr18 _ hr26 _ hr39, fun h_ => by intro _ e_; cases Option.some.inj (e_.symm.trans hr13); intro _ e_; cases Option.some.inj (e_.symm.trans hr18); intro _ e_; cases Option.some.inj (e_.symm.trans hr26); intro _ e_; cases Option.some.inj (e_.symm.trans hr39); exact h_⟩) (fun s40 S41 H42 => ?_)
  refine rz rfl <| hK8 _ _ ?_
  cases hM
  refine Au (fun hn => AG (v0 := s40) H42 (Aw (Sub.pick [(Bg b2 x_0 x_1 x_2v x_3v x_4 x_5), S10, S23, S36, S41] [4] rfl)) rfl (AV rfl))
 refine AZ rfl <| aE hM rfl (fun hc44 hM => ?_) (fun hc44 hM => ?_)
 ·refine Aa fun K45 hK45 => ?_
  refine BA [(some 1000000030, false), (some 30, false), (some 33, false), (some 1000000037, false), (some 37, false), (some 38, false), (some 39, false)] (conG prog [(30, fun _ _ v_ L_ U_ => ∀ u0_, Ae N ([x_0, x_1]) = some u0_ → (p1 (fun s_ => s_) 5 encY u0_) v_ L_ U_), (33, fun _ _ v_ L_ U_ => ∀ u0_, EP N ([]) x_3 = some u0_ → (p1 (fun s_ => s_) 5 encY u0_) v_ L_ U_), (37, fun _ _ v_ L_ U_ => ∀ u0_, Ae N ([x_4]) = some u0_ → (p1 (fun s_ => s_) 5 encY u0_) v_ L_ U_), (39, fun _ _ v_ L_ U_ => ∀ u0_, Ae N ([x_0, x_1]) = some u0_ → ∀ u1_, EP N ([]) x_3 = some u1_ → ∀ u2_, Ae N ([x_4]) = some u2_ → ∀ u3_, AF N ([u0_, u1_, u2_]) = some u3_ → (p1 (fun s_ => s_) 5 encY u3_) v_ L_ U_)]) [] (by decide +kernel) (fun hn => Ba) ?_
  refine rm 3 [0] rfl ?_
  refine Rt (Ls := [(Bg b2 x_0 x_1 x_2v x_3v x_4 x_5)]) 3 Bf [x_0, x_1] [vI x_0, vI x_1] [vI 0, vI 0] rfl rfl rfl rfl rfl rfl rfl (by kernel_rfl) (by kernel_rfl) rfl rfl rfl (fun s46 S47 H48 => ?_)
  refine kB hM fun r49 hr50 hM => AP (Ls := [(Bg b2 x_0 x_1 x_2v x_3v x_4 x_5), S47]) (fun s51 => s51) 5 encY r49 83 _ rfl rfl rfl (cF BI) (fun o w z_ => Ay N ([x_0, x_1]) _ hr50 z_.view s46 ((Ap H48 (Ad (Ls := [(Bg b2 x_0 x_1 x_2v x_3v x_4 x_5), S47]) (k := 1) rfl rfl)) o w z_)) (Ao hr50) (fun s51 S52 H53 => ?_)
  refine rm 2 [0] rfl <| kB hM fun r54 hr55 hM => AP (Ls := [(Bg b2 x_0 x_1 x_2v x_3v x_4 x_5), S47, S52]) (fun s56 => s56) 5 encY r54 187 _ rfl rfl rfl (cF Ya) (fun o w z_ => PX N ([]) x_3 _ hr55 z_.view nS ((fun _ _ _ => .inl ⟨rfl, rfl⟩) o w z_) x_3v (z_.r hx_3)) (Ao hr55) (fun s56 S57 H58 => ?_)
  refine rm 2 [0] rfl ?_
  refine Rt (Ls := [(Bg b2 x_0 x_1 x_2v x_3v x_4 x_5), S47, S52, S57]) 3 Bf [x_4] [vI x_4] [vI 0] rfl rfl rfl rfl rfl rfl rfl (by kernel_rfl) (by kernel_rfl) rfl rfl rfl (fun s59 S60 H61 => ?_)
  refine kB hM fun r62 hr63 hM => AP (Ls := [(Bg b2 x_0 x_1 x_2v x_3v x_4 x_5), S47, S52, S57, S60]) (fun s64 => s64) 5 encY r62 83 _ rfl rfl rfl (cF BI) (fun o w z_ => Ay N ([x_4]) _ hr63 z_.view s59 ((Ap H61 (Ad (Ls := [(Bg b2 x_0 x_1 x_2v x_3v x_4 x_5), S47, S52, S57, S60]) (k := 4) rfl rfl)) o w z_)) (Ao hr63) (fun s64 S65 H66 => ?_)
  have hR67 : ((AD 5 encY)).R r49 [s51] S52 := (by have h_ := (Bi (e := 5) (E := encY) H53); exact EncO.cast h_ (by first | rfl | simp only [List.nil_append, List.append_nil, List.append_assoc]))
  have hR68 : ((AD 5 encY)).R r54 [s56] S57 := (by have h_ := (Bi (e := 5) (E := encY) H58); exact EncO.cast h_ (by first | rfl | simp only [List.nil_append, List.append_nil, List.append_assoc]))
  have hR69 : ((AD 5 encY)).R r62 [s64] S65 := (by have h_ := (Bi (e := 5) (E := encY) H66); exact EncO.cast h_ (by first | rfl | simp only [List.nil_append, List.append_nil, List.append_assoc]))
  refine BF (Ls := [(Bg b2 x_0 x_1 x_2v x_3v x_4 x_5), S47, S52, S57, S60, S65]) 38 (EncO.raw (AD 5 encY)) [EncO.of (AD 5 encY) hR67, EncO.of (AD 5 encY) hR68, EncO.of (AD 5 encY) hR69] [s51, s56, s64] [nS, nS, nS] rfl rfl rfl rfl rfl rfl rfl (by kernel_rfl) ((CN _ _ _ _ (Bj (AI rfl (Sl.shp H53)) (Bj (AI rfl (Sl.shp H58)) (Bj (AI rfl (Sl.shp H66)) Ei)))).trans (by kernel_rfl)) rfl rfl rfl (fun s70 S71 H72 => ?_)
  refine AX (Ls := [(Bg b2 x_0 x_1 x_2v x_3v x_4 x_5), S47, S52, S57, S60, S65, S71]) (Ls' := [(Bg b2 x_0 x_1 x_2v x_3v x_4 x_5), S47, S60, S71, S52, S57, S65]) [0, 1, 4, 6, 2, 3, 5] rfl rfl <| Jl (Ls := [(Bg b2 x_0 x_1 x_2v x_3v x_4 x_5), S47, S60, S71, S52, S57, S65]) (Ls' := [(Bg b2 x_0 x_1 x_2v x_3v x_4 x_5), S47, S60, (S71 ++ (S52 ++ (S57 ++ S65)))]) (by simp only [List.flatten_cons, List.flatten_nil, List.append_nil, List.append_assoc]) ?_
  refine Ee (Ls := [(Bg b2 x_0 x_1 x_2v x_3v x_4 x_5), S47, S60, (S71 ++ (S52 ++ (S57 ++ S65)))]) (p := fun S_ => SlO 38 (AD 5 encY) s70 ([r49, r54, r62]) S_) 3 rfl (SlO.cast (⟨_, _, _, H72, (Items.append (Items.one hR67) (Items.append (Items.one hR68) (Items.one hR69))), rfl⟩ : SlO 38 (AD 5 encY) s70 [r49, r54, r62] _) (by first | rfl | simp only [List.nil_append, List.append_nil, List.append_assoc])) (fun S73 H74 => ?_)
  refine kB hM fun r75 hr76 hM => AP (Ls := [(Bg b2 x_0 x_1 x_2v x_3v x_4 x_5), S47, S60, S73]) (fun s77 => s77) 5 encY r75 40 _ rfl rfl rfl (cF Mq) (fun o w z_ => BS N ([r49, r54, r62]) _ hr76 z_.view s70 ((fun o w z_ => RdN.map (E' := DH) (SlO.view H74 (CF (Ad (Ls := [(Bg b2 x_0 x_1 x_2v x_3v x_4 x_5), S47, S60, S73]) (k := 3) rfl rfl) o w z_)) rfl (fun _ _ h_ => Dz h_)) o w z_)) (fun _ _ v_ L_ U_ => ⟨fun h_ => h_ _ hr50 _ hr55 _ hr63 _ hr76, fun h_ => by intro _ e_; cases Option.some.inj (e_.symm.trans hr50); intro _ e_; cases Option.some.inj (e_.symm.trans hr55); intro _ e_; cases Option.some.inj (e_.symm.trans hr63); intro _ e_; cases Option.some.inj (e_.symm.trans hr76); exact h_⟩) (fun s77 S78 H79 => ?_)
  refine rz rfl <| hK45 _ _ ?_
  cases hM
  refine Au (fun hn => AG (v0 := s77) H79 (Aw (Sub.pick [(Bg b2 x_0 x_1 x_2v x_3v x_4 x_5), S47, S60, S73, S78] [4] rfl)) rfl (AV rfl))
 refine Af <| hK4 _ _ ?_
 refine A_sc [(some 47, false), (some 48, false)] (conG prog [(48, fun _ _ v_ L_ U_ => ∀ u0_, Ae N ([x_0, x_1, x_4, x_5]) = some u0_ → (p1 (fun s_ => s_) 5 encY u0_) v_ L_ U_)]) <| rm 7 [0, 0, 0] rfl ?_
 refine BF (Ls := [(Bg b2 x_0 x_1 x_2v x_3v x_4 x_5)]) 3 Bf [x_0, x_1, x_4, x_5] [vI x_0, vI x_1, vI x_4, vI x_5] [vI 0, vI 0, vI 0, vI 0] rfl rfl rfl rfl rfl rfl rfl (by kernel_rfl) (by kernel_rfl) rfl rfl rfl (fun s81 S82 H83 => ?_)
 refine kB hM fun r84 hr85 hM => AP (Ls := [(Bg b2 x_0 x_1 x_2v x_3v x_4 x_5), S82]) (fun s86 => s86) 5 encY r84 83 _ rfl rfl rfl (cF BI) (fun o w z_ => Ay N ([x_0, x_1, x_4, x_5]) _ hr85 z_.view s81 ((Ap H83 (Ad (Ls := [(Bg b2 x_0 x_1 x_2v x_3v x_4 x_5), S82]) (k := 1) rfl rfl)) o w z_)) (Ao hr85) (fun s86 S87 H88 => ?_)
 refine rz rfl ?_
 cases hM
 refine Au (fun hn => AG (v0 := s86) H88 (Aw (Sub.pick [(Bg b2 x_0 x_1 x_2v x_3v x_4 x_5), S82, S87] [2] rfl)) rfl (AV rfl))
def Cx (N : Nat) (l' : List (Int × Int × (List (Int × Int × Int × Int × BitVec 128)) × (List (Int × BitVec 128)) × Int × Int)) : Nat → List UInt8 → Int → Option (List UInt8)
  | 0, _, _ => none
  | n13 + 1, b1_, x2_ => if x2_ < (l'.length : Int) then ck (0 ≤ x2_ ∧ x2_ < (l'.length : Int)) ((HF N (l'[x2_.toNat]!.1) (l'[x2_.toNat]!.2.1) (l'[x2_.toNat]!.2.2.1) (l'[x2_.toNat]!.2.2.2.1) (l'[x2_.toNat]!.2.2.2.2.1) (l'[x2_.toNat]!.2.2.2.2.2)).bind fun r26 => ck ((b1_).length + (r26).length ≤ 140737488355328) (ck (-9223372036854775808 ≤ (x2_ + 1) ∧ (x2_ + 1) ≤ 9223372036854775807) ((Cx N l' n13) (b1_ ++ r26) (x2_ + 1)))) else some b1_
def Cf (N : Nat) (l' : List (Int × Int × (List (Int × Int × Int × Int × BitVec 128)) × (List (Int × BitVec 128)) × Int × Int)) : Option (List UInt8) := (Ae N ([(l'.length : Int)])).bind fun r6 => Cx N l' N r6 0
theorem GG (N l' r) (hM : Cf N l' = some r) (ro l'v) (hl' : RdN Fc ro l'v l') : Does prog 115 #[l'v, vF 116 #[] #[]] ro [] (p1 (fun s_ => s_) 5 encY r) := by
 unfold Cf at hM
 refine Ac follows func115 rfl 25 rfl _ fz2 (fun base0_ => ?_)
 refine AZ rfl <| A_sc [(some 10, false), (some 11, false)] (conG prog [(11, fun _ _ v_ L_ U_ => ∀ u0_, Ae N ([(l'.length : Int)]) = some u0_ → (p1 (fun s_ => s_) 5 encY u0_) v_ L_ U_)]) <| rn 1 rfl <| rL (RdN.shp hl') rfl <| BF (Ls := []) 3 Bf [(l'.length : Int)] [vI (l'.length : Int)] [vI 0] rfl rfl rfl rfl rfl rfl rfl (by kernel_rfl) (by kernel_rfl) rfl rfl rfl (fun s3 S4 H5 => ?_)
 refine kB hM fun r6 hr7 hM => AP (Ls := [S4]) (fun s8 => s8) 5 encY r6 83 _ rfl rfl rfl (cF BI) (fun o w z_ => Ay N ([(l'.length : Int)]) _ hr7 z_.view s3 ((Ap H5 (Ad (Ls := [S4]) (k := 0) rfl rfl)) o w z_)) (Ao hr7) (fun s8 S9 H10 => ?_)
 refine rz rfl <| Aa fun K11 hK11 => Ai <| rn 1 rfl <| rL (RdN.shp hl') rfl <| rz rfl <| Aj <| Be _ (Sub.pick [S4, S9] [1] rfl) <| AU (fun tt ll nn => ∃ (n13 : Nat) (b1_ : List UInt8) (x2_ : Int), (Cx N l' n13 b1_ x2_ = some r) ∧ ∃ (vb1_ : Value) (Sb1_ : List Bl), Sl 5 encY vb1_ b1_ Sb1_ ∧ Is [(1, vF 116 #[] #[]), (5, vb1_), (12, l'v), (13, vI (l'.length : Int)), (14, vI x2_)] (List.flatten [Sb1_]) tt ll ∧ nn = n13 + 1) (N + 1) ?_ ?_
 ·exact ⟨N, r6, 0, hM, s8, S9, H10, Ak rfl rfl, rfl⟩
 clear hM; rintro t l _ ⟨n13, b1_, x2_, hM, vb1_, Sb1_, hb1_, ⟨⟨T, rfl⟩, rfl⟩, rfl⟩
 rcases n13 with _ | n13
 ·exact absurd hM (by simp [Cx])
 rw [Cx] at hM
 refine AZ rfl <| Aa fun K15 hK15 => aD hM rfl (fun hc16 hM => ?_) (fun hc16 hM => ?_)
 ·refine Af <| hK15 _ _ ?_
  refine Aa fun K17 hK17 => Aj <| Ai <| kC hM fun ck19 hM => ?_
  obtain ⟨_, ⟨s20, s21, hs22, hs23, rfl⟩, hat24⟩ := RdN.at (E := Fc) hl' (CP ck19)
  refine rI (RdN.shp hl') ck19 rfl <| Mv (vA #[vI (l'[x2_.toNat]!.1), vI (l'[x2_.toNat]!.2.1), s20, s21, vI (l'[x2_.toNat]!.2.2.2.2.1), vI (l'[x2_.toNat]!.2.2.2.2.2)]) (vs := [vI (l'[x2_.toNat]!.1), vI (l'[x2_.toNat]!.2.1), s20, s21, vI (l'[x2_.toNat]!.2.2.2.2.1), vI (l'[x2_.toNat]!.2.2.2.2.2)]) (x2_.toNat * 6) 0 rfl rfl (fun o w z_ => At.mono z_.ro_cell hat24) rfl <| rA rfl fun b25 => r_s (List.flatten [(Bg b25 (l'[x2_.toNat]!.1) (l'[x2_.toNat]!.2.1) s20 s21 (l'[x2_.toNat]!.2.2.2.2.1) (l'[x2_.toNat]!.2.2.2.2.2)), Sb1_]) 0 _ _ _ _ _ (#[vI (l'[x2_.toNat]!.1), vI (l'[x2_.toNat]!.2.1), s20, s21, vI (l'[x2_.toNat]!.2.2.2.2.1), vI (l'[x2_.toNat]!.2.2.2.2.2)]) rfl rfl rfl rfl (.ofS rfl rfl (Ab rfl (Ab rfl (Ab (Shp.one (Rd.shp hs22)) (Ab (Shp.one (Rd.shp hs23)) (Ab rfl (Ab rfl Bh))))))) rfl rfl <| As ?_
  refine A_regC [(some 21, false), (some 22, true)] (conG prog [(21, fun _ _ v_ L_ U_ => ∀ u0_, HF N (l'[x2_.toNat]!.1) (l'[x2_.toNat]!.2.1) (l'[x2_.toNat]!.2.2.1) (l'[x2_.toNat]!.2.2.2.1) (l'[x2_.toNat]!.2.2.2.2.1) (l'[x2_.toNat]!.2.2.2.2.2) = some u0_ → (p1 (fun s_ => s_) 5 encY u0_) v_ L_ U_)]) <| rm 3 [0] rfl <| kB hM fun r26 hr27 hM => AP (Ls := [(Bg b25 (l'[x2_.toNat]!.1) (l'[x2_.toNat]!.2.1) s20 s21 (l'[x2_.toNat]!.2.2.2.2.1) (l'[x2_.toNat]!.2.2.2.2.2)), Sb1_]) (fun s28 => s28) 5 encY r26 116 _ rfl rfl rfl (AO (caps := []) rfl gN rfl) (fun o w z_ => Rv N (l'[x2_.toNat]!.1) (l'[x2_.toNat]!.2.1) (l'[x2_.toNat]!.2.2.1) (l'[x2_.toNat]!.2.2.2.1) (l'[x2_.toNat]!.2.2.2.2.1) (l'[x2_.toNat]!.2.2.2.2.2) _ hr27 z_.view s20 (z_.r hs22) s21 (z_.r hs23)) (Ao hr27) (fun s28 S29 H30 => ?_)
  refine kC hM fun ck31 hM => Dg (Ls := [(Bg b25 (l'[x2_.toNat]!.1) (l'[x2_.toNat]!.2.1) s20 s21 (l'[x2_.toNat]!.2.2.2.2.1) (l'[x2_.toNat]!.2.2.2.2.2)), Sb1_, S29]) 1 (En := encY) rfl rfl rfl rfl rfl hb1_ rfl (Ap H30 (Ad (Ls := [(Bg b25 (l'[x2_.toNat]!.1) (l'[x2_.toNat]!.2.1) s20 s21 (l'[x2_.toNat]!.2.2.2.2.1) (l'[x2_.toNat]!.2.2.2.2.2)), Sb1_, S29]) (k := 2) rfl rfl)) rfl rfl rfl rfl rfl (Dk ck31 rfl) (Dj ck31 rfl) rfl (fun s32 S33 H34 => ?_)
  refine rz rfl <| hK17 _ _ ?_
  refine Ar <| kC hM fun ck35 hM => rX ck35 rfl <| rz rfl <| fg _ (Sub.pick [(Bg b25 (l'[x2_.toNat]!.1) (l'[x2_.toNat]!.2.1) s20 s21 (l'[x2_.toNat]!.2.2.2.2.1) (l'[x2_.toNat]!.2.2.2.2.2)), S33, S29] [1] rfl) ?_
  exact ⟨n13 + 1, by omega, n13, (b1_ ++ r26), (x2_ + 1), hM, s32, S33, H34, Ak rfl rfl, rfl⟩
 refine AS <| hK11 _ _ ?_
 refine AZ rfl ?_
 cases hM
 refine Au (fun hn => AG (v0 := vb1_) hb1_ (Aw (Sub.pick [Sb1_] [0] rfl)) rfl (AV rfl))
def FG (N : Nat) (m : AN) : Option (List UInt8) := (Cf N m.2.2.2.2.2.2.2.1).bind fun r4 => some r4
theorem ML (N m r) (hM : FG N m = some r) (ro) (mv : AH) (hm : Bun35R ro mv m) : Does prog 114 #[vA (Ag m mv)] ro [] (p1 (fun s_ => s_) 5 encY r) := by
 unfold FG at hM
 refine Ac follows func114 rfl 6 rfl _ fz1 (fun base0_ => ?_)
 refine Ai <| rA rfl fun b2 => rz rfl <| A_sc [(some 5, false)] (conG prog [(5, fun _ _ v_ L_ U_ => ∀ u0_, Cf N m.2.2.2.2.2.2.2.1 = some u0_ → (p1 (fun s_ => s_) 5 encY u0_) v_ L_ U_)]) <| rm 2 [0] rfl <| kB hM fun r4 hr5 hM => AP (Ls := [[(b2, 35, (Ag m mv))]]) (fun s6 => s6) 5 encY r4 115 _ rfl rfl rfl (cF Yg) (fun o w z_ => GG N m.2.2.2.2.2.2.2.1 _ hr5 z_.view mv.2.2.2.2.2.2.1 (RdN.mono z_.ro_cell hm.2.2.2.2.2.2.1)) (Ao hr5) (fun s6 S7 H8 => ?_)
 refine rz rfl ?_
 cases hM
 refine Au (fun hn => AG (v0 := s6) H8 (Aw (Sub.pick [[(b2, 35, (Ag m mv))], S7] [1] rfl)) rfl (AV rfl))
def FF (N : Nat) (m : AN) : Option (List UInt8) := (Cf N m.2.2.2.2.2.2.2.2.1).bind fun r4 => some r4
theorem MK (N m r) (hM : FF N m = some r) (ro) (mv : AH) (hm : Bun35R ro mv m) : Does prog 117 #[vA (Ag m mv)] ro [] (p1 (fun s_ => s_) 5 encY r) := by
 unfold FF at hM
 refine Ac follows func117 rfl 6 rfl _ fz1 (fun base0_ => ?_)
 refine Ai <| rA rfl fun b2 => rz rfl <| A_sc [(some 5, false)] (conG prog [(5, fun _ _ v_ L_ U_ => ∀ u0_, Cf N m.2.2.2.2.2.2.2.2.1 = some u0_ → (p1 (fun s_ => s_) 5 encY u0_) v_ L_ U_)]) <| rm 2 [0] rfl <| kB hM fun r4 hr5 hM => AP (Ls := [[(b2, 35, (Ag m mv))]]) (fun s6 => s6) 5 encY r4 115 _ rfl rfl rfl (cF Yg) (fun o w z_ => GG N m.2.2.2.2.2.2.2.2.1 _ hr5 z_.view mv.2.2.2.2.2.2.2.1 (RdN.mono z_.ro_cell hm.2.2.2.2.2.2.2.1)) (Ao hr5) (fun s6 S7 H8 => ?_)
 refine rz rfl ?_
 cases hM
 refine Au (fun hn => AG (v0 := s6) H8 (Aw (Sub.pick [[(b2, 35, (Ag m mv))], S7] [1] rfl)) rfl (AV rfl))
end Go.Proofs.YthafnifhhblkbaaGreatDoor
