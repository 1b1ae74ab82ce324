import Derived.Test.YthafnifhhblkbaaGreatDoorBh
set_option linter.unusedSimpArgs false
set_option linter.unusedVariables false
namespace Go.Proofs.YthafnifhhblkbaaGreatDoor
open Go Go.RowKit Go.Eng _root_.Go.Proofs.Tryz
set_option maxRecDepth 100000
set_option maxHeartbeats 8000000
abbrev Jn (b : Nat) (x0 : Int) (x1 : Int) : List Bl := [(b, 133, #[vI x0, vI x1])]
abbrev DT (b : Nat) (x0 : List UInt8) (x1 : Int) (x2 : Int) : List Bl := [(b, 100, #[vS x0, vI x1, vI x2])]
abbrev DS (b : Nat) (x0 : List UInt8) (x1 : Int) : List Bl := [(b, 102, #[vS x0, vI x1])]
abbrev Dv (b : Nat) (x0 : List UInt8) (x1 : Int) (x2 : Int) (x3 : Int) : List Bl := [(b, 104, #[vS x0, vI x1, vI x2, vI x3])]
abbrev Cn (b : Nat) (x0 : List UInt8) (x1 : Value) (x2 : Value) (x3 : Value) (x4 : Value) (x5 : Value) (x6 : Value) (x7 : Value) (x8 : Value) (x9 : Value) (x10 : Value) (x11 : Value) (x12 : Value) (x13 : Value) (x14 : Value) (x15 : Int) (x16 : Int) (x17 : Int) : List Bl := [(b, 35, #[vS x0, x1, x2, x3, x4, x5, x6, x7, x8, x9, x10, x11, x12, x13, x14, vI x15, vI x16, vI x17])]
def FE (N : Nat) (m : AN) : Option (List UInt8) := (CE N ([]) m.2.2.2.2.2.2.2.2.2.1).bind fun r4 => some r4
theorem MJ (N m r) (hM : FE N m = some r) (ro) (mv : AH) (hm : Bun35R ro mv m) : Does prog 118 #[vA (Ag m mv)] ro [] (p1 (fun s_ => s_) 5 encY r) := by
 unfold FE at hM
 refine Ac follows func118 rfl 6 rfl _ fz1 (fun base0_ => ?_)
 refine Ai <| rA rfl fun b2 => rz rfl <| A_sc [(some 5, false)] (conG prog [(5, fun _ _ v_ L_ U_ => ∀ u0_, CE N ([]) m.2.2.2.2.2.2.2.2.2.1 = some u0_ → (p1 (fun s_ => s_) 5 encY u0_) v_ L_ U_)]) <| rm 2 [0] rfl <| kB hM fun r4 hr5 hM => AP (Ls := [[(b2, 35, (Ag m mv))]]) (fun s6 => s6) 5 encY r4 119 _ rfl rfl rfl (cF SS) (fun o w z_ => JW N ([]) m.2.2.2.2.2.2.2.2.2.1 _ hr5 z_.view nS ((fun _ _ _ => .inl ⟨rfl, rfl⟩) o w z_) mv.2.2.2.2.2.2.2.2.1 ((AA hm.2.2.2.2.2.2.2.2.1) o w z_)) (Ao hr5) (fun s6 S7 H8 => ?_)
 refine rz rfl ?_
 cases hM
 refine Au (fun hn => AG (v0 := s6) H8 (Aw (Sub.pick [[(b2, 35, (Ag m mv))], S7] [1] rfl)) rfl (AV rfl))
def GV (N : Nat) (x_0 : Int) (x_1 : Int) : Option (List UInt8) := (Ae N ([x_0, x_1])).bind fun r7 => some r7
theorem Qz (N x_0 x_1 r) (hM : GV N x_0 x_1 = some r) (ro : Ro) : Does prog 122 #[vA #[vI x_0, vI x_1]] ro [] (p1 (fun s_ => s_) 5 encY r) := by
 unfold GV at hM
 refine Ac follows func122 rfl 9 rfl _ fz1 (fun base0_ => ?_)
 refine Ai <| rA rfl fun b2 => rz rfl <| A_sc [(some 7, false), (some 8, false)] (conG prog [(8, fun _ _ v_ L_ U_ => ∀ u0_, Ae N ([x_0, x_1]) = some u0_ → (p1 (fun s_ => s_) 5 encY u0_) v_ L_ U_)]) <| rm 4 [0, 0] rfl <| BF (Ls := [(Jn b2 x_0 x_1)]) 3 Bf [x_0, x_1] [vI x_0, vI x_1] [vI 0, vI 0] rfl rfl rfl rfl rfl rfl rfl (by kernel_rfl) (by kernel_rfl) rfl rfl rfl (fun s4 S5 H6 => ?_)
 refine kB hM fun r7 hr8 hM => AP (Ls := [(Jn b2 x_0 x_1), S5]) (fun s9 => s9) 5 encY r7 83 _ rfl rfl rfl (cF BI) (fun o w z_ => Ay N ([x_0, x_1]) _ hr8 z_.view s4 ((Ap H6 (Ad (Ls := [(Jn b2 x_0 x_1), S5]) (k := 1) rfl rfl)) o w z_)) (Ao hr8) (fun s9 S10 H11 => ?_)
 refine rz rfl ?_
 cases hM
 refine Au (fun hn => AG (v0 := s9) H11 (Aw (Sub.pick [(Jn b2 x_0 x_1), S5, S10] [2] rfl)) rfl (AV rfl))
def CG (N : Nat) (l' : List (Int × Int)) : Nat → List UInt8 → Int → Option (List UInt8)
  | 0, _, _ => none
  | n13 + 1, b1_, x2_ => if x2_ < (l'.length : Int) then ck (0 ≤ x2_ ∧ x2_ < (l'.length : Int)) ((GV N ((l'[x2_.toNat]!).1) ((l'[x2_.toNat]!).2)).bind fun r21 => ck ((b1_).length + (r21).length ≤ 140737488355328) (ck (-9223372036854775808 ≤ (x2_ + 1) ∧ (x2_ + 1) ≤ 9223372036854775807) ((CG N l' n13) (b1_ ++ r21) (x2_ + 1)))) else some b1_
def Cq (N : Nat) (l' : List (Int × Int)) : Option (List UInt8) := (Ae N ([(l'.length : Int)])).bind fun r6 => CG N l' N r6 0
theorem Hs (N l' r) (hM : Cq N l' = some r) (ro l'v) (hl' : Rd JR ro l'v l') : Does prog 121 #[l'v, vF 122 #[] #[]] ro [] (p1 (fun s_ => s_) 5 encY r) := by
 unfold Cq at hM
 refine Ac follows func121 rfl 25 rfl _ fz2 (fun base0_ => ?_)
 refine AZ rfl <| A_sc [(some 10, false), (some 11, false)] (conG prog [(11, fun _ _ v_ L_ U_ => ∀ u0_, Ae N ([(l'.length : Int)]) = some u0_ → (p1 (fun s_ => s_) 5 encY u0_) v_ L_ U_)]) <| rn 1 rfl <| rL (Rd.shp hl') rfl <| BF (Ls := []) 3 Bf [(l'.length : Int)] [vI (l'.length : Int)] [vI 0] rfl rfl rfl rfl rfl rfl rfl (by kernel_rfl) (by kernel_rfl) rfl rfl rfl (fun s3 S4 H5 => ?_)
 refine kB hM fun r6 hr7 hM => AP (Ls := [S4]) (fun s8 => s8) 5 encY r6 83 _ rfl rfl rfl (cF BI) (fun o w z_ => Ay N ([(l'.length : Int)]) _ hr7 z_.view s3 ((Ap H5 (Ad (Ls := [S4]) (k := 0) rfl rfl)) o w z_)) (Ao hr7) (fun s8 S9 H10 => ?_)
 refine rz rfl <| Aa fun K11 hK11 => Ai <| rn 1 rfl <| rL (Rd.shp hl') rfl <| rz rfl <| Aj <| Be _ (Sub.pick [S4, S9] [1] rfl) <| AU (fun tt ll nn => ∃ (n13 : Nat) (b1_ : List UInt8) (x2_ : Int), (CG N l' n13 b1_ x2_ = some r) ∧ ∃ (vb1_ : Value) (Sb1_ : List Bl), Sl 5 encY vb1_ b1_ Sb1_ ∧ Is [(1, vF 122 #[] #[]), (5, vb1_), (12, l'v), (13, vI (l'.length : Int)), (14, vI x2_)] (List.flatten [Sb1_]) tt ll ∧ nn = n13 + 1) (N + 1) ?_ ?_
 ·exact ⟨N, r6, 0, hM, s8, S9, H10, Ak rfl rfl, rfl⟩
 clear hM; rintro t l _ ⟨n13, b1_, x2_, hM, vb1_, Sb1_, hb1_, ⟨⟨T, rfl⟩, rfl⟩, rfl⟩
 rcases n13 with _ | n13
 ·exact absurd hM (by simp [CG])
 rw [CG] at hM
 refine AZ rfl <| Aa fun K15 hK15 => aD hM rfl (fun hc16 hM => ?_) (fun hc16 hM => ?_)
 ·refine Af <| hK15 _ _ ?_
  refine Aa fun K17 hK17 => Aj <| Ai <| kC hM fun ck19 hM => rI (Rd.shp hl') ck19 rfl <| rE (AA hl') ck19 0 rfl <| rA rfl fun b20 => ry [0] rfl <| A_regC [(some 21, false), (some 22, true)] (conG prog [(21, fun _ _ v_ L_ U_ => ∀ u0_, GV N ((l'[x2_.toNat]!).1) ((l'[x2_.toNat]!).2) = some u0_ → (p1 (fun s_ => s_) 5 encY u0_) v_ L_ U_)]) <| rm 3 [0] rfl <| kB hM fun r21 hr22 hM => AP (Ls := [(Jn b20 ((l'[x2_.toNat]!).1) ((l'[x2_.toNat]!).2)), Sb1_]) (fun s23 => s23) 5 encY r21 122 _ rfl rfl rfl (AO (caps := []) rfl gJ rfl) (fun o w z_ => Qz N ((l'[x2_.toNat]!).1) ((l'[x2_.toNat]!).2) _ hr22 z_.view ) (Ao hr22) (fun s23 S24 H25 => ?_)
  refine kC hM fun ck26 hM => Dg (Ls := [(Jn b20 ((l'[x2_.toNat]!).1) ((l'[x2_.toNat]!).2)), Sb1_, S24]) 1 (En := encY) rfl rfl rfl rfl rfl hb1_ rfl (Ap H25 (Ad (Ls := [(Jn b20 ((l'[x2_.toNat]!).1) ((l'[x2_.toNat]!).2)), Sb1_, S24]) (k := 2) rfl rfl)) rfl rfl rfl rfl rfl (Dk ck26 rfl) (Dj ck26 rfl) rfl (fun s27 S28 H29 => ?_)
  refine rz rfl <| hK17 _ _ ?_
  refine Ar <| kC hM fun ck30 hM => rX ck30 rfl <| rz rfl <| fg _ (Sub.pick [(Jn b20 ((l'[x2_.toNat]!).1) ((l'[x2_.toNat]!).2)), S28, S24] [1] rfl) ?_
  exact ⟨n13 + 1, by omega, n13, (b1_ ++ r21), (x2_ + 1), hM, s27, S28, H29, Ak rfl rfl, rfl⟩
 refine AS <| hK11 _ _ ?_
 refine AZ rfl ?_
 cases hM
 refine Au (fun hn => AG (v0 := vb1_) hb1_ (Aw (Sub.pick [Sb1_] [0] rfl)) rfl (AV rfl))
def Fo (N : Nat) (m : AN) : Option (List UInt8) := (Cq N m.2.2.2.2.2.2.2.2.2.2.1).bind fun r4 => some r4
theorem MA (N m r) (hM : Fo N m = some r) (ro) (mv : AH) (hm : Bun35R ro mv m) : Does prog 120 #[vA (Ag m mv)] ro [] (p1 (fun s_ => s_) 5 encY r) := by
 unfold Fo at hM
 refine Ac follows func120 rfl 6 rfl _ fz1 (fun base0_ => ?_)
 refine Ai <| rA rfl fun b2 => rz rfl <| A_sc [(some 5, false)] (conG prog [(5, fun _ _ v_ L_ U_ => ∀ u0_, Cq N m.2.2.2.2.2.2.2.2.2.2.1 = some u0_ → (p1 (fun s_ => s_) 5 encY u0_) v_ L_ U_)]) <| rm 2 [0] rfl <| kB hM fun r4 hr5 hM => AP (Ls := [[(b2, 35, (Ag m mv))]]) (fun s6 => s6) 5 encY r4 121 _ rfl rfl rfl (cF Yf) (fun o w z_ => Hs N m.2.2.2.2.2.2.2.2.2.2.1 _ hr5 z_.view mv.2.2.2.2.2.2.2.2.2.1 ((AA hm.2.2.2.2.2.2.2.2.2.1) o w z_)) (Ao hr5) (fun s6 S7 H8 => ?_)
 refine rz rfl ?_
 cases hM
 refine Au (fun hn => AG (v0 := s6) H8 (Aw (Sub.pick [[(b2, 35, (Ag m mv))], S7] [1] rfl)) rfl (AV rfl))
def Fm (N : Nat) (m : AN) : Option (List UInt8) := (Cq N m.2.2.2.2.2.2.2.2.2.2.2.1).bind fun r4 => some r4
theorem Mz (N m r) (hM : Fm N m = some r) (ro) (mv : AH) (hm : Bun35R ro mv m) : Does prog 123 #[vA (Ag m mv)] ro [] (p1 (fun s_ => s_) 5 encY r) := by
 unfold Fm at hM
 refine Ac follows func123 rfl 6 rfl _ fz1 (fun base0_ => ?_)
 refine Ai <| rA rfl fun b2 => rz rfl <| A_sc [(some 5, false)] (conG prog [(5, fun _ _ v_ L_ U_ => ∀ u0_, Cq N m.2.2.2.2.2.2.2.2.2.2.2.1 = some u0_ → (p1 (fun s_ => s_) 5 encY u0_) v_ L_ U_)]) <| rm 2 [0] rfl <| kB hM fun r4 hr5 hM => AP (Ls := [[(b2, 35, (Ag m mv))]]) (fun s6 => s6) 5 encY r4 121 _ rfl rfl rfl (cF Yf) (fun o w z_ => Hs N m.2.2.2.2.2.2.2.2.2.2.2.1 _ hr5 z_.view mv.2.2.2.2.2.2.2.2.2.2.1 ((AA hm.2.2.2.2.2.2.2.2.2.2.1) o w z_)) (Ao hr5) (fun s6 S7 H8 => ?_)
 refine rz rfl ?_
 cases hM
 refine Au (fun hn => AG (v0 := s6) H8 (Aw (Sub.pick [[(b2, 35, (Ag m mv))], S7] [1] rfl)) rfl (AV rfl))
def Ma (N : Nat) (x_0 : List UInt8) (x_1 : Int) (x_2 : Int) : Option (List UInt8) := (Ae N ([x_1, x_2])).bind fun r7 => (Bs N x_0 ([r7])).bind fun r18 => some r18
theorem YD (N x_0 x_1 x_2 r) (hM : Ma N x_0 x_1 x_2 = some r) (ro : Ro) : Does prog 126 #[vA #[vS x_0, vI x_1, vI x_2]] ro [] (p1 (fun s_ => s_) 5 encY r) := by
 unfold Ma at hM
 refine Ac follows func126 rfl 13 rfl _ fz1 (fun base0_ => ?_)
 refine Ai <| rA rfl fun b2 => rz rfl <| Aa fun K3 hK3 => BA [(some 9, false), (some 10, false), (some 11, false), (some 12, false)] (conG prog [(10, fun _ _ v_ L_ U_ => ∀ u0_, Ae N ([x_1, x_2]) = some u0_ → (p1 (fun s_ => s_) 5 encY u0_) v_ L_ U_), (12, fun _ _ v_ L_ U_ => ∀ u0_, Ae N ([x_1, x_2]) = some u0_ → ∀ u1_, Bs N x_0 ([u0_]) = some u1_ → (p1 (fun s_ => s_) 5 encY u1_) v_ L_ U_)]) [] (by decide +kernel) (fun hn => Ba) <| rm 6 [0, 0, 0] rfl ?_
 refine BF (Ls := [(DT b2 x_0 x_1 x_2)]) 3 Bf [x_1, x_2] [vI x_1, vI x_2] [vI 0, vI 0] rfl rfl rfl rfl rfl rfl rfl (by kernel_rfl) (by kernel_rfl) rfl rfl rfl (fun s4 S5 H6 => ?_)
 refine kB hM fun r7 hr8 hM => AP (Ls := [(DT b2 x_0 x_1 x_2), S5]) (fun s9 => s9) 5 encY r7 83 _ rfl rfl rfl (cF BI) (fun o w z_ => Ay N ([x_1, x_2]) _ hr8 z_.view s4 ((Ap H6 (Ad (Ls := [(DT b2 x_0 x_1 x_2), S5]) (k := 1) rfl rfl)) o w z_)) (Ao hr8) (fun s9 S10 H11 => ?_)
 have hR12 : ((AD 5 encY)).R r7 [s9] S10 := (by have h_ := (Bi (e := 5) (E := encY) H11); exact EncO.cast h_ (by first | rfl | simp only [List.nil_append, List.append_nil, List.append_assoc]))
 refine BF (Ls := [(DT b2 x_0 x_1 x_2), S5, S10]) 38 (EncO.raw (AD 5 encY)) [EncO.of (AD 5 encY) hR12] [s9] [nS] rfl rfl rfl rfl rfl rfl rfl (by kernel_rfl) ((CN _ _ _ _ (Bj (AI rfl (Sl.shp H11)) Ei)).trans (by kernel_rfl)) rfl rfl rfl (fun s13 S14 H15 => ?_)
 refine AX (Ls := [(DT b2 x_0 x_1 x_2), S5, S10, S14]) (Ls' := [(DT b2 x_0 x_1 x_2), S5, S14, S10]) [0, 1, 3, 2] rfl rfl <| Jl (Ls := [(DT b2 x_0 x_1 x_2), S5, S14, S10]) (Ls' := [(DT b2 x_0 x_1 x_2), S5, (S14 ++ S10)]) (by simp only [List.flatten_cons, List.flatten_nil, List.append_nil, List.append_assoc]) ?_
 refine Ee (Ls := [(DT b2 x_0 x_1 x_2), S5, (S14 ++ S10)]) (p := fun S_ => SlO 38 (AD 5 encY) s13 ([r7]) S_) 2 rfl (SlO.cast (⟨_, _, _, H15, (Items.one hR12), rfl⟩ : SlO 38 (AD 5 encY) s13 [r7] _) (by first | rfl | simp only [List.nil_append, List.append_nil, List.append_assoc])) (fun S16 H17 => ?_)
 refine kB hM fun r18 hr19 hM => AP (Ls := [(DT b2 x_0 x_1 x_2), S5, S16]) (fun s20 => s20) 5 encY r18 177 _ rfl rfl rfl (cF GQ) (fun o w z_ => DC N x_0 ([r7]) _ hr19 z_.view s13 ((fun o w z_ => RdN.map (E' := DH) (SlO.view H17 (CF (Ad (Ls := [(DT b2 x_0 x_1 x_2), S5, S16]) (k := 2) rfl rfl) o w z_)) rfl (fun _ _ h_ => Dz h_)) o w z_)) (fun _ _ v_ L_ U_ => ⟨fun h_ => h_ _ hr8 _ hr19, fun h_ => by intro _ e_; cases Option.some.inj (e_.symm.trans hr8); intro _ e_; cases Option.some.inj (e_.symm.trans hr19); exact h_⟩) (fun s20 S21 H22 => ?_)
 refine rz rfl <| hK3 _ _ ?_
 cases hM
 refine Au (fun hn => AG (v0 := s20) H22 (Aw (Sub.pick [(DT b2 x_0 x_1 x_2), S5, S16, S21] [3] rfl)) rfl (AV rfl))
def CH (N : Nat) (l' : List (List UInt8 × Int × Int)) : Nat → List UInt8 → Int → Option (List UInt8)
  | 0, _, _ => none
  | n13 + 1, b1_, x2_ => if x2_ < (l'.length : Int) then ck (0 ≤ x2_ ∧ x2_ < (l'.length : Int)) ((Ma N ((l'[x2_.toNat]!).1) ((l'[x2_.toNat]!).2.1) ((l'[x2_.toNat]!).2.2)).bind fun r21 => ck ((b1_).length + (r21).length ≤ 140737488355328) (ck (-9223372036854775808 ≤ (x2_ + 1) ∧ (x2_ + 1) ≤ 9223372036854775807) ((CH N l' n13) (b1_ ++ r21) (x2_ + 1)))) else some b1_
def DL (N : Nat) (l' : List (List UInt8 × Int × Int)) : Option (List UInt8) := (Ae N ([(l'.length : Int)])).bind fun r6 => CH N l' N r6 0
theorem LG (N l' r) (hM : DL N l' = some r) (ro l'v) (hl' : Rd Lf ro l'v l') : Does prog 125 #[l'v, vF 126 #[] #[]] ro [] (p1 (fun s_ => s_) 5 encY r) := by
 unfold DL at hM
 refine Ac follows func125 rfl 25 rfl _ fz2 (fun base0_ => ?_)
 refine AZ rfl <| A_sc [(some 10, false), (some 11, false)] (conG prog [(11, fun _ _ v_ L_ U_ => ∀ u0_, Ae N ([(l'.length : Int)]) = some u0_ → (p1 (fun s_ => s_) 5 encY u0_) v_ L_ U_)]) <| rn 1 rfl <| rL (Rd.shp hl') rfl <| BF (Ls := []) 3 Bf [(l'.length : Int)] [vI (l'.length : Int)] [vI 0] rfl rfl rfl rfl rfl rfl rfl (by kernel_rfl) (by kernel_rfl) rfl rfl rfl (fun s3 S4 H5 => ?_)
 refine kB hM fun r6 hr7 hM => AP (Ls := [S4]) (fun s8 => s8) 5 encY r6 83 _ rfl rfl rfl (cF BI) (fun o w z_ => Ay N ([(l'.length : Int)]) _ hr7 z_.view s3 ((Ap H5 (Ad (Ls := [S4]) (k := 0) rfl rfl)) o w z_)) (Ao hr7) (fun s8 S9 H10 => ?_)
 refine rz rfl <| Aa fun K11 hK11 => Ai <| rn 1 rfl <| rL (Rd.shp hl') rfl <| rz rfl <| Aj <| Be _ (Sub.pick [S4, S9] [1] rfl) <| AU (fun tt ll nn => ∃ (n13 : Nat) (b1_ : List UInt8) (x2_ : Int), (CH N l' n13 b1_ x2_ = some r) ∧ ∃ (vb1_ : Value) (Sb1_ : List Bl), Sl 5 encY vb1_ b1_ Sb1_ ∧ Is [(1, vF 126 #[] #[]), (5, vb1_), (12, l'v), (13, vI (l'.length : Int)), (14, vI x2_)] (List.flatten [Sb1_]) tt ll ∧ nn = n13 + 1) (N + 1) ?_ ?_
 ·exact ⟨N, r6, 0, hM, s8, S9, H10, Ak rfl rfl, rfl⟩
 clear hM; rintro t l _ ⟨n13, b1_, x2_, hM, vb1_, Sb1_, hb1_, ⟨⟨T, rfl⟩, rfl⟩, rfl⟩
 rcases n13 with _ | n13
 ·exact absurd hM (by simp [CH])
 rw [CH] at hM
 refine AZ rfl <| Aa fun K15 hK15 => aD hM rfl (fun hc16 hM => ?_) (fun hc16 hM => ?_)
 ·refine Af <| hK15 _ _ ?_
  refine Aa fun K17 hK17 => Aj <| Ai <| kC hM fun ck19 hM => rI (Rd.shp hl') ck19 rfl <| rE (AA hl') ck19 0 rfl <| rA rfl fun b20 => ry [0] rfl <| A_regC [(some 21, false), (some 22, true)] (conG prog [(21, fun _ _ v_ L_ U_ => ∀ u0_, Ma N ((l'[x2_.toNat]!).1) ((l'[x2_.toNat]!).2.1) ((l'[x2_.toNat]!).2.2) = some u0_ → (p1 (fun s_ => s_) 5 encY u0_) v_ L_ U_)]) <| rn 2 rfl ?_
  refine rm 1 [0] rfl <| kB hM fun r21 hr22 hM => AP (Ls := [(DT b20 ((l'[x2_.toNat]!).1) ((l'[x2_.toNat]!).2.1) ((l'[x2_.toNat]!).2.2)), Sb1_]) (fun s23 => s23) 5 encY r21 126 _ rfl rfl rfl (AO (caps := []) rfl gF rfl) (fun o w z_ => YD N ((l'[x2_.toNat]!).1) ((l'[x2_.toNat]!).2.1) ((l'[x2_.toNat]!).2.2) _ hr22 z_.view ) (Ao hr22) (fun s23 S24 H25 => ?_)
  refine kC hM fun ck26 hM => Dg (Ls := [(DT b20 ((l'[x2_.toNat]!).1) ((l'[x2_.toNat]!).2.1) ((l'[x2_.toNat]!).2.2)), Sb1_, S24]) 1 (En := encY) rfl rfl rfl rfl rfl hb1_ rfl (Ap H25 (Ad (Ls := [(DT b20 ((l'[x2_.toNat]!).1) ((l'[x2_.toNat]!).2.1) ((l'[x2_.toNat]!).2.2)), Sb1_, S24]) (k := 2) rfl rfl)) rfl rfl rfl rfl rfl (Dk ck26 rfl) (Dj ck26 rfl) rfl (fun s27 S28 H29 => ?_)
  refine rz rfl <| hK17 _ _ ?_
  refine Ar <| kC hM fun ck30 hM => rX ck30 rfl <| rz rfl <| fg _ (Sub.pick [(DT b20 ((l'[x2_.toNat]!).1) ((l'[x2_.toNat]!).2.1) ((l'[x2_.toNat]!).2.2)), S28, S24] [1] rfl) ?_
  exact ⟨n13 + 1, by omega, n13, (b1_ ++ r21), (x2_ + 1), hM, s27, S28, H29, Ak rfl rfl, rfl⟩
 refine AS <| hK11 _ _ ?_
 refine AZ rfl ?_
 cases hM
 refine Au (fun hn => AG (v0 := vb1_) hb1_ (Aw (Sub.pick [Sb1_] [0] rfl)) rfl (AV rfl))
def Fl (N : Nat) (m : AN) : Option (List UInt8) := (DL N m.2.2.2.2.2.2.2.2.2.2.2.2.1).bind fun r4 => some r4
theorem My (N m r) (hM : Fl N m = some r) (ro) (mv : AH) (hm : Bun35R ro mv m) : Does prog 124 #[vA (Ag m mv)] ro [] (p1 (fun s_ => s_) 5 encY r) := by
 unfold Fl at hM
 refine Ac follows func124 rfl 6 rfl _ fz1 (fun base0_ => ?_)
 refine Ai <| rA rfl fun b2 => rz rfl <| A_sc [(some 5, false)] (conG prog [(5, fun _ _ v_ L_ U_ => ∀ u0_, DL N m.2.2.2.2.2.2.2.2.2.2.2.2.1 = some u0_ → (p1 (fun s_ => s_) 5 encY u0_) v_ L_ U_)]) <| rm 2 [0] rfl <| kB hM fun r4 hr5 hM => AP (Ls := [[(b2, 35, (Ag m mv))]]) (fun s6 => s6) 5 encY r4 125 _ rfl rfl rfl (cF gG) (fun o w z_ => LG N m.2.2.2.2.2.2.2.2.2.2.2.2.1 _ hr5 z_.view mv.2.2.2.2.2.2.2.2.2.2.2.1 ((AA hm.2.2.2.2.2.2.2.2.2.2.2.1) o w z_)) (Ao hr5) (fun s6 S7 H8 => ?_)
 refine rz rfl ?_
 cases hM
 refine Au (fun hn => AG (v0 := s6) H8 (Aw (Sub.pick [[(b2, 35, (Ag m mv))], S7] [1] rfl)) rfl (AV rfl))
def HH (N : Nat) (x_0 : List UInt8) (x_1 : Int) : Option (List UInt8) := (Ae N ([x_1])).bind fun r7 => (Bs N x_0 ([r7])).bind fun r18 => some r18
theorem Ry (N x_0 x_1 r) (hM : HH N x_0 x_1 = some r) (ro : Ro) : Does prog 129 #[vA #[vS x_0, vI x_1]] ro [] (p1 (fun s_ => s_) 5 encY r) := by
 unfold HH at hM
 refine Ac follows func129 rfl 11 rfl _ fz1 (fun base0_ => ?_)
 refine Ai <| rA rfl fun b2 => rz rfl <| Aa fun K3 hK3 => BA [(some 7, false), (some 8, false), (some 9, false), (some 10, false)] (conG prog [(8, fun _ _ v_ L_ U_ => ∀ u0_, Ae N ([x_1]) = some u0_ → (p1 (fun s_ => s_) 5 encY u0_) v_ L_ U_), (10, fun _ _ v_ L_ U_ => ∀ u0_, Ae N ([x_1]) = some u0_ → ∀ u1_, Bs N x_0 ([u0_]) = some u1_ → (p1 (fun s_ => s_) 5 encY u1_) v_ L_ U_)]) [] (by decide +kernel) (fun hn => Ba) <| rm 4 [0, 0] rfl ?_
 refine BF (Ls := [(DS b2 x_0 x_1)]) 3 Bf [x_1] [vI x_1] [vI 0] rfl rfl rfl rfl rfl rfl rfl (by kernel_rfl) (by kernel_rfl) rfl rfl rfl (fun s4 S5 H6 => ?_)
 refine kB hM fun r7 hr8 hM => AP (Ls := [(DS b2 x_0 x_1), S5]) (fun s9 => s9) 5 encY r7 83 _ rfl rfl rfl (cF BI) (fun o w z_ => Ay N ([x_1]) _ hr8 z_.view s4 ((Ap H6 (Ad (Ls := [(DS b2 x_0 x_1), S5]) (k := 1) rfl rfl)) o w z_)) (Ao hr8) (fun s9 S10 H11 => ?_)
 have hR12 : ((AD 5 encY)).R r7 [s9] S10 := (by have h_ := (Bi (e := 5) (E := encY) H11); exact EncO.cast h_ (by first | rfl | simp only [List.nil_append, List.append_nil, List.append_assoc]))
 refine BF (Ls := [(DS b2 x_0 x_1), S5, S10]) 38 (EncO.raw (AD 5 encY)) [EncO.of (AD 5 encY) hR12] [s9] [nS] rfl rfl rfl rfl rfl rfl rfl (by kernel_rfl) ((CN _ _ _ _ (Bj (AI rfl (Sl.shp H11)) Ei)).trans (by kernel_rfl)) rfl rfl rfl (fun s13 S14 H15 => ?_)
 refine AX (Ls := [(DS b2 x_0 x_1), S5, S10, S14]) (Ls' := [(DS b2 x_0 x_1), S5, S14, S10]) [0, 1, 3, 2] rfl rfl <| Jl (Ls := [(DS b2 x_0 x_1), S5, S14, S10]) (Ls' := [(DS b2 x_0 x_1), S5, (S14 ++ S10)]) (by simp only [List.flatten_cons, List.flatten_nil, List.append_nil, List.append_assoc]) <| Ee (Ls := [(DS b2 x_0 x_1), S5, (S14 ++ S10)]) (p := fun S_ => SlO 38 (AD 5 encY) s13 ([r7]) S_) 2 rfl (SlO.cast (⟨_, _, _, H15, (Items.one hR12), rfl⟩ : SlO 38 (AD 5 encY) s13 [r7] _) (by first | rfl | simp only [List.nil_append, List.append_nil, List.append_assoc])) (fun S16 H17 => ?_)
 refine kB hM fun r18 hr19 hM => AP (Ls := [(DS b2 x_0 x_1), S5, S16]) (fun s20 => s20) 5 encY r18 177 _ rfl rfl rfl (cF GQ) (fun o w z_ => DC N x_0 ([r7]) _ hr19 z_.view s13 ((fun o w z_ => RdN.map (E' := DH) (SlO.view H17 (CF (Ad (Ls := [(DS b2 x_0 x_1), S5, S16]) (k := 2) rfl rfl) o w z_)) rfl (fun _ _ h_ => Dz h_)) o w z_)) (fun _ _ v_ L_ U_ => ⟨fun h_ => h_ _ hr8 _ hr19, fun h_ => by intro _ e_; cases Option.some.inj (e_.symm.trans hr8); intro _ e_; cases Option.some.inj (e_.symm.trans hr19); exact h_⟩) (fun s20 S21 H22 => ?_)
 refine rz rfl <| hK3 _ _ ?_
 cases hM
 refine Au (fun hn => AG (v0 := s20) H22 (Aw (Sub.pick [(DS b2 x_0 x_1), S5, S16, S21] [3] rfl)) rfl (AV rfl))
def Cc (N : Nat) (l' : List (List UInt8 × Int)) : Nat → List UInt8 → Int → Option (List UInt8)
  | 0, _, _ => none
  | n13 + 1, b1_, x2_ => if x2_ < (l'.length : Int) then ck (0 ≤ x2_ ∧ x2_ < (l'.length : Int)) ((HH N ((l'[x2_.toNat]!).1) ((l'[x2_.toNat]!).2)).bind fun r21 => ck ((b1_).length + (r21).length ≤ 140737488355328) (ck (-9223372036854775808 ≤ (x2_ + 1) ∧ (x2_ + 1) ≤ 9223372036854775807) ((Cc N l' n13) (b1_ ++ r21) (x2_ + 1)))) else some b1_
def CX (N : Nat) (l' : List (List UInt8 × Int)) : Option (List UInt8) := (Ae N ([(l'.length : Int)])).bind fun r6 => Cc N l' N r6 0
theorem JH (N l' r) (hM : CX N l' = some r) (ro l'v) (hl' : Rd Le ro l'v l') : Does prog 128 #[l'v, vF 129 #[] #[]] ro [] (p1 (fun s_ => s_) 5 encY r) := by
 unfold CX at hM
 refine Ac follows func128 rfl 25 rfl _ fz2 (fun base0_ => ?_)
 refine AZ rfl <| A_sc [(some 10, false), (some 11, false)] (conG prog [(11, fun _ _ v_ L_ U_ => ∀ u0_, Ae N ([(l'.length : Int)]) = some u0_ → (p1 (fun s_ => s_) 5 encY u0_) v_ L_ U_)]) <| rn 1 rfl <| rL (Rd.shp hl') rfl <| BF (Ls := []) 3 Bf [(l'.length : Int)] [vI (l'.length : Int)] [vI 0] rfl rfl rfl rfl rfl rfl rfl (by kernel_rfl) (by kernel_rfl) rfl rfl rfl (fun s3 S4 H5 => ?_)
 refine kB hM fun r6 hr7 hM => AP (Ls := [S4]) (fun s8 => s8) 5 encY r6 83 _ rfl rfl rfl (cF BI) (fun o w z_ => Ay N ([(l'.length : Int)]) _ hr7 z_.view s3 ((Ap H5 (Ad (Ls := [S4]) (k := 0) rfl rfl)) o w z_)) (Ao hr7) (fun s8 S9 H10 => ?_)
 refine rz rfl <| Aa fun K11 hK11 => Ai <| rn 1 rfl <| rL (Rd.shp hl') rfl <| rz rfl <| Aj <| Be _ (Sub.pick [S4, S9] [1] rfl) <| AU (fun tt ll nn => ∃ (n13 : Nat) (b1_ : List UInt8) (x2_ : Int), (Cc N l' n13 b1_ x2_ = some r) ∧ ∃ (vb1_ : Value) (Sb1_ : List Bl), Sl 5 encY vb1_ b1_ Sb1_ ∧ Is [(1, vF 129 #[] #[]), (5, vb1_), (12, l'v), (13, vI (l'.length : Int)), (14, vI x2_)] (List.flatten [Sb1_]) tt ll ∧ nn = n13 + 1) (N + 1) ?_ ?_
 ·exact ⟨N, r6, 0, hM, s8, S9, H10, Ak rfl rfl, rfl⟩
 clear hM; rintro t l _ ⟨n13, b1_, x2_, hM, vb1_, Sb1_, hb1_, ⟨⟨T, rfl⟩, rfl⟩, rfl⟩
 rcases n13 with _ | n13
 ·exact absurd hM (by simp [Cc])
 rw [Cc] at hM
 refine AZ rfl <| Aa fun K15 hK15 => aD hM rfl (fun hc16 hM => ?_) (fun hc16 hM => ?_)
 ·refine Af <| hK15 _ _ ?_
  refine Aa fun K17 hK17 => Aj <| Ai <| kC hM fun ck19 hM => rI (Rd.shp hl') ck19 rfl <| rE (AA hl') ck19 0 rfl <| rA rfl fun b20 => ry [0] rfl <| A_regC [(some 21, false), (some 22, true)] (conG prog [(21, fun _ _ v_ L_ U_ => ∀ u0_, HH N ((l'[x2_.toNat]!).1) ((l'[x2_.toNat]!).2) = some u0_ → (p1 (fun s_ => s_) 5 encY u0_) v_ L_ U_)]) <| rm 3 [0] rfl <| kB hM fun r21 hr22 hM => AP (Ls := [(DS b20 ((l'[x2_.toNat]!).1) ((l'[x2_.toNat]!).2)), Sb1_]) (fun s23 => s23) 5 encY r21 129 _ rfl rfl rfl (AO (caps := []) rfl gC rfl) (fun o w z_ => Ry N ((l'[x2_.toNat]!).1) ((l'[x2_.toNat]!).2) _ hr22 z_.view ) (Ao hr22) (fun s23 S24 H25 => ?_)
  refine kC hM fun ck26 hM => Dg (Ls := [(DS b20 ((l'[x2_.toNat]!).1) ((l'[x2_.toNat]!).2)), Sb1_, S24]) 1 (En := encY) rfl rfl rfl rfl rfl hb1_ rfl (Ap H25 (Ad (Ls := [(DS b20 ((l'[x2_.toNat]!).1) ((l'[x2_.toNat]!).2)), Sb1_, S24]) (k := 2) rfl rfl)) rfl rfl rfl rfl rfl (Dk ck26 rfl) (Dj ck26 rfl) rfl (fun s27 S28 H29 => ?_)
  refine rz rfl <| hK17 _ _ ?_
  refine Ar <| kC hM fun ck30 hM => rX ck30 rfl <| rz rfl <| fg _ (Sub.pick [(DS b20 ((l'[x2_.toNat]!).1) ((l'[x2_.toNat]!).2)), S28, S24] [1] rfl) ?_
  exact ⟨n13 + 1, by omega, n13, (b1_ ++ r21), (x2_ + 1), hM, s27, S28, H29, Ak rfl rfl, rfl⟩
 refine AS <| hK11 _ _ ?_
 refine AZ rfl ?_
 cases hM
 refine Au (fun hn => AG (v0 := vb1_) hb1_ (Aw (Sub.pick [Sb1_] [0] rfl)) rfl (AV rfl))
def Fk (N : Nat) (m : AN) : Option (List UInt8) := (CX N m.2.2.2.2.2.2.2.2.2.2.2.2.2.1).bind fun r4 => some r4
theorem Mx (N m r) (hM : Fk N m = some r) (ro) (mv : AH) (hm : Bun35R ro mv m) : Does prog 127 #[vA (Ag m mv)] ro [] (p1 (fun s_ => s_) 5 encY r) := by
 unfold Fk at hM
 refine Ac follows func127 rfl 6 rfl _ fz1 (fun base0_ => ?_)
 refine Ai <| rA rfl fun b2 => rz rfl <| A_sc [(some 5, false)] (conG prog [(5, fun _ _ v_ L_ U_ => ∀ u0_, CX N m.2.2.2.2.2.2.2.2.2.2.2.2.2.1 = some u0_ → (p1 (fun s_ => s_) 5 encY u0_) v_ L_ U_)]) <| rm 2 [0] rfl <| kB hM fun r4 hr5 hM => AP (Ls := [[(b2, 35, (Ag m mv))]]) (fun s6 => s6) 5 encY r4 128 _ rfl rfl rfl (cF gD) (fun o w z_ => JH N m.2.2.2.2.2.2.2.2.2.2.2.2.2.1 _ hr5 z_.view mv.2.2.2.2.2.2.2.2.2.2.2.2.1 ((AA hm.2.2.2.2.2.2.2.2.2.2.2.2.1) o w z_)) (Ao hr5) (fun s6 S7 H8 => ?_)
 refine rz rfl ?_
 cases hM
 refine Au (fun hn => AG (v0 := s6) H8 (Aw (Sub.pick [[(b2, 35, (Ag m mv))], S7] [1] rfl)) rfl (AV rfl))
def Je (N : Nat) (b : List UInt8) (n : Int) : Option (List UInt8) := (Av N b).bind fun r3 => (Ax N r3 n 4).bind fun r11 => some r11
theorem Wi (N b n r) (hM : Je N b n = some r) (ro bv) (hb : Rd encY ro bv b) : Does prog 84 #[bv, vI n] ro [] (p1 (fun s_ => s_) 5 encY r) := by
 unfold Je at hM
 refine Ac follows func84 rfl 9 rfl _ fz2 (fun base0_ => ?_)
 refine AZ rfl <| A_sc [(some 6, false), (some 8, true)] (conG prog [(6, fun _ _ v_ L_ U_ => ∀ u0_, Av N b = some u0_ → (p1 (fun s_ => s_) 5 encY u0_) v_ L_ U_), (8, fun a_ _ v_ L_ U_ => ∀ u0_, Av N b = some u0_ → ∀ u1_, Ax N u0_ n 4 = some u1_ → (pN (List.flatten [Nk (Li a_ 1)]) (oS 5 encY u1_ fun s_0 => (oE s_0 []))) v_ L_ U_)]) <| rn 1 rfl <| kB hM fun r3 hr4 hM => AP (Ls := []) (fun s5 => s5) 5 encY r3 165 _ rfl rfl rfl (cF KA) (fun o w z_ => BZ N b _ hr4 z_.view bv (z_.r hb)) (Ao hr4) (fun s5 S6 H7 => ?_)
 refine rn 1 rfl <| Ki (Ls := [S6]) trivial 0 rfl H7 (fun S8 H9 hn10 => ?_)
 refine kB hM fun r11 hr12 hM => Qf (Ls := [S8]) (FL := [S8]) (RL := []) [0] (oS 5 encY r11 fun s_0 => (oE s_0 [])) (some 8) 164 _ (pc := fun a_ => pN (List.flatten [Nk (Li a_ 1)]) (oS 5 encY r11 fun s_0 => (oE s_0 []))) rfl rfl rfl rfl rfl (cF Fe) (fun o w hn_ z_ => BL N r3 n 4 _ hr12 _ s5 S8 H9) (fun _ _ v_ L_ U_ => ⟨fun h_ => h_ _ hr4 _ hr12, fun h_ => by intro _ e_; cases Option.some.inj (e_.symm.trans hr4); intro _ e_; cases Option.some.inj (e_.symm.trans hr12); exact h_⟩) (fun _ _ _ => Oc (nmF (nmC hn10 nmN))) (fun h_ => nomatch h_) ?_
 rintro s13 _ ⟨_, S14, _, H15, ⟨rfl, rfl⟩, rfl⟩
 refine AX (Ls := [S14]) (Ls' := [S14]) [0] rfl rfl <| rz rfl ?_
 cases hM
 refine Au (fun hn => AG (v0 := s13) H15 (Aw (Sub.pick [S14] [0] rfl)) rfl (AV rfl))
def JG (N : Nat) (x_0 : List UInt8) (x_1 : Int) (x_2 : Int) (x_3 : Int) : Option (List UInt8) := (Ae N ([x_1])).bind fun r7 => (Da N ([]) x_2).bind fun r12 => (Je N ([]) x_3).bind fun r17 => (Bs N x_0 ([r7, r12, r17])).bind fun r30 => some r30
theorem UX (N x_0 x_1 x_2 x_3 r) (hM : JG N x_0 x_1 x_2 x_3 = some r) (ro : Ro) : Does prog 132 #[vA #[vS x_0, vI x_1, vI x_2, vI x_3]] ro [] (p1 (fun s_ => s_) 5 encY r) := by
 unfold JG at hM
 refine Ac follows func132 rfl 17 rfl _ fz1 (fun base0_ => ?_)
 refine Ai <| rA rfl fun b2 => rz rfl <| Aa fun K3 hK3 => ?_
 refine BA [(some 7, false), (some 8, false), (some 11, false), (some 14, false), (some 15, false), (some 16, false)] (conG prog [(8, fun _ _ v_ L_ U_ => ∀ u0_, Ae N ([x_1]) = some u0_ → (p1 (fun s_ => s_) 5 encY u0_) v_ L_ U_), (11, fun _ _ v_ L_ U_ => ∀ u0_, Da N ([]) x_2 = some u0_ → (p1 (fun s_ => s_) 5 encY u0_) v_ L_ U_), (14, fun _ _ v_ L_ U_ => ∀ u0_, Je N ([]) x_3 = some u0_ → (p1 (fun s_ => s_) 5 encY u0_) v_ L_ U_), (16, fun _ _ v_ L_ U_ => ∀ u0_, Ae N ([x_1]) = some u0_ → ∀ u1_, Da N ([]) x_2 = some u1_ → ∀ u2_, Je N ([]) x_3 = some u2_ → ∀ u3_, Bs N x_0 ([u0_, u1_, u2_]) = some u3_ → (p1 (fun s_ => s_) 5 encY u3_) v_ L_ U_)]) [] (by decide +kernel) (fun hn => Ba) ?_
 refine rm 4 [0, 0] rfl ?_
 refine BF (Ls := [(Dv b2 x_0 x_1 x_2 x_3)]) 3 Bf [x_1] [vI x_1] [vI 0] rfl rfl rfl rfl rfl rfl rfl (by kernel_rfl) (by kernel_rfl) rfl rfl rfl (fun s4 S5 H6 => ?_)
 refine kB hM fun r7 hr8 hM => AP (Ls := [(Dv b2 x_0 x_1 x_2 x_3), S5]) (fun s9 => s9) 5 encY r7 83 _ rfl rfl rfl (cF BI) (fun o w z_ => Ay N ([x_1]) _ hr8 z_.view s4 ((Ap H6 (Ad (Ls := [(Dv b2 x_0 x_1 x_2 x_3), S5]) (k := 1) rfl rfl)) o w z_)) (Ao hr8) (fun s9 S10 H11 => ?_)
 refine rm 2 [0] rfl <| kB hM fun r12 hr13 hM => AP (Ls := [(Dv b2 x_0 x_1 x_2 x_3), S5, S10]) (fun s14 => s14) 5 encY r12 178 _ rfl rfl rfl (cF Pk) (fun o w z_ => LT N ([]) x_2 _ hr13 z_.view nS ((fun _ _ _ => .inl ⟨rfl, rfl⟩) o w z_)) (Ao hr13) (fun s14 S15 H16 => ?_)
 refine rm 2 [0] rfl <| kB hM fun r17 hr18 hM => AP (Ls := [(Dv b2 x_0 x_1 x_2 x_3), S5, S10, S15]) (fun s19 => s19) 5 encY r17 84 _ rfl rfl rfl (cF jt) (fun o w z_ => Wi N ([]) x_3 _ hr18 z_.view nS ((fun _ _ _ => .inl ⟨rfl, rfl⟩) o w z_)) (Ao hr18) (fun s19 S20 H21 => ?_)
 have hR22 : ((AD 5 encY)).R r7 [s9] S10 := (by have h_ := (Bi (e := 5) (E := encY) H11); exact EncO.cast h_ (by first | rfl | simp only [List.nil_append, List.append_nil, List.append_assoc]))
 have hR23 : ((AD 5 encY)).R r12 [s14] S15 := (by have h_ := (Bi (e := 5) (E := encY) H16); exact EncO.cast h_ (by first | rfl | simp only [List.nil_append, List.append_nil, List.append_assoc]))
 have hR24 : ((AD 5 encY)).R r17 [s19] S20 := (by have h_ := (Bi (e := 5) (E := encY) H21); exact EncO.cast h_ (by first | rfl | simp only [List.nil_append, List.append_nil, List.append_assoc]))
 refine BF (Ls := [(Dv b2 x_0 x_1 x_2 x_3), S5, S10, S15, S20]) 38 (EncO.raw (AD 5 encY)) [EncO.of (AD 5 encY) hR22, EncO.of (AD 5 encY) hR23, EncO.of (AD 5 encY) hR24] [s9, s14, s19] [nS, nS, nS] rfl rfl rfl rfl rfl rfl rfl (by kernel_rfl) ((CN _ _ _ _ (Bj (AI rfl (Sl.shp H11)) (Bj (AI rfl (Sl.shp H16)) (Bj (AI rfl (Sl.shp H21)) Ei)))).trans (by kernel_rfl)) rfl rfl rfl (fun s25 S26 H27 => ?_)
 refine AX (Ls := [(Dv b2 x_0 x_1 x_2 x_3), S5, S10, S15, S20, S26]) (Ls' := [(Dv b2 x_0 x_1 x_2 x_3), S5, S26, S10, S15, S20]) [0, 1, 5, 2, 3, 4] rfl rfl <| Jl (Ls := [(Dv b2 x_0 x_1 x_2 x_3), S5, S26, S10, S15, S20]) (Ls' := [(Dv b2 x_0 x_1 x_2 x_3), S5, (S26 ++ (S10 ++ (S15 ++ S20)))]) (by simp only [List.flatten_cons, List.flatten_nil, List.append_nil, List.append_assoc]) ?_
 refine Ee (Ls := [(Dv b2 x_0 x_1 x_2 x_3), S5, (S26 ++ (S10 ++ (S15 ++ S20)))]) (p := fun S_ => SlO 38 (AD 5 encY) s25 ([r7, r12, r17]) S_) 2 rfl (SlO.cast (⟨_, _, _, H27, (Items.append (Items.one hR22) (Items.append (Items.one hR23) (Items.one hR24))), rfl⟩ : SlO 38 (AD 5 encY) s25 [r7, r12, r17] _) (by first | rfl | simp only [List.nil_append, List.append_nil, List.append_assoc])) (fun S28 H29 => ?_)
 refine kB hM fun r30 hr31 hM => AP (Ls := [(Dv b2 x_0 x_1 x_2 x_3), S5, S28]) (fun s32 => s32) 5 encY r30 177 _ rfl rfl rfl (cF GQ) (fun o w z_ => DC N x_0 ([r7, r12, r17]) _ hr31 z_.view s25 ((fun o w z_ => RdN.map (E' := DH) (SlO.view H29 (CF (Ad (Ls := [(Dv b2 x_0 x_1 x_2 x_3), S5, S28]) (k := 2) rfl rfl) o w z_)) rfl (fun _ _ h_ => Dz h_)) o w z_)) (fun _ _ v_ L_ U_ => ⟨fun h_ => h_ _ hr8 _ hr13 _ hr18 _ hr31, fun h_ => by intro _ e_; cases Option.some.inj (e_.symm.trans hr8); intro _ e_; cases Option.some.inj (e_.symm.trans hr13); intro _ e_; cases Option.some.inj (e_.symm.trans hr18); intro _ e_; cases Option.some.inj (e_.symm.trans hr31); exact h_⟩) (fun s32 S33 H34 => ?_)
 refine rz rfl <| hK3 _ _ ?_
 cases hM
 refine Au (fun hn => AG (v0 := s32) H34 (Aw (Sub.pick [(Dv b2 x_0 x_1 x_2 x_3), S5, S28, S33] [3] rfl)) rfl (AV rfl))
def Cv (N : Nat) (l' : List (List UInt8 × Int × Int × Int)) : Nat → List UInt8 → Int → Option (List UInt8)
  | 0, _, _ => none
  | n13 + 1, b1_, x2_ => if x2_ < (l'.length : Int) then ck (0 ≤ x2_ ∧ x2_ < (l'.length : Int)) ((JG N ((l'[x2_.toNat]!).1) ((l'[x2_.toNat]!).2.1) ((l'[x2_.toNat]!).2.2.1) ((l'[x2_.toNat]!).2.2.2)).bind fun r21 => ck ((b1_).length + (r21).length ≤ 140737488355328) (ck (-9223372036854775808 ≤ (x2_ + 1) ∧ (x2_ + 1) ≤ 9223372036854775807) ((Cv N l' n13) (b1_ ++ r21) (x2_ + 1)))) else some b1_
def Dr (N : Nat) (l' : List (List UInt8 × Int × Int × Int)) : Option (List UInt8) := (Ae N ([(l'.length : Int)])).bind fun r6 => Cv N l' N r6 0
theorem KF (N l' r) (hM : Dr N l' = some r) (ro l'v) (hl' : Rd Ld ro l'v l') : Does prog 131 #[l'v, vF 132 #[] #[]] ro [] (p1 (fun s_ => s_) 5 encY r) := by
 unfold Dr at hM
 refine Ac follows func131 rfl 25 rfl _ fz2 (fun base0_ => ?_)
 refine AZ rfl <| A_sc [(some 10, false), (some 11, false)] (conG prog [(11, fun _ _ v_ L_ U_ => ∀ u0_, Ae N ([(l'.length : Int)]) = some u0_ → (p1 (fun s_ => s_) 5 encY u0_) v_ L_ U_)]) <| rn 1 rfl <| rL (Rd.shp hl') rfl <| BF (Ls := []) 3 Bf [(l'.length : Int)] [vI (l'.length : Int)] [vI 0] rfl rfl rfl rfl rfl rfl rfl (by kernel_rfl) (by kernel_rfl) rfl rfl rfl (fun s3 S4 H5 => ?_)
 refine kB hM fun r6 hr7 hM => AP (Ls := [S4]) (fun s8 => s8) 5 encY r6 83 _ rfl rfl rfl (cF BI) (fun o w z_ => Ay N ([(l'.length : Int)]) _ hr7 z_.view s3 ((Ap H5 (Ad (Ls := [S4]) (k := 0) rfl rfl)) o w z_)) (Ao hr7) (fun s8 S9 H10 => ?_)
 refine rz rfl <| Aa fun K11 hK11 => Ai <| rn 1 rfl <| rL (Rd.shp hl') rfl <| rz rfl <| Aj <| Be _ (Sub.pick [S4, S9] [1] rfl) <| AU (fun tt ll nn => ∃ (n13 : Nat) (b1_ : List UInt8) (x2_ : Int), (Cv N l' n13 b1_ x2_ = some r) ∧ ∃ (vb1_ : Value) (Sb1_ : List Bl), Sl 5 encY vb1_ b1_ Sb1_ ∧ Is [(1, vF 132 #[] #[]), (5, vb1_), (12, l'v), (13, vI (l'.length : Int)), (14, vI x2_)] (List.flatten [Sb1_]) tt ll ∧ nn = n13 + 1) (N + 1) ?_ ?_
 ·exact ⟨N, r6, 0, hM, s8, S9, H10, Ak rfl rfl, rfl⟩
 clear hM; rintro t l _ ⟨n13, b1_, x2_, hM, vb1_, Sb1_, hb1_, ⟨⟨T, rfl⟩, rfl⟩, rfl⟩
 rcases n13 with _ | n13
 ·exact absurd hM (by simp [Cv])
 rw [Cv] at hM
 refine AZ rfl <| Aa fun K15 hK15 => aD hM rfl (fun hc16 hM => ?_) (fun hc16 hM => ?_)
 ·refine Af <| hK15 _ _ ?_
  refine Aa fun K17 hK17 => Aj <| Ai <| kC hM fun ck19 hM => rI (Rd.shp hl') ck19 rfl <| rE (AA hl') ck19 0 rfl <| rA rfl fun b20 => ry [0] rfl <| A_regC [(some 21, false), (some 22, true)] (conG prog [(21, fun _ _ v_ L_ U_ => ∀ u0_, JG N ((l'[x2_.toNat]!).1) ((l'[x2_.toNat]!).2.1) ((l'[x2_.toNat]!).2.2.1) ((l'[x2_.toNat]!).2.2.2) = some u0_ → (p1 (fun s_ => s_) 5 encY u0_) v_ L_ U_)]) ?_
  refine rm 3 [0] rfl <| kB hM fun r21 hr22 hM => AP (Ls := [(Dv b20 ((l'[x2_.toNat]!).1) ((l'[x2_.toNat]!).2.1) ((l'[x2_.toNat]!).2.2.1) ((l'[x2_.toNat]!).2.2.2)), Sb1_]) (fun s23 => s23) 5 encY r21 132 _ rfl rfl rfl (AO (caps := []) rfl gz rfl) (fun o w z_ => UX N ((l'[x2_.toNat]!).1) ((l'[x2_.toNat]!).2.1) ((l'[x2_.toNat]!).2.2.1) ((l'[x2_.toNat]!).2.2.2) _ hr22 z_.view ) (Ao hr22) (fun s23 S24 H25 => ?_)
  refine kC hM fun ck26 hM => Dg (Ls := [(Dv b20 ((l'[x2_.toNat]!).1) ((l'[x2_.toNat]!).2.1) ((l'[x2_.toNat]!).2.2.1) ((l'[x2_.toNat]!).2.2.2)), Sb1_, S24]) 1 (En := encY) rfl rfl rfl rfl rfl hb1_ rfl (Ap H25 (Ad (Ls := [(Dv b20 ((l'[x2_.toNat]!).1) ((l'[x2_.toNat]!).2.1) ((l'[x2_.toNat]!).2.2.1) ((l'[x2_.toNat]!).2.2.2)), Sb1_, S24]) (k := 2) rfl rfl)) rfl rfl rfl rfl rfl (Dk ck26 rfl) (Dj ck26 rfl) rfl (fun s27 S28 H29 => ?_)
  refine rz rfl <| hK17 _ _ ?_
  refine Ar <| kC hM fun ck30 hM => rX ck30 rfl <| rz rfl <| fg _ (Sub.pick [(Dv b20 ((l'[x2_.toNat]!).1) ((l'[x2_.toNat]!).2.1) ((l'[x2_.toNat]!).2.2.1) ((l'[x2_.toNat]!).2.2.2)), S28, S24] [1] rfl) ?_
  exact ⟨n13 + 1, by omega, n13, (b1_ ++ r21), (x2_ + 1), hM, s27, S28, H29, Ak rfl rfl, rfl⟩
 refine AS <| hK11 _ _ ?_
 refine AZ rfl ?_
 cases hM
 refine Au (fun hn => AG (v0 := vb1_) hb1_ (Aw (Sub.pick [Sb1_] [0] rfl)) rfl (AV rfl))
def Fj (N : Nat) (m : AN) : Option (List UInt8) := (Dr N m.2.2.2.2.2.2.2.2.2.2.2.2.2.2.1).bind fun r4 => some r4
theorem Mw (N m r) (hM : Fj N m = some r) (ro) (mv : AH) (hm : Bun35R ro mv m) : Does prog 130 #[vA (Ag m mv)] ro [] (p1 (fun s_ => s_) 5 encY r) := by
 unfold Fj at hM
 refine Ac follows func130 rfl 6 rfl _ fz1 (fun base0_ => ?_)
 refine Ai <| rA rfl fun b2 => rz rfl <| A_sc [(some 5, false)] (conG prog [(5, fun _ _ v_ L_ U_ => ∀ u0_, Dr N m.2.2.2.2.2.2.2.2.2.2.2.2.2.2.1 = some u0_ → (p1 (fun s_ => s_) 5 encY u0_) v_ L_ U_)]) <| rm 2 [0] rfl <| kB hM fun r4 hr5 hM => AP (Ls := [[(b2, 35, (Ag m mv))]]) (fun s6 => s6) 5 encY r4 131 _ rfl rfl rfl (cF gA) (fun o w z_ => KF N m.2.2.2.2.2.2.2.2.2.2.2.2.2.2.1 _ hr5 z_.view mv.2.2.2.2.2.2.2.2.2.2.2.2.2 ((AA hm.2.2.2.2.2.2.2.2.2.2.2.2.2) o w z_)) (Ao hr5) (fun s6 S7 H8 => ?_)
 refine rz rfl ?_
 cases hM
 refine Au (fun hn => AG (v0 := s6) H8 (Aw (Sub.pick [[(b2, 35, (Ag m mv))], S7] [1] rfl)) rfl (AV rfl))
def Hm (N : Nat) (m : AN) (part : Int) : Option ((List UInt8) × Int) := ck (0 ≤ part ∧ part < (15 : Int)) (if part = 0 then (Kh N m).bind fun r12 => some (r12, 0) else if part = 1 then (FN N m).bind fun r18 => some (r18, 0) else if part = 2 then (FM N m).bind fun r24 => some (r24, 0) else if part = 3 then (FK N m).bind fun r30 => some (r30, 0) else if part = 4 then (FJ N m).bind fun r36 => some (r36, 0) else if part = 5 then (FI N m).bind fun r42 => some (r42, 0) else if part = 6 then (FH N m).bind fun r48 => some (r48, 0) else if part = 7 then (FG N m).bind fun r54 => some (r54, 0) else if part = 8 then (FF N m).bind fun r60 => some (r60, 0) else if part = 9 then (FE N m).bind fun r66 => some (r66, 0) else if part = 10 then (Fo N m).bind fun r72 => some (r72, 0) else if part = 11 then (Fm N m).bind fun r78 => some (r78, 0) else if part = 12 then (Fl N m).bind fun r84 => some (r84, 0) else if part = 13 then (Fk N m).bind fun r90 => some (r90, 0) else (Fj N m).bind fun r96 => some (r96, 0))
def Fs (N : Nat) (m : AN) (part : Int) : Option ((List UInt8) × Int) := (Jv N ).bind fun r4 => (Fq N m).bind fun r102 => if r102 = true then some ([], 1) else if part < 0 then some ([], 5) else if part ≥ 15 then some ([], 5) else Hm N m part 
theorem OH (N m part r) (hM : Fs N m part = some r) (ro) (mv : AH) (hm : Bun35R ro mv m) : DoesI prog 13 #[vA (Ag m mv), vI part] Ej ro [] (p1 (fun s_ => vT #[s_, vI r.2]) 5 encY r.1) := by
 unfold Fs at hM
 refine AQ follows func13 rfl 26 rfl _ fz2 AW (fun base0_ => ?_)
 refine Ai <| rA rfl fun b2 => rz rfl <| A_sc [(some 7, false)] (conG prog [(7, fun _ _ v_ L_ U_ => (p1 (fun s_ => s_) 45 NQ EE) v_ L_ U_)]) <| kB hM fun r4 hr5 hM => AP (Ls := [[(b2, 35, (Ag m mv))]]) (fun s6 => s6) 45 NQ EE 28 _ rfl rfl rfl (cF jw) (fun o w z_ => (Does.inv (Qy N  _ hr5 z_.view ) _)) (fun _ _ _ _ _ => Iff.rfl) (fun s6 S7 H8 => ?_)
 refine rz rfl <| Cr (fun tt ll => (Hm N m part  = some r) ∧ Is [(1, vI part), (2, vP b2 0), (6, s6)] (List.flatten [[(b2, 35, (Ag m mv))], S7]) tt ll) ?_ ?_
 ·refine Aj <| A_sc [(some 10, false)] (conG prog [(10, cV (Fq N m) fun u0_ => vB u0_)]) <| rm 1 [0] rfl <| kB hM fun r102 hr103 hM => rg _ (cF jy) (fun o w z_ => OE N m _ hr103 z_.view mv (Bun35R.mono z_.ro_cell hm)) (Ao hr103) <| rz rfl <| aB hM rfl (fun hc104 hM => ?_) (fun hc104 hM => ?_)
  ·refine AZ rfl ?_
   cases hM
   refine Au (fun hn => AG (v0 := vT #[nS, vI 1]) Sl.nil (Sub.nil _) rfl (JF rfl rfl))
  refine Aa fun K106 hK106 => Ar <| rn 3 rfl ?_
  rcases hg107 : (decide (part < 0)) with _ | _
  ·replace hM := iF hg107 hM
   refine rn 2 rfl <| r_y rfl <| r_W (vI 15) rfl (Sx (n := 15) rfl rfl rfl (Sl.shp H8)) <| rz rfl <| hK106 _ _ ?_
   refine aD hM rfl (fun hc108 hM => ?_) (fun hc108 hM => ?_)
   ·refine AZ rfl ?_
    cases hM
    refine Au (fun hn => AG (v0 := vT #[nS, vI 5]) Sl.nil (Sub.nil _) rfl (JF rfl rfl))
   refine Af <| fg _ (Sub.pick [[(b2, 35, (Ag m mv))], S7] [0, 1] rfl) ?_
   exact ⟨hM, Ak rfl rfl⟩
  replace hM := iD hg107 hM
  refine rz rfl <| hK106 _ _ ?_
  refine AB true rfl (fun _ => ?_) (fun h_ => nomatch h_)
  refine AZ rfl ?_
  cases hM
  refine Au (fun hn => AG (v0 := vT #[nS, vI 5]) Sl.nil (Sub.nil _) rfl (JF rfl rfl))
 clear hM; rintro t l ⟨hM, ⟨T, rfl⟩, rfl⟩
 unfold Hm at hM
 refine kC hM fun ck10 hM => ?_
 obtain ⟨f, i, q, hcb, hi, hfr, hdo, hr⟩ : ∃ f i q, Ah prog f = true ∧ part = ((i : Nat) : Int) ∧ EE[i]? = some ⟨vF f #[] #[], rfl⟩ ∧ (∀ c : Ro, (∀ a v, ro a = some v → c a = some v) → DoesI prog f #[vA (Ag m mv)] Ej c [] (p1 (fun s_ => s_) 5 encY q)) ∧ (q, (0 : Int)) = r := by
  rcases Decidable.em (part = 0) with h | h
  · replace hM := ifp h hM; obtain ⟨q, hq, hM⟩ := BG hM; exact ⟨95, 0, q, jr, h, rfl, fun c hc => Does.inv (Rx N m _ hq c mv (Bun35R.mono hc hm)) _, Option.some.inj hM⟩
  replace hM := ifn h hM
  rcases Decidable.em (part = 1) with h | h
  · replace hM := ifp h hM; obtain ⟨q, hq, hM⟩ := BG hM; exact ⟨96, 1, q, jq, h, rfl, fun c hc => Does.inv (MR N m _ hq c mv (Bun35R.mono hc hm)) _, Option.some.inj hM⟩
  replace hM := ifn h hM
  rcases Decidable.em (part = 2) with h | h
  · replace hM := ifp h hM; obtain ⟨q, hq, hM⟩ := BG hM; exact ⟨99, 2, q, jn, h, rfl, fun c hc => Does.inv (MQ N m _ hq c mv (Bun35R.mono hc hm)) _, Option.some.inj hM⟩
  replace hM := ifn h hM
  rcases Decidable.em (part = 3) with h | h
  · replace hM := ifp h hM; obtain ⟨q, hq, hM⟩ := BG hM; exact ⟨102, 3, q, gZ, h, rfl, fun c hc => Does.inv (MP N m _ hq c mv (Bun35R.mono hc hm)) _, Option.some.inj hM⟩
  replace hM := ifn h hM
  rcases Decidable.em (part = 4) with h | h
  · replace hM := ifp h hM; obtain ⟨q, hq, hM⟩ := BG hM; exact ⟨105, 4, q, gX, h, rfl, fun c hc => Does.inv (MO N m _ hq c mv (Bun35R.mono hc hm)) _, Option.some.inj hM⟩
  replace hM := ifn h hM
  rcases Decidable.em (part = 5) with h | h
  · replace hM := ifp h hM; obtain ⟨q, hq, hM⟩ := BG hM; exact ⟨108, 5, q, gU, h, rfl, fun c hc => Does.inv (MN N m _ hq c mv (Bun35R.mono hc hm)) _, Option.some.inj hM⟩
  replace hM := ifn h hM
  rcases Decidable.em (part = 6) with h | h
  · replace hM := ifp h hM; obtain ⟨q, hq, hM⟩ := BG hM; exact ⟨111, 6, q, gR, h, rfl, fun c hc => Does.inv (MM N m _ hq c mv (Bun35R.mono hc hm)) _, Option.some.inj hM⟩
  replace hM := ifn h hM
  rcases Decidable.em (part = 7) with h | h
  · replace hM := ifp h hM; obtain ⟨q, hq, hM⟩ := BG hM; exact ⟨114, 7, q, gO, h, rfl, fun c hc => Does.inv (ML N m _ hq c mv (Bun35R.mono hc hm)) _, Option.some.inj hM⟩
  replace hM := ifn h hM
  rcases Decidable.em (part = 8) with h | h
  · replace hM := ifp h hM; obtain ⟨q, hq, hM⟩ := BG hM; exact ⟨117, 8, q, gM, h, rfl, fun c hc => Does.inv (MK N m _ hq c mv (Bun35R.mono hc hm)) _, Option.some.inj hM⟩
  replace hM := ifn h hM
  rcases Decidable.em (part = 9) with h | h
  · replace hM := ifp h hM; obtain ⟨q, hq, hM⟩ := BG hM; exact ⟨118, 9, q, gL, h, rfl, fun c hc => Does.inv (MJ N m _ hq c mv (Bun35R.mono hc hm)) _, Option.some.inj hM⟩
  replace hM := ifn h hM
  rcases Decidable.em (part = 10) with h | h
  · replace hM := ifp h hM; obtain ⟨q, hq, hM⟩ := BG hM; exact ⟨120, 10, q, gK, h, rfl, fun c hc => Does.inv (MA N m _ hq c mv (Bun35R.mono hc hm)) _, Option.some.inj hM⟩
  replace hM := ifn h hM
  rcases Decidable.em (part = 11) with h | h
  · replace hM := ifp h hM; obtain ⟨q, hq, hM⟩ := BG hM; exact ⟨123, 11, q, gI, h, rfl, fun c hc => Does.inv (Mz N m _ hq c mv (Bun35R.mono hc hm)) _, Option.some.inj hM⟩
  replace hM := ifn h hM
  rcases Decidable.em (part = 12) with h | h
  · replace hM := ifp h hM; obtain ⟨q, hq, hM⟩ := BG hM; exact ⟨124, 12, q, gH, h, rfl, fun c hc => Does.inv (My N m _ hq c mv (Bun35R.mono hc hm)) _, Option.some.inj hM⟩
  replace hM := ifn h hM
  rcases Decidable.em (part = 13) with h | h
  · replace hM := ifp h hM; obtain ⟨q, hq, hM⟩ := BG hM; exact ⟨127, 13, q, gE, h, rfl, fun c hc => Does.inv (Mx N m _ hq c mv (Bun35R.mono hc hm)) _, Option.some.inj hM⟩
  replace hM := ifn h hM
  obtain ⟨q, hq, hM⟩ := BG hM; exact ⟨130, 14, q, gB, (by omega), rfl, fun c hc => Does.inv (Mw N m _ hq c mv (Bun35R.mono hc hm)) _, Option.some.inj hM⟩
 subst hr
 refine Aa fun K9 hK9 => BA [(some 25, false)] (conG prog [(25, fun _ _ v_ L_ U_ => (p1 (fun s_ => s_) 5 encY q) v_ L_ U_)]) [] (by decide +kernel) (fun hn => Ba) <| rn 2 rfl ?_
 refine rI (Sl.shp H8) (jV (n := 15) rfl ck10) rfl <| iA (vF f #[] #[]) (En := NQ) (⟨vF f #[] #[], rfl⟩) (part.toNat) 0 rfl rfl (Ap H8 (Ad (Ls := [[(b2, 35, (Ag m mv))], S7]) (k := 1) rfl rfl)) (jW (i := i) hi hfr) rfl <| rm 1 [0] rfl <| AP (Ls := [[(b2, 35, (Ag m mv))], S7]) (fun s14 => s14) 5 encY q f _ rfl rfl rfl (AO (caps := []) rfl hcb rfl) (fun _ _ z_ => hdo _ z_.ro_cell) (fun _ _ _ _ _ => Iff.rfl) (fun s14 S15 H16 => rz rfl <| hK9 _ _ ?_)
 exact Au (fun hn => AG (v0 := vT #[s14, vI 0]) H16 (Aw (Sub.pick [[(b2, 35, (Ag m mv))], S7, S15] [2] rfl)) rfl (JF rfl rfl))
theorem aJ  {c : Addr → Option Value} {x} {vs : List Value} (h : (Lc).V c x vs) : (Hl).R c x vs := by obtain ⟨_, _, rfl, ⟨_, _, ⟨s0, rfl, h0⟩, ⟨_, _, rfl, ⟨_, _, rfl, ⟨_, _, rfl, rfl, rfl⟩, rfl⟩, rfl⟩, rfl⟩, rfl⟩ := h; exact ⟨s0, h0, rfl⟩
theorem aI  {c : Addr → Option Value} {x} {vs : List Value} (h : (Lb).V c x vs) : (Im).R c x vs := by obtain ⟨_, _, rfl, ⟨_, _, ⟨s0, rfl, h0⟩, ⟨_, _, ⟨s1, rfl, h1⟩, ⟨_, _, ⟨s2, rfl, h2⟩, rfl, rfl⟩, rfl⟩, rfl⟩, rfl⟩ := h; exact ⟨s0, s1, s2, h0, h1, h2, rfl⟩
theorem aH  {c : Addr → Option Value} {x} {vs : List Value} (h : (VQ).V c x vs) : (Hk).R c x vs := by obtain ⟨_, _, rfl, ⟨_, _, ⟨s0, rfl, h0⟩, ⟨s1, rfl, h1⟩, rfl⟩, rfl⟩ := h; exact ⟨s0, s1, h0, h1, rfl⟩
theorem aG  {c : Addr → Option Value} {x} {vs : List Value} (h : (VP).V c x vs) : (Il).R c x vs := by obtain ⟨_, _, rfl, ⟨_, _, rfl, ⟨_, _, ⟨s0, rfl, h0⟩, ⟨_, _, ⟨s1, rfl, h1⟩, ⟨_, _, rfl, ⟨_, _, ⟨s2, rfl, h2⟩, rfl, rfl⟩, rfl⟩, rfl⟩, rfl⟩, rfl⟩, rfl⟩ := h; exact ⟨s0, s1, s2, h0, h1, h2, rfl⟩
theorem SA  {c : Addr → Option Value} {x} {vs : List Value} (h : (Ng).V c x vs) : (Fc).R c x vs := by obtain ⟨_, _, rfl, ⟨_, _, rfl, ⟨_, _, ⟨s0, rfl, h0⟩, ⟨_, _, ⟨s1, rfl, h1⟩, ⟨_, _, rfl, rfl, rfl⟩, rfl⟩, rfl⟩, rfl⟩, rfl⟩ := h; exact ⟨s0, s1, h0, h1, rfl⟩
def BO (N : Nat) : Option Bool := (Er N ).bind fun r3 => (Fs N (r3.1, [(([104] : List UInt8), [(([97] : List UInt8), 8)], 0, 0, 0, 0)], [(([120] : List UInt8), 0, 0), (([121] : List UInt8), 0, 0)], r3.2.2.2.1, r3.2.2.2.2.1, r3.2.2.2.2.2.1, r3.2.2.2.2.2.2.1, r3.2.2.2.2.2.2.2.1, r3.2.2.2.2.2.2.2.2.1, [0, 1], r3.2.2.2.2.2.2.2.2.2.2.1, r3.2.2.2.2.2.2.2.2.2.2.2.1, r3.2.2.2.2.2.2.2.2.2.2.2.2.1, r3.2.2.2.2.2.2.2.2.2.2.2.2.2.1, r3.2.2.2.2.2.2.2.2.2.2.2.2.2.2.1, r3.2.2.2.2.2.2.2.2.2.2.2.2.2.2.2.1, r3.2.2.2.2.2.2.2.2.2.2.2.2.2.2.2.2.1, r3.2.2.2.2.2.2.2.2.2.2.2.2.2.2.2.2.2) 9).bind fun r67 => if r67.2 = 0 then some (r67.1 == ([2, 0, 1] : List UInt8)) else some false
theorem FA (N r) (hM : BO N = some r) (ro : Ro) : DoesI prog 8 #[] Ej ro [] (pV (vB r)) := by
 unfold BO at hM
 refine AQ follows func8 rfl 28 rfl _ fz0 AW (fun base0_ => ?_)
 refine AZ rfl ?_
 refine A_sc [(some 4, true)] (conG prog [(4, fun _ _ v_ L_ U_ => ∀ u0_, Er N  = some u0_ → (pO (List.flatten []) (oSO 68 Lc u0_.2.1 fun s_0 => (oS 70 IB u0_.2.2.1 fun s_1 => (oS 66 BQ u0_.2.2.2.1 fun s_2 => (oSO 85 Lb u0_.2.2.2.2.1 fun s_3 => (oSO 87 VQ u0_.2.2.2.2.2.1 fun s_4 => (oSO 94 VP u0_.2.2.2.2.2.2.1 fun s_5 => (oSO 128 Ng u0_.2.2.2.2.2.2.2.1 fun s_6 => (oSO 128 Ng u0_.2.2.2.2.2.2.2.2.1 fun s_7 => (oS 3 Bf u0_.2.2.2.2.2.2.2.2.2.1 fun s_8 => (oS 133 JR u0_.2.2.2.2.2.2.2.2.2.2.1 fun s_9 => (oS 133 JR u0_.2.2.2.2.2.2.2.2.2.2.2.1 fun s_10 => (oS 100 Lf u0_.2.2.2.2.2.2.2.2.2.2.2.2.1 fun s_11 => (oS 102 Le u0_.2.2.2.2.2.2.2.2.2.2.2.2.2.1 fun s_12 => (oS 104 Ld u0_.2.2.2.2.2.2.2.2.2.2.2.2.2.2.1 fun s_13 => (oE (vA #[vS u0_.1, s_0, s_1, s_2, s_3, s_4, s_5, s_6, s_7, s_8, s_9, s_10, s_11, s_12, s_13, vI u0_.2.2.2.2.2.2.2.2.2.2.2.2.2.2.2.1, vI u0_.2.2.2.2.2.2.2.2.2.2.2.2.2.2.2.2.1, vI u0_.2.2.2.2.2.2.2.2.2.2.2.2.2.2.2.2.2]) [])))))))))))))))) v_ L_ U_)]) <| kB hM fun r3 hr4 hM => Ju (Ls := []) (FL := []) [] _ (some 4) 21 _ rfl rfl rfl rfl rfl (cF jz) (fun o w hn_ z_ => (Does.inv (ME N  _ hr4 _ ) _)) (Ao hr4) (fun h_ => nomatch h_) ?_
 rintro _ _ ⟨s44, S45, _, H46, ⟨s41, S42, _, H43, ⟨s38, S39, _, H40, ⟨s35, S36, _, H37, ⟨s32, S33, _, H34, ⟨s29, S30, _, H31, ⟨s26, S27, _, H28, ⟨s23, S24, _, H25, ⟨s20, S21, _, H22, ⟨s17, S18, _, H19, ⟨s14, S15, _, H16, ⟨s11, S12, _, H13, ⟨s8, S9, _, H10, ⟨s5, S6, _, H7, ⟨rfl, rfl⟩, rfl⟩, rfl⟩, rfl⟩, rfl⟩, rfl⟩, rfl⟩, rfl⟩, rfl⟩, rfl⟩, rfl⟩, rfl⟩, rfl⟩, rfl⟩, rfl⟩
 refine AX (Ls := [S45, S42, S39, S36, S33, S30, S27, S24, S21, S18, S15, S12, S9, S6]) (Ls' := [S45, S42, S39, S36, S33, S30, S27, S24, S21, S18, S15, S12, S9, S6]) [0, 1, 2, 3, 4, 5, 6, 7, 8, 9, 10, 11, 12, 13] rfl rfl <| rA rfl fun b47 => r_s (List.flatten [(Cn b47 r3.1 s44 s41 s38 s35 s32 s29 s26 s23 s20 s17 s14 s11 s8 s5 r3.2.2.2.2.2.2.2.2.2.2.2.2.2.2.2.1 r3.2.2.2.2.2.2.2.2.2.2.2.2.2.2.2.2.1 r3.2.2.2.2.2.2.2.2.2.2.2.2.2.2.2.2.2), S45, S42, S39, S36, S33, S30, S27, S24, S21, S18, S15, S12, S9, S6]) 0 _ _ _ _ _ (#[vS r3.1, s44, s41, s38, s35, s32, s29, s26, s23, s20, s17, s14, s11, s8, s5, vI r3.2.2.2.2.2.2.2.2.2.2.2.2.2.2.2.1, vI r3.2.2.2.2.2.2.2.2.2.2.2.2.2.2.2.2.1, vI r3.2.2.2.2.2.2.2.2.2.2.2.2.2.2.2.2.2]) rfl rfl rfl rfl (.ofS rfl rfl (Ab rfl (Ab (Shp.one (SlO.shp H46)) (Ab (Shp.one (Sl.shp H43)) (Ab (Shp.one (Sl.shp H40)) (Ab (Shp.one (SlO.shp H37)) (Ab (Shp.one (SlO.shp H34)) (Ab (Shp.one (SlO.shp H31)) (Ab (Shp.one (SlO.shp H28)) (Ab (Shp.one (SlO.shp H25)) (Ab (Shp.one (Sl.shp H22)) (Ab (Shp.one (Sl.shp H19)) (Ab (Shp.one (Sl.shp H16)) (Ab (Shp.one (Sl.shp H13)) (Ab (Shp.one (Sl.shp H10)) (Ab (Shp.one (Sl.shp H7)) (Ab rfl (Ab rfl (Ab rfl Bh))))))))))))))))))) rfl rfl ?_
 refine As <| A_sc [(some 6, false), (some 8, false)] (conG prog []) <| r_W (vA #[Value.string (⟨#[97]⟩), vI 8]) rfl (An rfl rfl rfl rfl) <| BF (cs0 := []) (Ls := [(Cn b47 r3.1 s44 s41 s38 s35 s32 s29 s26 s23 s20 s17 s14 s11 s8 s5 r3.2.2.2.2.2.2.2.2.2.2.2.2.2.2.2.1 r3.2.2.2.2.2.2.2.2.2.2.2.2.2.2.2.2.1 r3.2.2.2.2.2.2.2.2.2.2.2.2.2.2.2.2.2), S45, S42, S39, S36, S33, S30, S27, S24, S21, S18, S15, S12, S9, S6]) 66 BQ [(([97] : List UInt8), 8)] [Value.string (⟨#[97]⟩), vI 8] [Value.string (⟨#[]⟩), vI 0] rfl rfl rfl rfl rfl rfl rfl (by kernel_rfl) (by kernel_rfl) rfl rfl rfl (fun s49 S50 H51 => ?_)
 refine r_W (vA #[Value.string (⟨#[104]⟩), s49, vI 0, vI 0, vI 0, vI 0]) rfl (Ol rfl rfl rfl (Bj rfl (Bj (AI rfl (Sl.shp H51)) Ei)) rfl) ?_
 have hR52 : (Lc).R (([104] : List UInt8), [(([97] : List UInt8), 8)], 0, 0, 0, 0) [Value.string (⟨#[104]⟩), s49, vI 0, vI 0, vI 0, vI 0] S50 := (by have h_ := (In (Ku (E := Bz) ([104] : List UInt8)) (In (Bi (e := 66) (E := BQ) H51) (In (Ku (E := Bf) 0) (In (Ku (E := Bf) 0) (In (Ku (E := Bf) 0) (Ku (E := Bf) 0)))))); exact EncO.cast h_ (by first | rfl | simp only [List.nil_append, List.append_nil, List.append_assoc]))
 refine BF (cs0 := []) (Ls := [(Cn b47 r3.1 s44 s41 s38 s35 s32 s29 s26 s23 s20 s17 s14 s11 s8 s5 r3.2.2.2.2.2.2.2.2.2.2.2.2.2.2.2.1 r3.2.2.2.2.2.2.2.2.2.2.2.2.2.2.2.2.1 r3.2.2.2.2.2.2.2.2.2.2.2.2.2.2.2.2.2), S45, S42, S39, S36, S33, S30, S27, S24, S21, S18, S15, S12, S9, S6, S50]) 68 (EncO.raw Lc) [EncO.of Lc hR52] [Value.string (⟨#[104]⟩), s49, vI 0, vI 0, vI 0, vI 0] [Value.string (⟨#[]⟩), nS, vI 0, vI 0, vI 0, vI 0] rfl rfl rfl rfl rfl rfl rfl (by kernel_rfl) ((CN _ _ _ _ (Bj rfl Ei)).trans (by kernel_rfl)) rfl rfl rfl (fun s53 S54 H55 => ?_)
 refine AX (Ls := [(Cn b47 r3.1 s44 s41 s38 s35 s32 s29 s26 s23 s20 s17 s14 s11 s8 s5 r3.2.2.2.2.2.2.2.2.2.2.2.2.2.2.2.1 r3.2.2.2.2.2.2.2.2.2.2.2.2.2.2.2.2.1 r3.2.2.2.2.2.2.2.2.2.2.2.2.2.2.2.2.2), S45, S42, S39, S36, S33, S30, S27, S24, S21, S18, S15, S12, S9, S6, S50, S54]) (Ls' := [(Cn b47 r3.1 s44 s41 s38 s35 s32 s29 s26 s23 s20 s17 s14 s11 s8 s5 r3.2.2.2.2.2.2.2.2.2.2.2.2.2.2.2.1 r3.2.2.2.2.2.2.2.2.2.2.2.2.2.2.2.2.1 r3.2.2.2.2.2.2.2.2.2.2.2.2.2.2.2.2.2), S45, S42, S39, S36, S33, S30, S27, S24, S21, S18, S15, S12, S9, S6, S54, S50]) [0, 1, 2, 3, 4, 5, 6, 7, 8, 9, 10, 11, 12, 13, 14, 16, 15] rfl rfl ?_
 refine Jl (Ls := [(Cn b47 r3.1 s44 s41 s38 s35 s32 s29 s26 s23 s20 s17 s14 s11 s8 s5 r3.2.2.2.2.2.2.2.2.2.2.2.2.2.2.2.1 r3.2.2.2.2.2.2.2.2.2.2.2.2.2.2.2.2.1 r3.2.2.2.2.2.2.2.2.2.2.2.2.2.2.2.2.2), S45, S42, S39, S36, S33, S30, S27, S24, S21, S18, S15, S12, S9, S6, S54, S50]) (Ls' := [(Cn b47 r3.1 s44 s41 s38 s35 s32 s29 s26 s23 s20 s17 s14 s11 s8 s5 r3.2.2.2.2.2.2.2.2.2.2.2.2.2.2.2.1 r3.2.2.2.2.2.2.2.2.2.2.2.2.2.2.2.2.1 r3.2.2.2.2.2.2.2.2.2.2.2.2.2.2.2.2.2), S45, S42, S39, S36, S33, S30, S27, S24, S21, S18, S15, S12, S9, S6, (S54 ++ S50)]) (by simp only [List.flatten_cons, List.flatten_nil, List.append_nil, List.append_assoc]) ?_
 refine Ee (Ls := [(Cn b47 r3.1 s44 s41 s38 s35 s32 s29 s26 s23 s20 s17 s14 s11 s8 s5 r3.2.2.2.2.2.2.2.2.2.2.2.2.2.2.2.1 r3.2.2.2.2.2.2.2.2.2.2.2.2.2.2.2.2.1 r3.2.2.2.2.2.2.2.2.2.2.2.2.2.2.2.2.2), S45, S42, S39, S36, S33, S30, S27, S24, S21, S18, S15, S12, S9, S6, (S54 ++ S50)]) (p := fun S_ => SlO 68 Lc s53 ([(([104] : List UInt8), [(([97] : List UInt8), 8)], 0, 0, 0, 0)]) S_) 15 rfl (SlO.cast (⟨_, _, _, H55, (Items.one hR52), rfl⟩ : SlO 68 Lc s53 [(([104] : List UInt8), [(([97] : List UInt8), 8)], 0, 0, 0, 0)] _) (by first | rfl | simp only [List.nil_append, List.append_nil, List.append_assoc])) (fun S56 H57 => ?_)
 refine rn 1 rfl <| r_s (List.flatten [(Cn b47 r3.1 s53 s41 s38 s35 s32 s29 s26 s23 s20 s17 s14 s11 s8 s5 r3.2.2.2.2.2.2.2.2.2.2.2.2.2.2.2.1 r3.2.2.2.2.2.2.2.2.2.2.2.2.2.2.2.2.1 r3.2.2.2.2.2.2.2.2.2.2.2.2.2.2.2.2.2), S45, S42, S39, S36, S33, S30, S27, S24, S21, S18, S15, S12, S9, S6, S56]) 0 _ _ _ _ _ (#[vS r3.1, s53, s41, s38, s35, s32, s29, s26, s23, s20, s17, s14, s11, s8, s5, vI r3.2.2.2.2.2.2.2.2.2.2.2.2.2.2.2.1, vI r3.2.2.2.2.2.2.2.2.2.2.2.2.2.2.2.2.1, vI r3.2.2.2.2.2.2.2.2.2.2.2.2.2.2.2.2.2]) rfl rfl rfl (AI rfl (SlO.shp H57)) (.ofS rfl rfl (Ab (Shp.one (SlO.shp H57)) Bh)) rfl rfl <| As ?_
 refine A_sc [(some 12, false)] (conG prog []) <| r_W (vA #[Value.string (⟨#[120]⟩), vI 0, vI 0]) rfl (An rfl rfl rfl rfl) <| r_W (vA #[Value.string (⟨#[121]⟩), vI 0, vI 0]) rfl (An rfl rfl rfl rfl) ?_
 refine BF (cs0 := []) (Ls := [(Cn b47 r3.1 s53 s41 s38 s35 s32 s29 s26 s23 s20 s17 s14 s11 s8 s5 r3.2.2.2.2.2.2.2.2.2.2.2.2.2.2.2.1 r3.2.2.2.2.2.2.2.2.2.2.2.2.2.2.2.2.1 r3.2.2.2.2.2.2.2.2.2.2.2.2.2.2.2.2.2), S45, S42, S39, S36, S33, S30, S27, S24, S21, S18, S15, S12, S9, S6, S56]) 70 IB [(([120] : List UInt8), 0, 0), (([121] : List UInt8), 0, 0)] [Value.string (⟨#[120]⟩), vI 0, vI 0, Value.string (⟨#[121]⟩), vI 0, vI 0] [Value.string (⟨#[]⟩), vI 0, vI 0, Value.string (⟨#[]⟩), vI 0, vI 0] rfl rfl rfl rfl rfl rfl rfl (by kernel_rfl) (by kernel_rfl) rfl rfl rfl (fun s59 S60 H61 => ?_)
 refine rn 1 rfl <| r_s (List.flatten [(Cn b47 r3.1 s53 s59 s38 s35 s32 s29 s26 s23 s20 s17 s14 s11 s8 s5 r3.2.2.2.2.2.2.2.2.2.2.2.2.2.2.2.1 r3.2.2.2.2.2.2.2.2.2.2.2.2.2.2.2.2.1 r3.2.2.2.2.2.2.2.2.2.2.2.2.2.2.2.2.2), S45, S42, S39, S36, S33, S30, S27, S24, S21, S18, S15, S12, S9, S6, S56, S60]) 0 _ _ _ _ _ (#[vS r3.1, s53, s59, s38, s35, s32, s29, s26, s23, s20, s17, s14, s11, s8, s5, vI r3.2.2.2.2.2.2.2.2.2.2.2.2.2.2.2.1, vI r3.2.2.2.2.2.2.2.2.2.2.2.2.2.2.2.2.1, vI r3.2.2.2.2.2.2.2.2.2.2.2.2.2.2.2.2.2]) rfl rfl rfl (AI rfl (Sl.shp H61)) (.ofS rfl rfl (Ab (Shp.one (Sl.shp H61)) Bh)) rfl rfl <| As ?_
 refine A_sc [(some 14, false)] (conG prog []) <| BF (cs0 := []) (Ls := [(Cn b47 r3.1 s53 s59 s38 s35 s32 s29 s26 s23 s20 s17 s14 s11 s8 s5 r3.2.2.2.2.2.2.2.2.2.2.2.2.2.2.2.1 r3.2.2.2.2.2.2.2.2.2.2.2.2.2.2.2.2.1 r3.2.2.2.2.2.2.2.2.2.2.2.2.2.2.2.2.2), S45, S42, S39, S36, S33, S30, S27, S24, S21, S18, S15, S12, S9, S6, S56, S60]) 3 Bf [0, 1] [vI 0, vI 1] [vI 0, vI 0] rfl rfl rfl rfl rfl rfl rfl (by kernel_rfl) (by kernel_rfl) rfl rfl rfl (fun s63 S64 H65 => ?_)
 refine rn 1 rfl <| r_s (List.flatten [(Cn b47 r3.1 s53 s59 s38 s35 s32 s29 s26 s23 s63 s17 s14 s11 s8 s5 r3.2.2.2.2.2.2.2.2.2.2.2.2.2.2.2.1 r3.2.2.2.2.2.2.2.2.2.2.2.2.2.2.2.2.1 r3.2.2.2.2.2.2.2.2.2.2.2.2.2.2.2.2.2), S45, S42, S39, S36, S33, S30, S27, S24, S21, S18, S15, S12, S9, S6, S56, S60, S64]) 0 _ _ _ _ _ (#[vS r3.1, s53, s59, s38, s35, s32, s29, s26, s23, s63, s17, s14, s11, s8, s5, vI r3.2.2.2.2.2.2.2.2.2.2.2.2.2.2.2.1, vI r3.2.2.2.2.2.2.2.2.2.2.2.2.2.2.2.2.1, vI r3.2.2.2.2.2.2.2.2.2.2.2.2.2.2.2.2.2]) rfl rfl rfl (AI rfl (Sl.shp H65)) (.ofS rfl rfl (Ab (Shp.one (Sl.shp H65)) Bh)) rfl rfl <| As ?_
 refine A_sc [(some 18, false)] (conG prog [(18, fun _ _ v_ L_ U_ => ∀ u0_, Fs N (r3.1, [(([104] : List UInt8), [(([97] : List UInt8), 8)], 0, 0, 0, 0)], [(([120] : List UInt8), 0, 0), (([121] : List UInt8), 0, 0)], r3.2.2.2.1, r3.2.2.2.2.1, r3.2.2.2.2.2.1, r3.2.2.2.2.2.2.1, r3.2.2.2.2.2.2.2.1, r3.2.2.2.2.2.2.2.2.1, [0, 1], r3.2.2.2.2.2.2.2.2.2.2.1, r3.2.2.2.2.2.2.2.2.2.2.2.1, r3.2.2.2.2.2.2.2.2.2.2.2.2.1, r3.2.2.2.2.2.2.2.2.2.2.2.2.2.1, r3.2.2.2.2.2.2.2.2.2.2.2.2.2.2.1, r3.2.2.2.2.2.2.2.2.2.2.2.2.2.2.2.1, r3.2.2.2.2.2.2.2.2.2.2.2.2.2.2.2.2.1, r3.2.2.2.2.2.2.2.2.2.2.2.2.2.2.2.2.2) 9 = some u0_ → (p1 (fun s_ => vT #[s_, vI u0_.2]) 5 encY u0_.1) v_ L_ U_)]) ?_
 refine rm 1 [0] rfl <| kB hM fun r67 hr68 hM => AP (Ls := [(Cn b47 r3.1 s53 s59 s38 s35 s32 s29 s26 s23 s63 s17 s14 s11 s8 s5 r3.2.2.2.2.2.2.2.2.2.2.2.2.2.2.2.1 r3.2.2.2.2.2.2.2.2.2.2.2.2.2.2.2.2.1 r3.2.2.2.2.2.2.2.2.2.2.2.2.2.2.2.2.2), S45, S42, S39, S36, S33, S30, S27, S24, S21, S18, S15, S12, S9, S6, S56, S60, S64]) (fun s69 => vT #[s69, vI r67.2]) 5 encY r67.1 13 _ rfl rfl rfl (cF jD) (fun o w z_ => OH N (r3.1, [(([104] : List UInt8), [(([97] : List UInt8), 8)], 0, 0, 0, 0)], [(([120] : List UInt8), 0, 0), (([121] : List UInt8), 0, 0)], r3.2.2.2.1, r3.2.2.2.2.1, r3.2.2.2.2.2.1, r3.2.2.2.2.2.2.1, r3.2.2.2.2.2.2.2.1, r3.2.2.2.2.2.2.2.2.1, [0, 1], r3.2.2.2.2.2.2.2.2.2.2.1, r3.2.2.2.2.2.2.2.2.2.2.2.1, r3.2.2.2.2.2.2.2.2.2.2.2.2.1, r3.2.2.2.2.2.2.2.2.2.2.2.2.2.1, r3.2.2.2.2.2.2.2.2.2.2.2.2.2.2.1, r3.2.2.2.2.2.2.2.2.2.2.2.2.2.2.2.1, r3.2.2.2.2.2.2.2.2.2.2.2.2.2.2.2.2.1, r3.2.2.2.2.2.2.2.2.2.2.2.2.2.2.2.2.2) 9 _ hr68 z_.view (s53, s59, s38, s35, s32, s29, s26, s23, s63, s17, s14, s11, s8, s5) ⟨((fun o w z_ => RdN.map (E' := Hl) (SlO.view H57 (CF (Ad (Ls := [(Cn b47 r3.1 s53 s59 s38 s35 s32 s29 s26 s23 s63 s17 s14 s11 s8 s5 r3.2.2.2.2.2.2.2.2.2.2.2.2.2.2.2.1 r3.2.2.2.2.2.2.2.2.2.2.2.2.2.2.2.2.1 r3.2.2.2.2.2.2.2.2.2.2.2.2.2.2.2.2.2), S45, S42, S39, S36, S33, S30, S27, S24, S21, S18, S15, S12, S9, S6, S56, S60, S64]) (k := 15) rfl rfl) o w z_)) rfl (fun _ _ h_ => aJ h_)) o w z_), ((Ap H61 (Ad (Ls := [(Cn b47 r3.1 s53 s59 s38 s35 s32 s29 s26 s23 s63 s17 s14 s11 s8 s5 r3.2.2.2.2.2.2.2.2.2.2.2.2.2.2.2.1 r3.2.2.2.2.2.2.2.2.2.2.2.2.2.2.2.2.1 r3.2.2.2.2.2.2.2.2.2.2.2.2.2.2.2.2.2), S45, S42, S39, S36, S33, S30, S27, S24, S21, S18, S15, S12, S9, S6, S56, S60, S64]) (k := 16) rfl rfl)) o w z_), ((Ap H40 (Ad (Ls := [(Cn b47 r3.1 s53 s59 s38 s35 s32 s29 s26 s23 s63 s17 s14 s11 s8 s5 r3.2.2.2.2.2.2.2.2.2.2.2.2.2.2.2.1 r3.2.2.2.2.2.2.2.2.2.2.2.2.2.2.2.2.1 r3.2.2.2.2.2.2.2.2.2.2.2.2.2.2.2.2.2), S45, S42, S39, S36, S33, S30, S27, S24, S21, S18, S15, S12, S9, S6, S56, S60, S64]) (k := 3) rfl rfl)) o w z_), ((fun o w z_ => RdN.map (E' := Im) (SlO.view H37 (CF (Ad (Ls := [(Cn b47 r3.1 s53 s59 s38 s35 s32 s29 s26 s23 s63 s17 s14 s11 s8 s5 r3.2.2.2.2.2.2.2.2.2.2.2.2.2.2.2.1 r3.2.2.2.2.2.2.2.2.2.2.2.2.2.2.2.2.1 r3.2.2.2.2.2.2.2.2.2.2.2.2.2.2.2.2.2), S45, S42, S39, S36, S33, S30, S27, S24, S21, S18, S15, S12, S9, S6, S56, S60, S64]) (k := 4) rfl rfl) o w z_)) rfl (fun _ _ h_ => aI h_)) o w z_), ((fun o w z_ => RdN.map (E' := Hk) (SlO.view H34 (CF (Ad (Ls := [(Cn b47 r3.1 s53 s59 s38 s35 s32 s29 s26 s23 s63 s17 s14 s11 s8 s5 r3.2.2.2.2.2.2.2.2.2.2.2.2.2.2.2.1 r3.2.2.2.2.2.2.2.2.2.2.2.2.2.2.2.2.1 r3.2.2.2.2.2.2.2.2.2.2.2.2.2.2.2.2.2), S45, S42, S39, S36, S33, S30, S27, S24, S21, S18, S15, S12, S9, S6, S56, S60, S64]) (k := 5) rfl rfl) o w z_)) rfl (fun _ _ h_ => aH h_)) o w z_), ((fun o w z_ => RdN.map (E' := Il) (SlO.view H31 (CF (Ad (Ls := [(Cn b47 r3.1 s53 s59 s38 s35 s32 s29 s26 s23 s63 s17 s14 s11 s8 s5 r3.2.2.2.2.2.2.2.2.2.2.2.2.2.2.2.1 r3.2.2.2.2.2.2.2.2.2.2.2.2.2.2.2.2.1 r3.2.2.2.2.2.2.2.2.2.2.2.2.2.2.2.2.2), S45, S42, S39, S36, S33, S30, S27, S24, S21, S18, S15, S12, S9, S6, S56, S60, S64]) (k := 6) rfl rfl) o w z_)) rfl (fun _ _ h_ => aG h_)) o w z_), ((fun o w z_ => RdN.map (E' := Fc) (SlO.view H28 (CF (Ad (Ls := [(Cn b47 r3.1 s53 s59 s38 s35 s32 s29 s26 s23 s63 s17 s14 s11 s8 s5 r3.2.2.2.2.2.2.2.2.2.2.2.2.2.2.2.1 r3.2.2.2.2.2.2.2.2.2.2.2.2.2.2.2.2.1 r3.2.2.2.2.2.2.2.2.2.2.2.2.2.2.2.2.2), S45, S42, S39, S36, S33, S30, S27, S24, S21, S18, S15, S12, S9, S6, S56, S60, S64]) (k := 7) rfl rfl) o w z_)) rfl (fun _ _ h_ => SA h_)) o w z_), ((fun o w z_ => RdN.map (E' := Fc) (SlO.view H25 (CF (Ad (Ls := [(Cn b47 r3.1 s53 s59 s38 s35 s32 s29 s26 s23 s63 s17 s14 s11 s8 s5 r3.2.2.2.2.2.2.2.2.2.2.2.2.2.2.2.1 r3.2.2.2.2.2.2.2.2.2.2.2.2.2.2.2.2.1 r3.2.2.2.2.2.2.2.2.2.2.2.2.2.2.2.2.2), S45, S42, S39, S36, S33, S30, S27, S24, S21, S18, S15, S12, S9, S6, S56, S60, S64]) (k := 8) rfl rfl) o w z_)) rfl (fun _ _ h_ => SA h_)) o w z_), ((Ap H65 (Ad (Ls := [(Cn b47 r3.1 s53 s59 s38 s35 s32 s29 s26 s23 s63 s17 s14 s11 s8 s5 r3.2.2.2.2.2.2.2.2.2.2.2.2.2.2.2.1 r3.2.2.2.2.2.2.2.2.2.2.2.2.2.2.2.2.1 r3.2.2.2.2.2.2.2.2.2.2.2.2.2.2.2.2.2), S45, S42, S39, S36, S33, S30, S27, S24, S21, S18, S15, S12, S9, S6, S56, S60, S64]) (k := 17) rfl rfl)) o w z_), ((Ap H19 (Ad (Ls := [(Cn b47 r3.1 s53 s59 s38 s35 s32 s29 s26 s23 s63 s17 s14 s11 s8 s5 r3.2.2.2.2.2.2.2.2.2.2.2.2.2.2.2.1 r3.2.2.2.2.2.2.2.2.2.2.2.2.2.2.2.2.1 r3.2.2.2.2.2.2.2.2.2.2.2.2.2.2.2.2.2), S45, S42, S39, S36, S33, S30, S27, S24, S21, S18, S15, S12, S9, S6, S56, S60, S64]) (k := 10) rfl rfl)) o w z_), ((Ap H16 (Ad (Ls := [(Cn b47 r3.1 s53 s59 s38 s35 s32 s29 s26 s23 s63 s17 s14 s11 s8 s5 r3.2.2.2.2.2.2.2.2.2.2.2.2.2.2.2.1 r3.2.2.2.2.2.2.2.2.2.2.2.2.2.2.2.2.1 r3.2.2.2.2.2.2.2.2.2.2.2.2.2.2.2.2.2), S45, S42, S39, S36, S33, S30, S27, S24, S21, S18, S15, S12, S9, S6, S56, S60, S64]) (k := 11) rfl rfl)) o w z_), ((Ap H13 (Ad (Ls := [(Cn b47 r3.1 s53 s59 s38 s35 s32 s29 s26 s23 s63 s17 s14 s11 s8 s5 r3.2.2.2.2.2.2.2.2.2.2.2.2.2.2.2.1 r3.2.2.2.2.2.2.2.2.2.2.2.2.2.2.2.2.1 r3.2.2.2.2.2.2.2.2.2.2.2.2.2.2.2.2.2), S45, S42, S39, S36, S33, S30, S27, S24, S21, S18, S15, S12, S9, S6, S56, S60, S64]) (k := 12) rfl rfl)) o w z_), ((Ap H10 (Ad (Ls := [(Cn b47 r3.1 s53 s59 s38 s35 s32 s29 s26 s23 s63 s17 s14 s11 s8 s5 r3.2.2.2.2.2.2.2.2.2.2.2.2.2.2.2.1 r3.2.2.2.2.2.2.2.2.2.2.2.2.2.2.2.2.1 r3.2.2.2.2.2.2.2.2.2.2.2.2.2.2.2.2.2), S45, S42, S39, S36, S33, S30, S27, S24, S21, S18, S15, S12, S9, S6, S56, S60, S64]) (k := 13) rfl rfl)) o w z_), ((Ap H7 (Ad (Ls := [(Cn b47 r3.1 s53 s59 s38 s35 s32 s29 s26 s23 s63 s17 s14 s11 s8 s5 r3.2.2.2.2.2.2.2.2.2.2.2.2.2.2.2.1 r3.2.2.2.2.2.2.2.2.2.2.2.2.2.2.2.2.1 r3.2.2.2.2.2.2.2.2.2.2.2.2.2.2.2.2.2), S45, S42, S39, S36, S33, S30, S27, S24, S21, S18, S15, S12, S9, S6, S56, S60, S64]) (k := 14) rfl rfl)) o w z_)⟩) (Ao hr68) (fun s69 S70 H71 => ?_)
 refine rz rfl <| Aa fun K72 hK72 => Ar <| rn 3 rfl ?_
 rcases hg73 : (r67.2 == 0) with _ | _
 ·replace hM := iG hg73 hM
  refine rz rfl <| hK72 _ _ ?_
  refine DJ [(0, vB false)] rfl (fun T => ?_)
  cases hM
  exact aR eV1
 replace hM := iE hg73 hM
 refine rn 1 rfl <| r_y rfl <| Ww (e := 5) r67.1 rfl rfl rfl rfl rfl (Ap H71 (Ad (Ls := [(Cn b47 r3.1 s53 s59 s38 s35 s32 s29 s26 s23 s63 s17 s14 s11 s8 s5 r3.2.2.2.2.2.2.2.2.2.2.2.2.2.2.2.1 r3.2.2.2.2.2.2.2.2.2.2.2.2.2.2.2.2.1 r3.2.2.2.2.2.2.2.2.2.2.2.2.2.2.2.2.2), S45, S42, S39, S36, S33, S30, S27, S24, S21, S18, S15, S12, S9, S6, S56, S60, S64, S70]) (k := 18) rfl rfl)) <| r_y rfl <| r_W (vB (r67.1 == ([2, 0, 1] : List UInt8))) rfl (Ok rfl rfl) <| rz rfl <| hK72 _ _ ?_
 refine DJ [(0, vB (r67.1 == ([2, 0, 1] : List UInt8)))] rfl (fun T => ?_)
 cases hM
 exact aR eV1
end Go.Proofs.YthafnifhhblkbaaGreatDoor
