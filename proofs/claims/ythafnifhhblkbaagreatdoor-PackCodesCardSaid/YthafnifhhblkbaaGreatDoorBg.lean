import Derived.Test.YthafnifhhblkbaaGreatDoorWk
import Derived.Test.YthafnifhhblkbaaGreatDoorBf
set_option linter.unusedSimpArgs false
set_option linter.unusedVariables false
namespace Go.Proofs.YthafnifhhblkbaaGreatDoor
open Go Go.RowKit Go.Eng _root_.Go.Proofs.Tryz
set_option maxRecDepth 100000
set_option maxHeartbeats 8000000
abbrev Kj (b : Nat) (x0 : BitVec 64) (x1 : BitVec 64) : List Bl := [(b, 279, #[U x0, U x1])]
abbrev EA (b : Nat) (x0 : List UInt8) (x1 : Int) : List Bl := [(b, 66, #[vS x0, vI x1])]
abbrev DV (b : Nat) (x0 : List UInt8) (x1 : Value) (x2 : Int) (x3 : Int) (x4 : Int) (x5 : Int) : List Bl := [(b, 68, #[vS x0, x1, vI x2, vI x3, vI x4, vI x5])]
abbrev Ez (b : Nat) (x0 : List UInt8) (x1 : Int) (x2 : Int) : List Bl := [(b, 70, #[vS x0, vI x1, vI x2])]
abbrev Jo (b : Nat) (x0 : Int) (x1 : Int) : List Bl := [(b, 199, #[vI x0, vI x1])]
abbrev CW (b : Nat) (x0 : Int) (x1 : Int) (x2 : Int) : List Bl := [(b, 204, #[vI x0, vI x1, vI x2])]
abbrev Ds (b : Nat) (x0 : Int) (x1 : BitVec 64) (x2 : BitVec 64) : List Bl := [(b, 54, #[vI x0, U x1, U x2])]
abbrev DU (b : Nat) (x0 : Int) (x1 : BitVec 64) (x2 : BitVec 64) (x3 : Int) (x4 : BitVec 64) (x5 : BitVec 64) (x6 : Int) : List Bl := [(b, 201, #[vI x0, U x1, U x2, vI x3, U x4, U x5, vI x6])]
abbrev Ef (b : Nat) (x0 : List UInt8) (x1 : Value) (x2 : Value) (x3 : Value) (x4 : Int) : List Bl := [(b, 85, #[vS x0, x1, x2, x3, vI x4])]
def Av (_ : Nat) (s : List UInt8) : Option (List UInt8) := ck ((([] : List UInt8)).length + (s).length ≤ 140737488355328) (some (([] : List UInt8) ++ s))
theorem BZ (N s r) (hM : Av N s = some r) (ro sv) (hs : Rd encY ro sv s) : Does prog 165 #[sv] ro [] (p1 (fun s_ => s_) 5 encY r) := by
 unfold Av at hM
 refine Ac follows func165 rfl 8 rfl _ fz1 (fun base0_ => ?_)
 refine AZ rfl <| Aa fun K2 hK2 => Aa fun K3 hK3 => Ar <| rn 1 rfl ?_
 rcases Zq (Rd.shp hs) with ⟨hz4, hl5⟩ | hne6
 ·obtain rfl := hz4; obtain rfl := List.eq_nil_of_length_eq_zero hl5
  replace hM : (some ([])) = some r := (by first | exact hM | (simp at hM ⊢; exact hM))
  refine rz rfl <| hK3 _ _ ?_
  refine AB true rfl (fun _ => ?_) (fun h_ => nomatch h_)
  refine AZ rfl ?_
  cases hM
  refine Au (fun hn => AG (v0 := nS) Sl.nil (Sub.nil _) rfl (AV rfl))
 refine r_W (.bool false) rfl (UC rfl rfl rfl (Rd.shp hs) hne6) <| As <| hK3 _ _ ?_
 refine AB false rfl (fun h_ => nomatch h_) (fun _ => ?_)
 refine Af <| hK2 _ _ ?_
 refine A_sc [(some 5, false), (some 7, true)] (conG prog []) <| BF (cs0 := []) (Ls := []) 5 encY ([] : List UInt8) [] [] rfl rfl rfl rfl rfl rfl rfl (by kernel_rfl) (by kernel_rfl) rfl rfl rfl (fun s8 S9 H10 => ?_)
 refine rn 1 rfl <| kC hM fun ck11 hM => Dg (cs0 := []) (Ls := [S9]) 0 (En := encY) rfl rfl rfl rfl rfl H10 rfl (AA hs) rfl rfl rfl rfl rfl (Dk ck11 rfl) (Dj ck11 rfl) rfl (fun s12 S13 H14 => ?_)
 refine rz rfl ?_
 cases hM
 refine Au (fun hn => AG (v0 := s12) H14 (Aw (Sub.pick [S13] [0] rfl)) rfl (AV rfl))
def CB (x : BitVec 128) (count : Int) : Nat → List UInt8 → Int → Option (List UInt8)
  | 0, _, _ => none
  | n5 + 1, b1_, x2_ => if x2_ < count then ck (-9223372036854775808 ≤ (count - 1) ∧ (count - 1) ≤ 9223372036854775807) (ck (-9223372036854775808 ≤ ((count - 1) - x2_) ∧ ((count - 1) - x2_) ≤ 9223372036854775807) (ck ((-9223372036854775808 ≤ (8 * ((count - 1) - x2_)) ∧ (8 * ((count - 1) - x2_)) ≤ 9223372036854775807)) (ck (-9223372036854775808 ≤ ((8 * ((count - 1) - x2_)) : Int) ∧ ((8 * ((count - 1) - x2_)) : Int) ≤ 9223372036854775807) (ck ((b1_).length + ([(LS (lo (Eg x (-(8 * ((count - 1) - x2_))))))]).length ≤ 140737488355328) (ck (-9223372036854775808 ≤ (x2_ + 1) ∧ (x2_ + 1) ≤ 9223372036854775807) ((CB x count n5) ((b1_ ++ ([(LS (lo (Eg x (-(8 * ((count - 1) - x2_))))))]))) (x2_ + 1))))))) else some b1_
def CR (N : Nat) (b : List UInt8) (x : BitVec 128) (count : Int) : Option (List UInt8) := CB x count N b 0
theorem LA (N b x count r) (hM : CR N b x count = some r) (ro : Ro) (bv : Value) (Sb : List Bl) (hb : Sl 5 encY bv b Sb) : Does prog 208 #[bv, vA #[U (hi x), U (lo x)], vI count] ro (List.flatten [Sb]) (pO (List.flatten [Sb]) (oS 5 encY r fun s_0 => (oE s_0 []))) := by
 unfold CR at hM
 refine BU follows func208 rfl 26 rfl _ fz3 (fun _ _ h_ _ => h_) (fun base0_ => ?_)
 refine Ai <| rA rfl fun b2 => rz rfl <| Aa fun K3 hK3 => AZ rfl <| Aj <| Be _ (Sub.pick [(Kj b2 (hi x) (lo x)), Sb] [0, 1] rfl) <| AU (fun tt ll nn => ∃ (n5 : Nat) (b1_ : List UInt8) (x2_ : Int), (CB x count n5 b1_ x2_ = some r) ∧ ∃ (vb1_ : Value) (Sb1_ : List Bl), Sl 5 encY vb1_ b1_ Sb1_ ∧ Is [(0, vb1_), (2, vI count), (4, vP b2 0), (8, vI count), (9, vI x2_)] (List.flatten [(Kj b2 (hi x) (lo x)), Sb1_]) tt ll ∧ nn = n5 + 1) (N + 1) ?_ ?_
 ·exact ⟨N, b, 0, hM, bv, Sb, hb, Ak rfl rfl, rfl⟩
 clear hM; rintro t l _ ⟨n5, b1_, x2_, hM, vb1_, Sb1_, hb1_, ⟨⟨T, rfl⟩, rfl⟩, rfl⟩
 rcases n5 with _ | n5
 ·exact absurd hM (by simp [CB])
 rw [CB] at hM
 refine AZ rfl <| Aa fun K7 hK7 => aD hM rfl (fun hc8 hM => ?_) (fun hc8 hM => ?_)
 ·refine Af <| hK7 _ _ ?_
  refine Aa fun K9 hK9 => Aj <| AZ rfl <| A_regC [(some 22, false), (some 23, true)] (conG prog []) <| rm 3 [0] rfl <| kC hM fun ck11 hM => rX ck11 rfl <| rn 1 rfl <| kC hM fun ck12 hM => rX ck12 rfl <| kC hM fun ck13 hM => rX ck13 rfl <| kC hM fun ck14 hM => rc _ (cF eY) (lv x (8 * ((count - 1) - x2_)) ck14.1 ck14.2) <| rn 1 rfl <| r_w (Value.int .u8 ((((LS (lo (Eg x (-(8 * ((count - 1) - x2_)))))).toNat : Nat) : Int))) rfl rfl (ku (lo (Eg x (-(8 * ((count - 1) - x2_)))))) (fun _ => rfl) ?_
  refine BF (cs0 := []) (Ls := [(Kj b2 (hi x) (lo x)), Sb1_]) 5 encY [(LS (lo (Eg x (-(8 * ((count - 1) - x2_))))))] [Value.int .u8 ((((LS (lo (Eg x (-(8 * ((count - 1) - x2_)))))).toNat : Nat) : Int))] [Value.int .u8 0] rfl rfl rfl rfl rfl rfl rfl (by kernel_rfl) (by kernel_rfl) rfl rfl rfl (fun s15 S16 H17 => ?_)
  refine kC hM fun ck18 hM => Dg (cs0 := []) (Ls := [(Kj b2 (hi x) (lo x)), Sb1_, S16]) 1 (En := encY) rfl rfl rfl rfl rfl hb1_ rfl (Ap H17 (Ad (Ls := [(Kj b2 (hi x) (lo x)), Sb1_, S16]) (k := 2) rfl rfl)) rfl rfl rfl rfl rfl (Dk ck18 rfl) (Dj ck18 rfl) rfl (fun s19 S20 H21 => ?_)
  refine rz rfl <| hK9 _ _ ?_
  refine Ar <| kC hM fun ck22 hM => rX ck22 rfl <| rz rfl <| fg _ (Sub.pick [(Kj b2 (hi x) (lo x)), S20, S16] [0, 1] rfl) ?_
  exact ⟨n5 + 1, by omega, n5, (b1_ ++ ([(LS (lo (Eg x (-(8 * ((count - 1) - x2_))))))])), (x2_ + 1), hM, s19, S20, H21, Ak rfl rfl, rfl⟩
 refine AS <| hK3 _ _ ?_
 refine AZ rfl ?_
 cases hM
 refine Au (fun hn => Ge (v0 := vb1_) (O := [Sb1_]) (AV rfl) (Sub.pick [(Kj b2 (hi x) (lo x)), Sb1_] [1] rfl) ⟨vb1_, Sb1_, _, hb1_, ⟨rfl, rfl⟩, rfl⟩)
def Ax (N : Nat) (b : List UInt8) (n : Int) (count : Int) : Option (List UInt8) := (CR N b ((0#64) ++ (BitVec.ofInt 64 n)) count).bind fun r3 => some r3
theorem BL (N b n count r) (hM : Ax N b n count = some r) (ro : Ro) (bv : Value) (Sb : List Bl) (hb : Sl 5 encY bv b Sb) : Does prog 164 #[bv, vI n, vI count] ro (List.flatten [Sb]) (pO (List.flatten [Sb]) (oS 5 encY r fun s_0 => (oE s_0 []))) := by
 unfold Ax at hM
 refine BU follows func164 rfl 13 rfl _ fz3 (fun _ _ h_ _ => h_) (fun base0_ => ?_)
 refine AZ rfl <| A_sc [(some 12, true)] (conG prog [(12, fun _ _ v_ L_ U_ => ∀ u0_, CR N b ((0#64) ++ (BitVec.ofInt 64 n)) count = some u0_ → (pO (List.flatten [Sb]) (oS 5 encY u0_ fun s_0 => (oE s_0 []))) v_ L_ U_)]) <| rn 2 rfl <| r_w (U (BitVec.ofInt 64 n)) rfl rfl (ZU n) (fun _ => rfl) <| r_W (vA #[U (0#64), U (BitVec.ofInt 64 n)]) rfl (An rfl rfl rfl rfl) <| rn 1 rfl <| kB hM fun r3 hr4 hM => Ju (Ls := [Sb]) (FL := [Sb]) [0] _ (some 12) 208 _ rfl rfl rfl rfl rfl (cF XZ) (fun o w hn_ z_ => (by have h_ := LA N b ((0#64) ++ (BitVec.ofInt 64 n)) count _ hr4 (Wq z_.view (([Sb]).flatten.map (·.1))) bv Sb hb; simp only [CZ] at h_; exact h_)) (Ao hr4) (fun h_ => nomatch h_) ?_
 rintro s5 _ ⟨_, S6, _, H7, ⟨rfl, rfl⟩, rfl⟩
 refine AX (Ls := [S6]) (Ls' := [S6]) [0] rfl rfl <| rz rfl ?_
 cases hM
 refine Au (fun hn => Ge (v0 := s5) (O := [S6]) (AV rfl) (Sub.pick [S6] [0] rfl) ⟨s5, S6, _, H7, ⟨rfl, rfl⟩, rfl⟩)
def Hp (N : Nat) (b : List UInt8) (n : Int) : Option (List UInt8) := (Av N b).bind fun r3 => (Ax N r3 n 1).bind fun r11 => some r11
theorem Wj (N b n r) (hM : Hp N b n = some r) (ro bv) (hb : Rd encY ro bv b) : Does prog 163 #[bv, vI n] ro [] (p1 (fun s_ => s_) 5 encY r) := by
 unfold Hp at hM
 refine Ac follows func163 rfl 9 rfl _ fz2 (fun base0_ => ?_)
 refine AZ rfl <| A_sc [(some 6, false), (some 8, true)] (conG prog [(6, fun _ _ v_ L_ U_ => ∀ u0_, Av N b = some u0_ → (p1 (fun s_ => s_) 5 encY u0_) v_ L_ U_), (8, fun a_ _ v_ L_ U_ => ∀ u0_, Av N b = some u0_ → ∀ u1_, Ax N u0_ n 1 = some u1_ → (pN (List.flatten [Nk (Li a_ 1)]) (oS 5 encY u1_ fun s_0 => (oE s_0 []))) v_ L_ U_)]) <| rn 1 rfl <| kB hM fun r3 hr4 hM => AP (Ls := []) (fun s5 => s5) 5 encY r3 165 _ rfl rfl rfl (cF KA) (fun o w z_ => BZ N b _ hr4 z_.view bv (z_.r hb)) (Ao hr4) (fun s5 S6 H7 => ?_)
 refine rn 1 rfl <| Ki (Ls := [S6]) trivial 0 rfl H7 (fun S8 H9 hn10 => ?_)
 refine kB hM fun r11 hr12 hM => Qf (Ls := [S8]) (FL := [S8]) (RL := []) [0] (oS 5 encY r11 fun s_0 => (oE s_0 [])) (some 8) 164 _ (pc := fun a_ => pN (List.flatten [Nk (Li a_ 1)]) (oS 5 encY r11 fun s_0 => (oE s_0 []))) rfl rfl rfl rfl rfl (cF Fe) (fun o w hn_ z_ => BL N r3 n 1 _ hr12 _ s5 S8 H9) (fun _ _ v_ L_ U_ => ⟨fun h_ => h_ _ hr4 _ hr12, fun h_ => by intro _ e_; cases Option.some.inj (e_.symm.trans hr4); intro _ e_; cases Option.some.inj (e_.symm.trans hr12); exact h_⟩) (fun _ _ _ => Oc (nmF (nmC hn10 nmN))) (fun h_ => nomatch h_) ?_
 rintro s13 _ ⟨_, S14, _, H15, ⟨rfl, rfl⟩, rfl⟩
 refine AX (Ls := [S14]) (Ls' := [S14]) [0] rfl rfl <| rz rfl ?_
 cases hM
 refine Au (fun hn => AG (v0 := s13) H15 (Aw (Sub.pick [S14] [0] rfl)) rfl (AV rfl))
def Dh (N : Nat) (l' : List Int) : Nat → List UInt8 → Int → Option (List UInt8)
  | 0, _, _ => none
  | n5 + 1, b1_, x2_ => if x2_ < (l'.length : Int) then ck (0 ≤ x2_ ∧ x2_ < (l'.length : Int)) ((Hp N b1_ (l'[x2_.toNat]!)).bind fun r12 => ck (-9223372036854775808 ≤ (x2_ + 1) ∧ (x2_ + 1) ≤ 9223372036854775807) ((Dh N l' n5) r12 (x2_ + 1))) else some b1_
def Ae (N : Nat) (l' : List Int) : Option (List UInt8) := Dh N l' N ([]) 0
theorem Ay (N l' r) (hM : Ae N l' = some r) (ro l'v) (hl' : Rd Bf ro l'v l') : Does prog 83 #[l'v] ro [] (p1 (fun s_ => s_) 5 encY r) := by
 unfold Ae at hM
 refine Ac follows func83 rfl 17 rfl _ fz1 (fun base0_ => ?_)
 refine AZ rfl <| AZ rfl <| Aa fun K3 hK3 => Ai <| rn 1 rfl <| rL (Rd.shp hl') rfl <| rz rfl <| Aj <| Be _ (Sub.pickE (Ls := [[]]) (Ls0 := []) rfl [0] rfl) <| AU (fun tt ll nn => ∃ (n5 : Nat) (b1_ : List UInt8) (x2_ : Int), (Dh N l' n5 b1_ x2_ = some r) ∧ ∃ (vb1_ : Value) (Sb1_ : List Bl), Sl 5 encY vb1_ b1_ Sb1_ ∧ Is [(3, vb1_), (6, l'v), (7, vI (l'.length : Int)), (8, vI x2_)] (List.flatten [Sb1_]) tt ll ∧ nn = n5 + 1) (N + 1) ?_ ?_
 ·exact ⟨N, [], 0, hM, nS, [], Sl.nil, Ak rfl rfl, rfl⟩
 clear hM; rintro t l _ ⟨n5, b1_, x2_, hM, vb1_, Sb1_, hb1_, ⟨⟨T, rfl⟩, rfl⟩, rfl⟩
 rcases n5 with _ | n5
 ·exact absurd hM (by simp [Dh])
 rw [Dh] at hM
 refine AZ rfl <| Aa fun K7 hK7 => aD hM rfl (fun hc8 hM => ?_) (fun hc8 hM => ?_)
 ·refine Af <| hK7 _ _ ?_
  refine Aa fun K9 hK9 => Aj <| Ai <| kC hM fun ck11 hM => rI (Rd.shp hl') ck11 rfl <| rE (AA hl') ck11 0 rfl <| rz rfl <| A_regC [(some 14, false)] (conG prog [(14, fun _ _ v_ L_ U_ => ∀ u0_, Hp N b1_ (l'[x2_.toNat]!) = some u0_ → (p1 (fun s_ => s_) 5 encY u0_) v_ L_ U_)]) <| rn 2 rfl <| kB hM fun r12 hr13 hM => AP (Ls := [Sb1_]) (fun s14 => s14) 5 encY r12 163 _ rfl rfl rfl (cF gm) (fun o w z_ => Wj N b1_ (l'[x2_.toNat]!) _ hr13 z_.view vb1_ ((Ap hb1_ (Ad (Ls := [Sb1_]) (k := 0) rfl rfl)) o w z_)) (Ao hr13) (fun s14 S15 H16 => ?_)
  refine rz rfl <| hK9 _ _ ?_
  refine Ar <| kC hM fun ck17 hM => rX ck17 rfl <| rz rfl <| fg _ (Sub.pick [Sb1_, S15] [1] rfl) ?_
  exact ⟨n5 + 1, by omega, n5, r12, (x2_ + 1), hM, s14, S15, H16, Ak rfl rfl, rfl⟩
 refine AS <| hK3 _ _ ?_
 refine AZ rfl ?_
 cases hM
 refine Au (fun hn => AG (v0 := vb1_) hb1_ (Aw (Sub.pick [Sb1_] [0] rfl)) rfl (AV rfl))
def KH (N : Nat) (b : List UInt8) (s : List UInt8) : Option (List UInt8) := (Av N b).bind fun r3 => if (s.length : Int) > 255 then (Ax N r3 0 1).bind fun r12 => some r12 else (Ax N r3 (s.length : Int) 1).bind fun r18 => ck ((r18).length + (s).length ≤ 140737488355328) (some (r18 ++ s))
theorem Wh (N b s r) (hM : KH N b s = some r) (ro bv) (hb : Rd encY ro bv b) : Does prog 219 #[bv, vS s] ro [] (p1 (fun s_ => s_) 5 encY r) := by
 unfold KH at hM
 refine Ac follows func219 rfl 18 rfl _ fz2 (fun base0_ => ?_)
 refine AZ rfl <| A_sc [(some 6, false)] (conG prog [(6, fun _ _ v_ L_ U_ => ∀ u0_, Av N b = some u0_ → (p1 (fun s_ => s_) 5 encY u0_) v_ L_ U_)]) <| rn 1 rfl <| kB hM fun r3 hr4 hM => AP (Ls := []) (fun s5 => s5) 5 encY r3 165 _ rfl rfl rfl (cF KA) (fun o w z_ => BZ N b _ hr4 z_.view bv (z_.r hb)) (Ao hr4) (fun s5 S6 H7 => ?_)
 refine rz rfl <| Aa fun K8 hK8 => Ai <| rn 1 rfl <| r_W (vI (s.length : Int)) rfl (Pb rfl rfl rfl) <| rz rfl <| aD hM rfl (fun hc10 hM => ?_) (fun hc10 hM => ?_)
 ·refine A_sc [(some 11, true)] (conG prog [(11, fun _ _ v_ L_ U_ => ∀ u0_, Ax N r3 0 1 = some u0_ → (pO (List.flatten [S6]) (oS 5 encY u0_ fun s_0 => (oE s_0 []))) v_ L_ U_)]) <| rn 1 rfl <| kB hM fun r12 hr13 hM => Ju (Ls := [S6]) (FL := [S6]) [0] _ (some 11) 164 _ rfl rfl rfl rfl rfl (cF Fe) (fun o w hn_ z_ => BL N r3 0 1 _ hr13 _ s5 S6 H7) (Ao hr13) (fun h_ => nomatch h_) ?_
  rintro s14 _ ⟨_, S15, _, H16, ⟨rfl, rfl⟩, rfl⟩
  refine AX (Ls := [S15]) (Ls' := [S15]) [0] rfl rfl <| rz rfl ?_
  cases hM
  refine Au (fun hn => AG (v0 := s14) H16 (Aw (Sub.pick [S15] [0] rfl)) rfl (AV rfl))
 refine Af <| hK8 _ _ ?_
 refine A_sc [(some 15, true), (some 17, true)] (conG prog [(15, fun _ _ v_ L_ U_ => ∀ u0_, Ax N r3 (s.length : Int) 1 = some u0_ → (pO (List.flatten [S6]) (oS 5 encY u0_ fun s_0 => (oE s_0 []))) v_ L_ U_)]) <| rn 2 rfl <| r_W (vI (s.length : Int)) rfl (Pb rfl rfl rfl) <| kB hM fun r18 hr19 hM => Ju (Ls := [S6]) (FL := [S6]) [0] _ (some 15) 164 _ rfl rfl rfl rfl rfl (cF Fe) (fun o w hn_ z_ => BL N r3 (s.length : Int) 1 _ hr19 _ s5 S6 H7) (Ao hr19) (fun h_ => nomatch h_) ?_
 rintro s20 _ ⟨_, S21, _, H22, ⟨rfl, rfl⟩, rfl⟩
 refine AX (Ls := [S21]) (Ls' := [S21]) [0] rfl rfl <| rn 1 rfl <| kC hM fun ck23 hM => lI (Ls := [S21]) 0 s rfl rfl rfl rfl rfl H22 rfl rfl rfl rfl rfl rfl rfl rfl ck23 rfl (fun s24 S25 H26 => ?_)
 refine rz rfl ?_
 cases hM
 refine Au (fun hn => AG (v0 := s24) H26 (Aw (Sub.pick [S25] [0] rfl)) rfl (AV rfl))
def Dm (n : Int) : Option (List UInt8) := ck ((-9223372036854775808 ≤ (0 - ((([] : List UInt8)).length : Int)) ∧ (0 - ((([] : List UInt8)).length : Int)) ≤ 9223372036854775807)) (ck ((-9223372036854775808 ≤ (n - (0 - ((([] : List UInt8)).length : Int))) ∧ (n - (0 - ((([] : List UInt8)).length : Int))) ≤ 9223372036854775807)) (if ((n - (0 - ((([] : List UInt8)).length : Int))) : Int) > 0 then ck (0 ≤ (n - (0 - ((([] : List UInt8)).length : Int))) ∧ ((([] : List UInt8)).length : Int) + (n - (0 - ((([] : List UInt8)).length : Int))) ≤ 140737488355328) (ck (0 ≤ ((([] : List UInt8)).length : Int) ∧ ((([] : List UInt8)).length : Int) ≤ (((([] : List UInt8) ++ List.replicate ((n - (0 - ((([] : List UInt8)).length : Int)))).toNat (0 : UInt8))).length : Int)) (some ((((([] : List UInt8) ++ List.replicate ((n - (0 - ((([] : List UInt8)).length : Int)))).toNat (0 : UInt8))).take ((((([] : List UInt8)).length : Int)).toNat)).drop 0))) else some ([] : List UInt8)))
def Ce (_ : Nat) (n : Int) : Option (List UInt8) := if n < 0 then none else Dm n 
theorem Lj (N n r) (hM : Ce N n = some r) (ro : Ro) : Does prog 137 #[nS, vI n] ro [] (p1 (fun s_ => s_) 5 encY r) := by
 unfold Ce at hM
 refine Ac follows func137 rfl 27 rfl _ fz2 (fun base0_ => ?_)
 refine AZ rfl <| Cr (fun tt ll => (Dm n  = some r) ∧ Is [(0, nS), (1, vI n)] [] tt ll) ?_ ?_
 ·refine AZ rfl <| aD hM rfl (fun hc16 hM => ?_) (fun hc16 hM => ?_)
  ·refine Ar <| rn 1 rfl ?_
   cases hM
  refine Af <| fg _ (Sub.of suN) ?_
  exact ⟨hM, Ak rfl rfl⟩
 clear hM; rintro t l ⟨hM, ⟨T, rfl⟩, rfl⟩
 unfold Dm at hM
 refine Aa fun K2 hK2 => Ai <| rn 2 rfl <| r_W (vI 0) rfl (Rb rfl rfl rfl) <| rn 1 rfl <| rL (.inl ⟨rfl, rfl⟩) rfl <| kC hM fun ck4 hM => rX ck4 rfl <| kC hM fun ck5 hM => rX ck5 rfl <| rz rfl <| AZ rfl <| aD hM rfl (fun hc7 hM => ?_) (fun hc7 hM => ?_)
 ·refine A_regC [(some 22, true)] (conG prog []) <| rn 2 rfl <| r_W (vI 0) rfl (Rb rfl rfl rfl) <| rn 2 rfl <| kC hM fun ck8 hM => iW [] <| lH (cs0 := []) (Ls := [[]]) 0 (En := encY) (0 : UInt8) ((n - (0 - ((([] : List UInt8)).length : Int)))) rfl rfl rfl rfl rfl Sl.nil rfl rfl rfl rfl rfl rfl rfl 140737488355328 rfl ck8 rfl (fun s9 S10 H11 => ?_)
  refine rn 1 rfl <| rL (.inl ⟨rfl, rfl⟩) rfl <| kC hM fun ck12 hM => r_W (Fy s9 0 ((((([] : List UInt8)).length : Int)).toNat) 1) rfl (GE (Hz rfl rfl rfl rfl (Sl.shp H11) ck12)) <| rz rfl <| hK2 _ _ ?_
  refine AZ rfl ?_
  cases hM
  refine Au (fun hn => AG (v0 := Fy s9 0 ((((([] : List UInt8)).length : Int)).toNat) 1) (Sl.take0 H11 (Iu ck12.2)) (Aw (Sub.pick [S10] [0] rfl)) rfl (AV rfl))
 refine Af <| hK2 _ _ ?_
 refine AZ rfl ?_
 cases hM
 refine Au (fun hn => AG (v0 := nS) Sl.nil (Sub.nil _) rfl (AV rfl))
def BB (slices : List (List UInt8)) : Nat → List UInt8 → Int → Option (List UInt8)
  | 0, _, _ => none
  | n28 + 1, newslice4_, x5_ => if x5_ < (slices.length : Int) then ck (0 ≤ x5_ ∧ x5_ < (slices.length : Int)) (ck ((newslice4_).length + (slices[x5_.toNat]!).length ≤ 140737488355328) (ck (-9223372036854775808 ≤ (x5_ + 1) ∧ (x5_ + 1) ≤ 9223372036854775807) ((BB slices n28) (newslice4_ ++ (slices[x5_.toNat]!)) (x5_ + 1)))) else some newslice4_
def BC (N : Nat) (slices : List (List UInt8)) : Nat → Int → Int → Option (List UInt8)
  | 0, _, _ => none
  | n5 + 1, size1_, x2_ => if x2_ < (slices.length : Int) then ck (0 ≤ x2_ ∧ x2_ < (slices.length : Int)) (ck ((-9223372036854775808 ≤ (size1_ + ((slices[x2_.toNat]!).length : Int)) ∧ (size1_ + ((slices[x2_.toNat]!).length : Int)) ≤ 9223372036854775807)) (if ((size1_ + ((slices[x2_.toNat]!).length : Int)) : Int) < 0 then none else ck (-9223372036854775808 ≤ (x2_ + 1) ∧ (x2_ + 1) ≤ 9223372036854775807) ((BC N slices n5) ((size1_ + ((slices[x2_.toNat]!).length : Int))) (x2_ + 1)))) else (Ce N size1_).bind fun r21 => BB slices N r21 0
def AF (N : Nat) (slices : List (List UInt8)) : Option (List UInt8) := BC N slices N 0 0
theorem BS (N slices r) (hM : AF N slices = some r) (ro slicesv) (hslices : RdN DH ro slicesv slices) : Does prog 40 #[slicesv] ro [] (p1 (fun s_ => s_) 5 encY r) := by
 unfold AF at hM
 refine Ac follows func40 rfl 36 rfl _ fz1 (fun base0_ => ?_)
 refine AZ rfl <| AZ rfl <| Aa fun K3 hK3 => Ai <| rn 1 rfl <| rL (RdN.shp hslices) rfl <| rz rfl <| Aj <| AU (fun tt ll nn => ∃ (n5 : Nat) (size1_ : Int) (x2_ : Int), (BC N slices n5 size1_ x2_ = some r) ∧ Is [(0, slicesv), (3, vI size1_), (9, slicesv), (10, vI (slices.length : Int)), (11, vI x2_)] [] tt ll ∧ nn = n5 + 1) (N + 1) ?_ ?_
 ·exact ⟨N, 0, 0, hM, Ak rfl rfl, rfl⟩
 clear hM; rintro t l _ ⟨n5, size1_, x2_, hM, ⟨⟨T, rfl⟩, rfl⟩, rfl⟩
 rcases n5 with _ | n5
 ·exact absurd hM (by simp [BC])
 rw [BC] at hM
 refine AZ rfl <| Aa fun K7 hK7 => aD hM rfl (fun hc8 hM => ?_) (fun hc8 hM => ?_)
 ·refine Af <| hK7 _ _ ?_
  refine Aa fun K9 hK9 => Aj <| Ai <| kC hM fun ck11 hM => ?_
  obtain ⟨_, ⟨s12, hs13, rfl⟩, hat14⟩ := RdN.at (E := DH) hslices (CP ck11)
  refine rI (RdN.shp hslices) ck11 rfl <| Mv s12 (vs := [s12]) (x2_.toNat * 1) 0 rfl rfl (fun o w z_ => At.mono z_.ro_cell hat14) rfl <| rz rfl <| Ai <| rn 2 rfl <| rL (Rd.shp hs13) rfl <| kC hM fun ck16 hM => rX ck16 rfl <| rz rfl <| AZ rfl <| aD hM rfl (fun hc18 hM => ?_) (fun hc18 hM => ?_)
  ·refine Ar <| rn 1 rfl ?_
   cases hM
  refine Af <| hK9 _ _ ?_
  refine Ar <| kC hM fun ck19 hM => rX ck19 rfl <| rz rfl <| fg _ (Sub.of suN) ?_
  exact ⟨n5 + 1, by omega, n5, (size1_ + ((slices[x2_.toNat]!).length : Int)), (x2_ + 1), hM, Ak rfl rfl, rfl⟩
 refine AS <| hK3 _ _ ?_
 refine A_sc [(some 24, false)] (conG prog [(24, fun _ _ v_ L_ U_ => ∀ u0_, Ce N size1_ = some u0_ → (p1 (fun s_ => s_) 5 encY u0_) v_ L_ U_)]) <| rn 1 rfl <| kB hM fun r21 hr22 hM => AP (Ls := []) (fun s23 => s23) 5 encY r21 137 _ rfl rfl rfl (cF gt) (fun o w z_ => Lj N size1_ _ hr22 z_.view ) (Ao hr22) (fun s23 S24 H25 => ?_)
 refine rz rfl <| Aa fun K26 hK26 => Ai <| rn 1 rfl <| rL (RdN.shp hslices) rfl <| rz rfl <| Aj <| Be _ (Sub.pick [S24] [0] rfl) <| AU (fun tt ll nn => ∃ (n28 : Nat) (newslice4_ : List UInt8) (x5_ : Int), (BB slices n28 newslice4_ x5_ = some r) ∧ ∃ (vnewslice4_ : Value) (Snewslice4_ : List Bl), Sl 5 encY vnewslice4_ newslice4_ Snewslice4_ ∧ Is [(6, vnewslice4_), (25, slicesv), (26, vI (slices.length : Int)), (27, vI x5_)] (List.flatten [Snewslice4_]) tt ll ∧ nn = n28 + 1) (N + 1) ?_ ?_
 ·exact ⟨N, r21, 0, hM, s23, S24, H25, Ak rfl rfl, rfl⟩
 clear hM; rintro t l _ ⟨n28, newslice4_, x5_, hM, vnewslice4_, Snewslice4_, hnewslice4_, ⟨⟨T, rfl⟩, rfl⟩, rfl⟩
 rcases n28 with _ | n28
 ·exact absurd hM (by simp [BB])
 rw [BB] at hM
 refine AZ rfl <| Aa fun K30 hK30 => aD hM rfl (fun hc31 hM => ?_) (fun hc31 hM => ?_)
 ·refine Af <| hK30 _ _ ?_
  refine Aa fun K32 hK32 => Aj <| Ai <| kC hM fun ck34 hM => ?_
  obtain ⟨_, ⟨s35, hs36, rfl⟩, hat37⟩ := RdN.at (E := DH) hslices (CP ck34)
  refine rI (RdN.shp hslices) ck34 rfl <| Mv s35 (vs := [s35]) (x5_.toNat * 1) 0 rfl rfl (fun o w z_ => At.mono z_.ro_cell hat37) rfl <| rz rfl <| A_regC [(some 33, true)] (conG prog []) <| rn 2 rfl <| kC hM fun ck38 hM => Dg (cs0 := []) (Ls := [Snewslice4_]) 0 (En := encY) rfl rfl rfl rfl rfl hnewslice4_ rfl (AA hs36) rfl rfl rfl rfl rfl (Dk ck38 rfl) (Dj ck38 rfl) rfl (fun s39 S40 H41 => ?_)
  refine rz rfl <| hK32 _ _ ?_
  refine Ar <| kC hM fun ck42 hM => rX ck42 rfl <| rz rfl <| fg _ (Sub.pick [S40] [0] rfl) ?_
  exact ⟨n28 + 1, by omega, n28, (newslice4_ ++ (slices[x5_.toNat]!)), (x5_ + 1), hM, s39, S40, H41, Ak rfl rfl, rfl⟩
 refine AS <| hK26 _ _ ?_
 refine AZ rfl ?_
 cases hM
 refine Au (fun hn => AG (v0 := vnewslice4_) hnewslice4_ (Aw (Sub.pick [Snewslice4_] [0] rfl)) rfl (AV rfl))
def Bs (N : Nat) (s : List UInt8) (rest : List (List UInt8)) : Option (List UInt8) := (KH N ([]) s).bind fun r3 => (AF N rest).bind fun r8 => ck ((r3).length + (r8).length ≤ 140737488355328) (some (r3 ++ r8))
theorem DC (N s rest r) (hM : Bs N s rest = some r) (ro restv) (hrest : RdN DH ro restv rest) : Does prog 177 #[vS s, restv] ro [] (p1 (fun s_ => s_) 5 encY r) := by
 unfold Bs at hM
 refine Ac follows func177 rfl 10 rfl _ fz2 (fun base0_ => ?_)
 refine AZ rfl <| A_sc [(some 6, false), (some 8, false), (some 9, true)] (conG prog [(6, fun _ _ v_ L_ U_ => ∀ u0_, KH N ([]) s = some u0_ → (p1 (fun s_ => s_) 5 encY u0_) v_ L_ U_), (8, fun _ _ v_ L_ U_ => ∀ u0_, AF N rest = some u0_ → (p1 (fun s_ => s_) 5 encY u0_) v_ L_ U_)]) <| rn 1 rfl <| kB hM fun r3 hr4 hM => AP (Ls := []) (fun s5 => s5) 5 encY r3 219 _ rfl rfl rfl (cF fL) (fun o w z_ => Wh N ([]) s _ hr4 z_.view nS ((fun _ _ _ => .inl ⟨rfl, rfl⟩) o w z_)) (Ao hr4) (fun s5 S6 H7 => ?_)
 refine rn 1 rfl <| kB hM fun r8 hr9 hM => AP (Ls := [S6]) (fun s10 => s10) 5 encY r8 40 _ rfl rfl rfl (cF Mq) (fun o w z_ => BS N rest _ hr9 z_.view restv (RdN.mono z_.ro_cell hrest)) (Ao hr9) (fun s10 S11 H12 => ?_)
 refine kC hM fun ck13 hM => Dg (Ls := [S6, S11]) 0 (En := encY) rfl rfl rfl rfl rfl H7 rfl (Ap H12 (Ad (Ls := [S6, S11]) (k := 1) rfl rfl)) rfl rfl rfl rfl rfl (Dk ck13 rfl) (Dj ck13 rfl) rfl (fun s14 S15 H16 => ?_)
 refine rz rfl ?_
 cases hM
 refine Au (fun hn => AG (v0 := s14) H16 (Aw (Sub.pick [S15, S11] [0] rfl)) rfl (AV rfl))
theorem Dz  {c : Addr → Option Value} {x} {vs : List Value} (h : ((AD 5 encY)).V c x vs) : (DH).R c x vs := by obtain ⟨s0, rfl, h0⟩ := h; exact ⟨s0, h0, rfl⟩
def Kh (N : Nat) (m : AN) : Option (List UInt8) := (Ae N ([m.2.2.2.2.2.2.2.2.2.2.2.2.2.2.2.1, m.2.2.2.2.2.2.2.2.2.2.2.2.2.2.2.2.1, m.2.2.2.2.2.2.2.2.2.2.2.2.2.2.2.2.2])).bind fun r7 => (Bs N m.1 ([r7])).bind fun r18 => some r18
theorem Rx (N m r) (hM : Kh N m = some r) (ro : Ro) (mv : AH) (_hm : Bun35R ro mv m) : Does prog 95 #[vA (Ag m mv)] ro [] (p1 (fun s_ => s_) 5 encY r) := by
 unfold Kh at hM
 refine Ac follows func95 rfl 15 rfl _ fz1 (fun base0_ => ?_)
 refine Ai <| rA rfl fun b2 => rz rfl <| Aa fun K3 hK3 => BA [(some 11, false), (some 12, false), (some 13, false), (some 14, false)] (conG prog [(12, fun _ _ v_ L_ U_ => ∀ u0_, Ae N ([m.2.2.2.2.2.2.2.2.2.2.2.2.2.2.2.1, m.2.2.2.2.2.2.2.2.2.2.2.2.2.2.2.2.1, m.2.2.2.2.2.2.2.2.2.2.2.2.2.2.2.2.2]) = some u0_ → (p1 (fun s_ => s_) 5 encY u0_) v_ L_ U_), (14, fun _ _ v_ L_ U_ => ∀ u0_, Ae N ([m.2.2.2.2.2.2.2.2.2.2.2.2.2.2.2.1, m.2.2.2.2.2.2.2.2.2.2.2.2.2.2.2.2.1, m.2.2.2.2.2.2.2.2.2.2.2.2.2.2.2.2.2]) = some u0_ → ∀ u1_, Bs N m.1 ([u0_]) = some u1_ → (p1 (fun s_ => s_) 5 encY u1_) v_ L_ U_)]) [] (by decide +kernel) (fun hn => Ba) ?_
 refine rm 8 [0, 0, 0, 0] rfl ?_
 refine BF (Ls := [[(b2, 35, (Ag m mv))]]) 3 Bf [m.2.2.2.2.2.2.2.2.2.2.2.2.2.2.2.1, m.2.2.2.2.2.2.2.2.2.2.2.2.2.2.2.2.1, m.2.2.2.2.2.2.2.2.2.2.2.2.2.2.2.2.2] [vI m.2.2.2.2.2.2.2.2.2.2.2.2.2.2.2.1, vI m.2.2.2.2.2.2.2.2.2.2.2.2.2.2.2.2.1, vI m.2.2.2.2.2.2.2.2.2.2.2.2.2.2.2.2.2] [vI 0, vI 0, vI 0] rfl rfl rfl rfl rfl rfl rfl (by kernel_rfl) (by kernel_rfl) rfl rfl rfl (fun s4 S5 H6 => ?_)
 refine kB hM fun r7 hr8 hM => AP (Ls := [[(b2, 35, (Ag m mv))], S5]) (fun s9 => s9) 5 encY r7 83 _ rfl rfl rfl (cF BI) (fun o w z_ => Ay N ([m.2.2.2.2.2.2.2.2.2.2.2.2.2.2.2.1, m.2.2.2.2.2.2.2.2.2.2.2.2.2.2.2.2.1, m.2.2.2.2.2.2.2.2.2.2.2.2.2.2.2.2.2]) _ hr8 z_.view s4 ((Ap H6 (Ad (Ls := [[(b2, 35, (Ag m mv))], S5]) (k := 1) rfl rfl)) o w z_)) (Ao hr8) (fun s9 S10 H11 => ?_)
 have hR12 : ((AD 5 encY)).R r7 [s9] S10 := (by have h_ := (Bi (e := 5) (E := encY) H11); exact EncO.cast h_ (by first | rfl | simp only [List.nil_append, List.append_nil, List.append_assoc]))
 refine BF (Ls := [[(b2, 35, (Ag m mv))], S5, S10]) 38 (EncO.raw (AD 5 encY)) [EncO.of (AD 5 encY) hR12] [s9] [nS] rfl rfl rfl rfl rfl rfl rfl (by kernel_rfl) ((CN _ _ _ _ (Bj (AI rfl (Sl.shp H11)) Ei)).trans (by kernel_rfl)) rfl rfl rfl (fun s13 S14 H15 => ?_)
 refine AX (Ls := [[(b2, 35, (Ag m mv))], S5, S10, S14]) (Ls' := [[(b2, 35, (Ag m mv))], S5, S14, S10]) [0, 1, 3, 2] rfl rfl <| Jl (Ls := [[(b2, 35, (Ag m mv))], S5, S14, S10]) (Ls' := [[(b2, 35, (Ag m mv))], S5, (S14 ++ S10)]) (by simp only [List.flatten_cons, List.flatten_nil, List.append_nil, List.append_assoc]) <| Ee (Ls := [[(b2, 35, (Ag m mv))], S5, (S14 ++ S10)]) (p := fun S_ => SlO 38 (AD 5 encY) s13 ([r7]) S_) 2 rfl (SlO.cast (⟨_, _, _, H15, (Items.one hR12), rfl⟩ : SlO 38 (AD 5 encY) s13 [r7] _) (by first | rfl | simp only [List.nil_append, List.append_nil, List.append_assoc])) (fun S16 H17 => ?_)
 refine kB hM fun r18 hr19 hM => AP (Ls := [[(b2, 35, (Ag m mv))], S5, S16]) (fun s20 => s20) 5 encY r18 177 _ rfl rfl rfl (cF GQ) (fun o w z_ => DC N m.1 ([r7]) _ hr19 z_.view s13 ((fun o w z_ => RdN.map (E' := DH) (SlO.view H17 (CF (Ad (Ls := [[(b2, 35, (Ag m mv))], S5, S16]) (k := 2) rfl rfl) o w z_)) rfl (fun _ _ h_ => Dz h_)) o w z_)) (fun _ _ v_ L_ U_ => ⟨fun h_ => h_ _ hr8 _ hr19, fun h_ => by intro _ e_; cases Option.some.inj (e_.symm.trans hr8); intro _ e_; cases Option.some.inj (e_.symm.trans hr19); exact h_⟩) (fun s20 S21 H22 => ?_)
 refine rz rfl <| hK3 _ _ ?_
 cases hM
 refine Au (fun hn => AG (v0 := s20) H22 (Aw (Sub.pick [[(b2, 35, (Ag m mv))], S5, S16, S21] [3] rfl)) rfl (AV rfl))
def JI (N : Nat) (x_0 : List UInt8) (x_1 : Int) : Option (List UInt8) := (Ae N ([x_1])).bind fun r7 => (Bs N x_0 ([r7])).bind fun r18 => some r18
theorem UY (N x_0 x_1 r) (hM : JI N x_0 x_1 = some r) (ro : Ro) : Does prog 104 #[vA #[vS x_0, vI x_1]] ro [] (p1 (fun s_ => s_) 5 encY r) := by
 unfold JI at hM
 refine Ac follows func104 rfl 11 rfl _ fz1 (fun base0_ => ?_)
 refine Ai <| rA rfl fun b2 => rz rfl <| Aa fun K3 hK3 => BA [(some 7, false), (some 8, false), (some 9, false), (some 10, false)] (conG prog [(8, fun _ _ v_ L_ U_ => ∀ u0_, Ae N ([x_1]) = some u0_ → (p1 (fun s_ => s_) 5 encY u0_) v_ L_ U_), (10, fun _ _ v_ L_ U_ => ∀ u0_, Ae N ([x_1]) = some u0_ → ∀ u1_, Bs N x_0 ([u0_]) = some u1_ → (p1 (fun s_ => s_) 5 encY u1_) v_ L_ U_)]) [] (by decide +kernel) (fun hn => Ba) <| rm 4 [0, 0] rfl ?_
 refine BF (Ls := [(EA b2 x_0 x_1)]) 3 Bf [x_1] [vI x_1] [vI 0] rfl rfl rfl rfl rfl rfl rfl (by kernel_rfl) (by kernel_rfl) rfl rfl rfl (fun s4 S5 H6 => ?_)
 refine kB hM fun r7 hr8 hM => AP (Ls := [(EA b2 x_0 x_1), S5]) (fun s9 => s9) 5 encY r7 83 _ rfl rfl rfl (cF BI) (fun o w z_ => Ay N ([x_1]) _ hr8 z_.view s4 ((Ap H6 (Ad (Ls := [(EA b2 x_0 x_1), S5]) (k := 1) rfl rfl)) o w z_)) (Ao hr8) (fun s9 S10 H11 => ?_)
 have hR12 : ((AD 5 encY)).R r7 [s9] S10 := (by have h_ := (Bi (e := 5) (E := encY) H11); exact EncO.cast h_ (by first | rfl | simp only [List.nil_append, List.append_nil, List.append_assoc]))
 refine BF (Ls := [(EA b2 x_0 x_1), S5, S10]) 38 (EncO.raw (AD 5 encY)) [EncO.of (AD 5 encY) hR12] [s9] [nS] rfl rfl rfl rfl rfl rfl rfl (by kernel_rfl) ((CN _ _ _ _ (Bj (AI rfl (Sl.shp H11)) Ei)).trans (by kernel_rfl)) rfl rfl rfl (fun s13 S14 H15 => ?_)
 refine AX (Ls := [(EA b2 x_0 x_1), S5, S10, S14]) (Ls' := [(EA b2 x_0 x_1), S5, S14, S10]) [0, 1, 3, 2] rfl rfl <| Jl (Ls := [(EA b2 x_0 x_1), S5, S14, S10]) (Ls' := [(EA b2 x_0 x_1), S5, (S14 ++ S10)]) (by simp only [List.flatten_cons, List.flatten_nil, List.append_nil, List.append_assoc]) <| Ee (Ls := [(EA b2 x_0 x_1), S5, (S14 ++ S10)]) (p := fun S_ => SlO 38 (AD 5 encY) s13 ([r7]) S_) 2 rfl (SlO.cast (⟨_, _, _, H15, (Items.one hR12), rfl⟩ : SlO 38 (AD 5 encY) s13 [r7] _) (by first | rfl | simp only [List.nil_append, List.append_nil, List.append_assoc])) (fun S16 H17 => ?_)
 refine kB hM fun r18 hr19 hM => AP (Ls := [(EA b2 x_0 x_1), S5, S16]) (fun s20 => s20) 5 encY r18 177 _ rfl rfl rfl (cF GQ) (fun o w z_ => DC N x_0 ([r7]) _ hr19 z_.view s13 ((fun o w z_ => RdN.map (E' := DH) (SlO.view H17 (CF (Ad (Ls := [(EA b2 x_0 x_1), S5, S16]) (k := 2) rfl rfl) o w z_)) rfl (fun _ _ h_ => Dz h_)) o w z_)) (fun _ _ v_ L_ U_ => ⟨fun h_ => h_ _ hr8 _ hr19, fun h_ => by intro _ e_; cases Option.some.inj (e_.symm.trans hr8); intro _ e_; cases Option.some.inj (e_.symm.trans hr19); exact h_⟩) (fun s20 S21 H22 => ?_)
 refine rz rfl <| hK3 _ _ ?_
 cases hM
 refine Au (fun hn => AG (v0 := s20) H22 (Aw (Sub.pick [(EA b2 x_0 x_1), S5, S16, S21] [3] rfl)) rfl (AV rfl))
def Cw (N : Nat) (l' : List (List UInt8 × Int)) : Nat → List UInt8 → Int → Option (List UInt8)
  | 0, _, _ => none
  | n13 + 1, b1_, x2_ => if x2_ < (l'.length : Int) then ck (0 ≤ x2_ ∧ x2_ < (l'.length : Int)) ((JI N ((l'[x2_.toNat]!).1) ((l'[x2_.toNat]!).2)).bind fun r21 => ck ((b1_).length + (r21).length ≤ 140737488355328) (ck (-9223372036854775808 ≤ (x2_ + 1) ∧ (x2_ + 1) ≤ 9223372036854775807) ((Cw N l' n13) (b1_ ++ r21) (x2_ + 1)))) else some b1_
def BK (N : Nat) (l' : List (List UInt8 × Int)) : Option (List UInt8) := (Ae N ([(l'.length : Int)])).bind fun r6 => Cw N l' N r6 0
theorem GB (N l' r) (hM : BK N l' = some r) (ro l'v) (hl' : Rd BQ ro l'v l') : Does prog 103 #[l'v, vF 104 #[] #[]] ro [] (p1 (fun s_ => s_) 5 encY r) := by
 unfold BK at hM
 refine Ac follows func103 rfl 25 rfl _ fz2 (fun base0_ => ?_)
 refine AZ rfl <| A_sc [(some 10, false), (some 11, false)] (conG prog [(11, fun _ _ v_ L_ U_ => ∀ u0_, Ae N ([(l'.length : Int)]) = some u0_ → (p1 (fun s_ => s_) 5 encY u0_) v_ L_ U_)]) <| rn 1 rfl <| rL (Rd.shp hl') rfl <| BF (Ls := []) 3 Bf [(l'.length : Int)] [vI (l'.length : Int)] [vI 0] rfl rfl rfl rfl rfl rfl rfl (by kernel_rfl) (by kernel_rfl) rfl rfl rfl (fun s3 S4 H5 => ?_)
 refine kB hM fun r6 hr7 hM => AP (Ls := [S4]) (fun s8 => s8) 5 encY r6 83 _ rfl rfl rfl (cF BI) (fun o w z_ => Ay N ([(l'.length : Int)]) _ hr7 z_.view s3 ((Ap H5 (Ad (Ls := [S4]) (k := 0) rfl rfl)) o w z_)) (Ao hr7) (fun s8 S9 H10 => ?_)
 refine rz rfl <| Aa fun K11 hK11 => Ai <| rn 1 rfl <| rL (Rd.shp hl') rfl <| rz rfl <| Aj <| Be _ (Sub.pick [S4, S9] [1] rfl) <| AU (fun tt ll nn => ∃ (n13 : Nat) (b1_ : List UInt8) (x2_ : Int), (Cw N l' n13 b1_ x2_ = some r) ∧ ∃ (vb1_ : Value) (Sb1_ : List Bl), Sl 5 encY vb1_ b1_ Sb1_ ∧ Is [(1, vF 104 #[] #[]), (5, vb1_), (12, l'v), (13, vI (l'.length : Int)), (14, vI x2_)] (List.flatten [Sb1_]) tt ll ∧ nn = n13 + 1) (N + 1) ?_ ?_
 ·exact ⟨N, r6, 0, hM, s8, S9, H10, Ak rfl rfl, rfl⟩
 clear hM; rintro t l _ ⟨n13, b1_, x2_, hM, vb1_, Sb1_, hb1_, ⟨⟨T, rfl⟩, rfl⟩, rfl⟩
 rcases n13 with _ | n13
 ·exact absurd hM (by simp [Cw])
 rw [Cw] at hM
 refine AZ rfl <| Aa fun K15 hK15 => aD hM rfl (fun hc16 hM => ?_) (fun hc16 hM => ?_)
 ·refine Af <| hK15 _ _ ?_
  refine Aa fun K17 hK17 => Aj <| Ai <| kC hM fun ck19 hM => rI (Rd.shp hl') ck19 rfl <| rE (AA hl') ck19 0 rfl <| rA rfl fun b20 => ry [0] rfl <| A_regC [(some 21, false), (some 22, true)] (conG prog [(21, fun _ _ v_ L_ U_ => ∀ u0_, JI N ((l'[x2_.toNat]!).1) ((l'[x2_.toNat]!).2) = some u0_ → (p1 (fun s_ => s_) 5 encY u0_) v_ L_ U_)]) <| rm 3 [0] rfl <| kB hM fun r21 hr22 hM => AP (Ls := [(EA b20 ((l'[x2_.toNat]!).1) ((l'[x2_.toNat]!).2)), Sb1_]) (fun s23 => s23) 5 encY r21 104 _ rfl rfl rfl (AO (caps := []) rfl gY rfl) (fun o w z_ => UY N ((l'[x2_.toNat]!).1) ((l'[x2_.toNat]!).2) _ hr22 z_.view ) (Ao hr22) (fun s23 S24 H25 => ?_)
  refine kC hM fun ck26 hM => Dg (Ls := [(EA b20 ((l'[x2_.toNat]!).1) ((l'[x2_.toNat]!).2)), Sb1_, S24]) 1 (En := encY) rfl rfl rfl rfl rfl hb1_ rfl (Ap H25 (Ad (Ls := [(EA b20 ((l'[x2_.toNat]!).1) ((l'[x2_.toNat]!).2)), Sb1_, S24]) (k := 2) rfl rfl)) rfl rfl rfl rfl rfl (Dk ck26 rfl) (Dj ck26 rfl) rfl (fun s27 S28 H29 => ?_)
  refine rz rfl <| hK17 _ _ ?_
  refine Ar <| kC hM fun ck30 hM => rX ck30 rfl <| rz rfl <| fg _ (Sub.pick [(EA b20 ((l'[x2_.toNat]!).1) ((l'[x2_.toNat]!).2)), S28, S24] [1] rfl) ?_
  exact ⟨n13 + 1, by omega, n13, (b1_ ++ r21), (x2_ + 1), hM, s27, S28, H29, Ak rfl rfl, rfl⟩
 refine AS <| hK11 _ _ ?_
 refine AZ rfl ?_
 cases hM
 refine Au (fun hn => AG (v0 := vb1_) hb1_ (Aw (Sub.pick [Sb1_] [0] rfl)) rfl (AV rfl))
def Da (N : Nat) (b : List UInt8) (n : Int) : Option (List UInt8) := (Av N b).bind fun r3 => (Ax N r3 n 2).bind fun r11 => some r11
theorem LT (N b n r) (hM : Da N b n = some r) (ro bv) (hb : Rd encY ro bv b) : Does prog 178 #[bv, vI n] ro [] (p1 (fun s_ => s_) 5 encY r) := by
 unfold Da at hM
 refine Ac follows func178 rfl 9 rfl _ fz2 (fun base0_ => ?_)
 refine AZ rfl <| A_sc [(some 6, false), (some 8, true)] (conG prog [(6, fun _ _ v_ L_ U_ => ∀ u0_, Av N b = some u0_ → (p1 (fun s_ => s_) 5 encY u0_) v_ L_ U_), (8, fun a_ _ v_ L_ U_ => ∀ u0_, Av N b = some u0_ → ∀ u1_, Ax N u0_ n 2 = some u1_ → (pN (List.flatten [Nk (Li a_ 1)]) (oS 5 encY u1_ fun s_0 => (oE s_0 []))) v_ L_ U_)]) <| rn 1 rfl <| kB hM fun r3 hr4 hM => AP (Ls := []) (fun s5 => s5) 5 encY r3 165 _ rfl rfl rfl (cF KA) (fun o w z_ => BZ N b _ hr4 z_.view bv (z_.r hb)) (Ao hr4) (fun s5 S6 H7 => ?_)
 refine rn 1 rfl <| Ki (Ls := [S6]) trivial 0 rfl H7 (fun S8 H9 hn10 => ?_)
 refine kB hM fun r11 hr12 hM => Qf (Ls := [S8]) (FL := [S8]) (RL := []) [0] (oS 5 encY r11 fun s_0 => (oE s_0 [])) (some 8) 164 _ (pc := fun a_ => pN (List.flatten [Nk (Li a_ 1)]) (oS 5 encY r11 fun s_0 => (oE s_0 []))) rfl rfl rfl rfl rfl (cF Fe) (fun o w hn_ z_ => BL N r3 n 2 _ hr12 _ s5 S8 H9) (fun _ _ v_ L_ U_ => ⟨fun h_ => h_ _ hr4 _ hr12, fun h_ => by intro _ e_; cases Option.some.inj (e_.symm.trans hr4); intro _ e_; cases Option.some.inj (e_.symm.trans hr12); exact h_⟩) (fun _ _ _ => Oc (nmF (nmC hn10 nmN))) (fun h_ => nomatch h_) ?_
 rintro s13 _ ⟨_, S14, _, H15, ⟨rfl, rfl⟩, rfl⟩
 refine AX (Ls := [S14]) (Ls' := [S14]) [0] rfl rfl <| rz rfl ?_
 cases hM
 refine Au (fun hn => AG (v0 := s13) H15 (Aw (Sub.pick [S14] [0] rfl)) rfl (AV rfl))
def Gl (N : Nat) (x_0 : List UInt8) (x_1 : List (List UInt8 × Int)) (x_2 : Int) (x_3 : Int) (x_4 : Int) (x_5 : Int) : Option (List UInt8) := (BK N x_1).bind fun r4 => (Ae N ([x_2, x_3, x_4])).bind fun r12 => (Da N ([]) x_5).bind fun r17 => (Bs N x_0 ([r4, r12, r17])).bind fun r30 => some r30
theorem Pz (N x_0 x_1 x_2 x_3 x_4 x_5 r) (hM : Gl N x_0 x_1 x_2 x_3 x_4 x_5 = some r) (ro x_1v) (hx_1 : Rd BQ ro x_1v x_1) : Does prog 98 #[vA #[vS x_0, x_1v, vI x_2, vI x_3, vI x_4, vI x_5]] ro [] (p1 (fun s_ => s_) 5 encY r) := by
 unfold Gl at hM
 refine Ac follows func98 rfl 21 rfl _ fz1 (fun base0_ => ?_)
 refine Ai <| rA rfl fun b2 => rz rfl <| Aa fun K3 hK3 => ?_
 refine BA [(some 7, false), (some 1000000015, false), (some 15, false), (some 18, false), (some 19, false), (some 20, false)] (conG prog [(7, fun _ _ v_ L_ U_ => ∀ u0_, BK N x_1 = some u0_ → (p1 (fun s_ => s_) 5 encY u0_) v_ L_ U_), (15, fun _ _ v_ L_ U_ => ∀ u0_, Ae N ([x_2, x_3, x_4]) = some u0_ → (p1 (fun s_ => s_) 5 encY u0_) v_ L_ U_), (18, fun _ _ v_ L_ U_ => ∀ u0_, Da N ([]) x_5 = some u0_ → (p1 (fun s_ => s_) 5 encY u0_) v_ L_ U_), (20, fun _ _ v_ L_ U_ => ∀ u0_, BK N x_1 = some u0_ → ∀ u1_, Ae N ([x_2, x_3, x_4]) = some u1_ → ∀ u2_, Da N ([]) x_5 = some u2_ → ∀ u3_, Bs N x_0 ([u0_, u1_, u2_]) = some u3_ → (p1 (fun s_ => s_) 5 encY u3_) v_ L_ U_)]) [] (by decide +kernel) (fun hn => Ba) ?_
 refine rm 4 [0, 0] rfl <| kB hM fun r4 hr5 hM => AP (Ls := [(DV b2 x_0 x_1v x_2 x_3 x_4 x_5)]) (fun s6 => s6) 5 encY r4 103 _ rfl rfl rfl (cF Yh) (fun o w z_ => GB N x_1 _ hr5 z_.view x_1v (z_.r hx_1)) (Ao hr5) (fun s6 S7 H8 => ?_)
 refine rm 6 [0, 0, 0] rfl ?_
 refine Rt (Ls := [(DV b2 x_0 x_1v x_2 x_3 x_4 x_5), S7]) 3 Bf [x_2, x_3, x_4] [vI x_2, vI x_3, vI x_4] [vI 0, vI 0, vI 0] rfl rfl rfl rfl rfl rfl rfl (by kernel_rfl) (by kernel_rfl) rfl rfl rfl (fun s9 S10 H11 => ?_)
 refine kB hM fun r12 hr13 hM => AP (Ls := [(DV b2 x_0 x_1v x_2 x_3 x_4 x_5), S7, S10]) (fun s14 => s14) 5 encY r12 83 _ rfl rfl rfl (cF BI) (fun o w z_ => Ay N ([x_2, x_3, x_4]) _ hr13 z_.view s9 ((Ap H11 (Ad (Ls := [(DV b2 x_0 x_1v x_2 x_3 x_4 x_5), S7, S10]) (k := 2) rfl rfl)) o w z_)) (Ao hr13) (fun s14 S15 H16 => ?_)
 refine rm 2 [0] rfl <| kB hM fun r17 hr18 hM => AP (Ls := [(DV b2 x_0 x_1v x_2 x_3 x_4 x_5), S7, S10, S15]) (fun s19 => s19) 5 encY r17 178 _ rfl rfl rfl (cF Pk) (fun o w z_ => LT N ([]) x_5 _ hr18 z_.view nS ((fun _ _ _ => .inl ⟨rfl, rfl⟩) o w z_)) (Ao hr18) (fun s19 S20 H21 => ?_)
 have hR22 : ((AD 5 encY)).R r4 [s6] S7 := (by have h_ := (Bi (e := 5) (E := encY) H8); exact EncO.cast h_ (by first | rfl | simp only [List.nil_append, List.append_nil, List.append_assoc]))
 have hR23 : ((AD 5 encY)).R r12 [s14] S15 := (by have h_ := (Bi (e := 5) (E := encY) H16); exact EncO.cast h_ (by first | rfl | simp only [List.nil_append, List.append_nil, List.append_assoc]))
 have hR24 : ((AD 5 encY)).R r17 [s19] S20 := (by have h_ := (Bi (e := 5) (E := encY) H21); exact EncO.cast h_ (by first | rfl | simp only [List.nil_append, List.append_nil, List.append_assoc]))
 refine BF (Ls := [(DV b2 x_0 x_1v x_2 x_3 x_4 x_5), S7, S10, S15, S20]) 38 (EncO.raw (AD 5 encY)) [EncO.of (AD 5 encY) hR22, EncO.of (AD 5 encY) hR23, EncO.of (AD 5 encY) hR24] [s6, s14, s19] [nS, nS, nS] rfl rfl rfl rfl rfl rfl rfl (by kernel_rfl) ((CN _ _ _ _ (Bj (AI rfl (Sl.shp H8)) (Bj (AI rfl (Sl.shp H16)) (Bj (AI rfl (Sl.shp H21)) Ei)))).trans (by kernel_rfl)) rfl rfl rfl (fun s25 S26 H27 => ?_)
 refine AX (Ls := [(DV b2 x_0 x_1v x_2 x_3 x_4 x_5), S7, S10, S15, S20, S26]) (Ls' := [(DV b2 x_0 x_1v x_2 x_3 x_4 x_5), S10, S26, S7, S15, S20]) [0, 2, 5, 1, 3, 4] rfl rfl <| Jl (Ls := [(DV b2 x_0 x_1v x_2 x_3 x_4 x_5), S10, S26, S7, S15, S20]) (Ls' := [(DV b2 x_0 x_1v x_2 x_3 x_4 x_5), S10, (S26 ++ (S7 ++ (S15 ++ S20)))]) (by simp only [List.flatten_cons, List.flatten_nil, List.append_nil, List.append_assoc]) ?_
 refine Ee (Ls := [(DV b2 x_0 x_1v x_2 x_3 x_4 x_5), S10, (S26 ++ (S7 ++ (S15 ++ S20)))]) (p := fun S_ => SlO 38 (AD 5 encY) s25 ([r4, r12, r17]) S_) 2 rfl (SlO.cast (⟨_, _, _, H27, (Items.append (Items.one hR22) (Items.append (Items.one hR23) (Items.one hR24))), rfl⟩ : SlO 38 (AD 5 encY) s25 [r4, r12, r17] _) (by first | rfl | simp only [List.nil_append, List.append_nil, List.append_assoc])) (fun S28 H29 => ?_)
 refine kB hM fun r30 hr31 hM => AP (Ls := [(DV b2 x_0 x_1v x_2 x_3 x_4 x_5), S10, S28]) (fun s32 => s32) 5 encY r30 177 _ rfl rfl rfl (cF GQ) (fun o w z_ => DC N x_0 ([r4, r12, r17]) _ hr31 z_.view s25 ((fun o w z_ => RdN.map (E' := DH) (SlO.view H29 (CF (Ad (Ls := [(DV b2 x_0 x_1v x_2 x_3 x_4 x_5), S10, S28]) (k := 2) rfl rfl) o w z_)) rfl (fun _ _ h_ => Dz h_)) o w z_)) (fun _ _ v_ L_ U_ => ⟨fun h_ => h_ _ hr5 _ hr13 _ hr18 _ hr31, fun h_ => by intro _ e_; cases Option.some.inj (e_.symm.trans hr5); intro _ e_; cases Option.some.inj (e_.symm.trans hr13); intro _ e_; cases Option.some.inj (e_.symm.trans hr18); intro _ e_; cases Option.some.inj (e_.symm.trans hr31); exact h_⟩) (fun s32 S33 H34 => ?_)
 refine rz rfl <| hK3 _ _ ?_
 cases hM
 refine Au (fun hn => AG (v0 := s32) H34 (Aw (Sub.pick [(DV b2 x_0 x_1v x_2 x_3 x_4 x_5), S10, S28, S33] [3] rfl)) rfl (AV rfl))
def Cl (N : Nat) (l' : List ((List UInt8) × (List (List UInt8 × Int)) × Int × Int × Int × Int)) : Nat → List UInt8 → Int → Option (List UInt8)
  | 0, _, _ => none
  | n13 + 1, b1_, x2_ => if x2_ < (l'.length : Int) then ck (0 ≤ x2_ ∧ x2_ < (l'.length : Int)) ((Gl N (l'[x2_.toNat]!.1) (l'[x2_.toNat]!.2.1) (l'[x2_.toNat]!.2.2.1) (l'[x2_.toNat]!.2.2.2.1) (l'[x2_.toNat]!.2.2.2.2.1) (l'[x2_.toNat]!.2.2.2.2.2)).bind fun r24 => ck ((b1_).length + (r24).length ≤ 140737488355328) (ck (-9223372036854775808 ≤ (x2_ + 1) ∧ (x2_ + 1) ≤ 9223372036854775807) ((Cl N l' n13) (b1_ ++ r24) (x2_ + 1)))) else some b1_
def Dc (N : Nat) (l' : List ((List UInt8) × (List (List UInt8 × Int)) × Int × Int × Int × Int)) : Option (List UInt8) := (Ae N ([(l'.length : Int)])).bind fun r6 => Cl N l' N r6 0
theorem Kf (N l' r) (hM : Dc N l' = some r) (ro l'v) (hl' : RdN Hl ro l'v l') : Does prog 97 #[l'v, vF 98 #[] #[]] ro [] (p1 (fun s_ => s_) 5 encY r) := by
 unfold Dc at hM
 refine Ac follows func97 rfl 25 rfl _ fz2 (fun base0_ => ?_)
 refine AZ rfl <| A_sc [(some 10, false), (some 11, false)] (conG prog [(11, fun _ _ v_ L_ U_ => ∀ u0_, Ae N ([(l'.length : Int)]) = some u0_ → (p1 (fun s_ => s_) 5 encY u0_) v_ L_ U_)]) <| rn 1 rfl <| rL (RdN.shp hl') rfl <| BF (Ls := []) 3 Bf [(l'.length : Int)] [vI (l'.length : Int)] [vI 0] rfl rfl rfl rfl rfl rfl rfl (by kernel_rfl) (by kernel_rfl) rfl rfl rfl (fun s3 S4 H5 => ?_)
 refine kB hM fun r6 hr7 hM => AP (Ls := [S4]) (fun s8 => s8) 5 encY r6 83 _ rfl rfl rfl (cF BI) (fun o w z_ => Ay N ([(l'.length : Int)]) _ hr7 z_.view s3 ((Ap H5 (Ad (Ls := [S4]) (k := 0) rfl rfl)) o w z_)) (Ao hr7) (fun s8 S9 H10 => ?_)
 refine rz rfl <| Aa fun K11 hK11 => Ai <| rn 1 rfl <| rL (RdN.shp hl') rfl <| rz rfl <| Aj <| Be _ (Sub.pick [S4, S9] [1] rfl) <| AU (fun tt ll nn => ∃ (n13 : Nat) (b1_ : List UInt8) (x2_ : Int), (Cl N l' n13 b1_ x2_ = some r) ∧ ∃ (vb1_ : Value) (Sb1_ : List Bl), Sl 5 encY vb1_ b1_ Sb1_ ∧ Is [(1, vF 98 #[] #[]), (5, vb1_), (12, l'v), (13, vI (l'.length : Int)), (14, vI x2_)] (List.flatten [Sb1_]) tt ll ∧ nn = n13 + 1) (N + 1) ?_ ?_
 ·exact ⟨N, r6, 0, hM, s8, S9, H10, Ak rfl rfl, rfl⟩
 clear hM; rintro t l _ ⟨n13, b1_, x2_, hM, vb1_, Sb1_, hb1_, ⟨⟨T, rfl⟩, rfl⟩, rfl⟩
 rcases n13 with _ | n13
 ·exact absurd hM (by simp [Cl])
 rw [Cl] at hM
 refine AZ rfl <| Aa fun K15 hK15 => aD hM rfl (fun hc16 hM => ?_) (fun hc16 hM => ?_)
 ·refine Af <| hK15 _ _ ?_
  refine Aa fun K17 hK17 => Aj <| Ai <| kC hM fun ck19 hM => ?_
  obtain ⟨_, ⟨s20, hs21, rfl⟩, hat22⟩ := RdN.at (E := Hl) hl' (CP ck19)
  refine rI (RdN.shp hl') ck19 rfl <| Mv (vA #[vS (l'[x2_.toNat]!.1), s20, vI (l'[x2_.toNat]!.2.2.1), vI (l'[x2_.toNat]!.2.2.2.1), vI (l'[x2_.toNat]!.2.2.2.2.1), vI (l'[x2_.toNat]!.2.2.2.2.2)]) (vs := [vS (l'[x2_.toNat]!.1), s20, vI (l'[x2_.toNat]!.2.2.1), vI (l'[x2_.toNat]!.2.2.2.1), vI (l'[x2_.toNat]!.2.2.2.2.1), vI (l'[x2_.toNat]!.2.2.2.2.2)]) (x2_.toNat * 6) 0 rfl rfl (fun o w z_ => At.mono z_.ro_cell hat22) rfl <| rA rfl fun b23 => r_s (List.flatten [(DV b23 (l'[x2_.toNat]!.1) s20 (l'[x2_.toNat]!.2.2.1) (l'[x2_.toNat]!.2.2.2.1) (l'[x2_.toNat]!.2.2.2.2.1) (l'[x2_.toNat]!.2.2.2.2.2)), Sb1_]) 0 _ _ _ _ _ (#[vS (l'[x2_.toNat]!.1), s20, vI (l'[x2_.toNat]!.2.2.1), vI (l'[x2_.toNat]!.2.2.2.1), vI (l'[x2_.toNat]!.2.2.2.2.1), vI (l'[x2_.toNat]!.2.2.2.2.2)]) rfl rfl rfl rfl (.ofS rfl rfl (Ab rfl (Ab (Shp.one (Rd.shp hs21)) (Ab rfl (Ab rfl (Ab rfl (Ab rfl Bh))))))) rfl rfl <| As ?_
  refine A_regC [(some 21, false), (some 22, true)] (conG prog [(21, fun _ _ v_ L_ U_ => ∀ u0_, Gl N (l'[x2_.toNat]!.1) (l'[x2_.toNat]!.2.1) (l'[x2_.toNat]!.2.2.1) (l'[x2_.toNat]!.2.2.2.1) (l'[x2_.toNat]!.2.2.2.2.1) (l'[x2_.toNat]!.2.2.2.2.2) = some u0_ → (p1 (fun s_ => s_) 5 encY u0_) v_ L_ U_)]) <| rm 3 [0] rfl <| kB hM fun r24 hr25 hM => AP (Ls := [(DV b23 (l'[x2_.toNat]!.1) s20 (l'[x2_.toNat]!.2.2.1) (l'[x2_.toNat]!.2.2.2.1) (l'[x2_.toNat]!.2.2.2.2.1) (l'[x2_.toNat]!.2.2.2.2.2)), Sb1_]) (fun s26 => s26) 5 encY r24 98 _ rfl rfl rfl (AO (caps := []) rfl jo rfl) (fun o w z_ => Pz N (l'[x2_.toNat]!.1) (l'[x2_.toNat]!.2.1) (l'[x2_.toNat]!.2.2.1) (l'[x2_.toNat]!.2.2.2.1) (l'[x2_.toNat]!.2.2.2.2.1) (l'[x2_.toNat]!.2.2.2.2.2) _ hr25 z_.view s20 (z_.r hs21)) (Ao hr25) (fun s26 S27 H28 => ?_)
  refine kC hM fun ck29 hM => Dg (Ls := [(DV b23 (l'[x2_.toNat]!.1) s20 (l'[x2_.toNat]!.2.2.1) (l'[x2_.toNat]!.2.2.2.1) (l'[x2_.toNat]!.2.2.2.2.1) (l'[x2_.toNat]!.2.2.2.2.2)), Sb1_, S27]) 1 (En := encY) rfl rfl rfl rfl rfl hb1_ rfl (Ap H28 (Ad (Ls := [(DV b23 (l'[x2_.toNat]!.1) s20 (l'[x2_.toNat]!.2.2.1) (l'[x2_.toNat]!.2.2.2.1) (l'[x2_.toNat]!.2.2.2.2.1) (l'[x2_.toNat]!.2.2.2.2.2)), Sb1_, S27]) (k := 2) rfl rfl)) rfl rfl rfl rfl rfl (Dk ck29 rfl) (Dj ck29 rfl) rfl (fun s30 S31 H32 => ?_)
  refine rz rfl <| hK17 _ _ ?_
  refine Ar <| kC hM fun ck33 hM => rX ck33 rfl <| rz rfl <| fg _ (Sub.pick [(DV b23 (l'[x2_.toNat]!.1) s20 (l'[x2_.toNat]!.2.2.1) (l'[x2_.toNat]!.2.2.2.1) (l'[x2_.toNat]!.2.2.2.2.1) (l'[x2_.toNat]!.2.2.2.2.2)), S31, S27] [1] rfl) ?_
  exact ⟨n13 + 1, by omega, n13, (b1_ ++ r24), (x2_ + 1), hM, s30, S31, H32, Ak rfl rfl, rfl⟩
 refine AS <| hK11 _ _ ?_
 refine AZ rfl ?_
 cases hM
 refine Au (fun hn => AG (v0 := vb1_) hb1_ (Aw (Sub.pick [Sb1_] [0] rfl)) rfl (AV rfl))
def FN (N : Nat) (m : AN) : Option (List UInt8) := (Dc N m.2.1).bind fun r4 => some r4
theorem MR (N m r) (hM : FN N m = some r) (ro) (mv : AH) (hm : Bun35R ro mv m) : Does prog 96 #[vA (Ag m mv)] ro [] (p1 (fun s_ => s_) 5 encY r) := by
 unfold FN at hM
 refine Ac follows func96 rfl 6 rfl _ fz1 (fun base0_ => ?_)
 refine Ai <| rA rfl fun b2 => rz rfl <| A_sc [(some 5, false)] (conG prog [(5, fun _ _ v_ L_ U_ => ∀ u0_, Dc N m.2.1 = some u0_ → (p1 (fun s_ => s_) 5 encY u0_) v_ L_ U_)]) <| rm 2 [0] rfl <| kB hM fun r4 hr5 hM => AP (Ls := [[(b2, 35, (Ag m mv))]]) (fun s6 => s6) 5 encY r4 97 _ rfl rfl rfl (cF jp) (fun o w z_ => Kf N m.2.1 _ hr5 z_.view mv.1 (RdN.mono z_.ro_cell hm.1)) (Ao hr5) (fun s6 S7 H8 => ?_)
 refine rz rfl ?_
 cases hM
 refine Au (fun hn => AG (v0 := s6) H8 (Aw (Sub.pick [[(b2, 35, (Ag m mv))], S7] [1] rfl)) rfl (AV rfl))
def KM (N : Nat) (x_0 : List UInt8) (x_1 : Int) (x_2 : Int) : Option (List UInt8) := (Ae N ([x_1, x_2])).bind fun r7 => (Bs N x_0 ([r7])).bind fun r18 => some r18
theorem WA (N x_0 x_1 x_2 r) (hM : KM N x_0 x_1 x_2 = some r) (ro : Ro) : Does prog 101 #[vA #[vS x_0, vI x_1, vI x_2]] ro [] (p1 (fun s_ => s_) 5 encY r) := by
 unfold KM at hM
 refine Ac follows func101 rfl 13 rfl _ fz1 (fun base0_ => ?_)
 refine Ai <| rA rfl fun b2 => rz rfl <| Aa fun K3 hK3 => BA [(some 9, false), (some 10, false), (some 11, false), (some 12, false)] (conG prog [(10, fun _ _ v_ L_ U_ => ∀ u0_, Ae N ([x_1, x_2]) = some u0_ → (p1 (fun s_ => s_) 5 encY u0_) v_ L_ U_), (12, fun _ _ v_ L_ U_ => ∀ u0_, Ae N ([x_1, x_2]) = some u0_ → ∀ u1_, Bs N x_0 ([u0_]) = some u1_ → (p1 (fun s_ => s_) 5 encY u1_) v_ L_ U_)]) [] (by decide +kernel) (fun hn => Ba) <| rm 6 [0, 0, 0] rfl ?_
 refine BF (Ls := [(Ez b2 x_0 x_1 x_2)]) 3 Bf [x_1, x_2] [vI x_1, vI x_2] [vI 0, vI 0] rfl rfl rfl rfl rfl rfl rfl (by kernel_rfl) (by kernel_rfl) rfl rfl rfl (fun s4 S5 H6 => ?_)
 refine kB hM fun r7 hr8 hM => AP (Ls := [(Ez b2 x_0 x_1 x_2), S5]) (fun s9 => s9) 5 encY r7 83 _ rfl rfl rfl (cF BI) (fun o w z_ => Ay N ([x_1, x_2]) _ hr8 z_.view s4 ((Ap H6 (Ad (Ls := [(Ez b2 x_0 x_1 x_2), S5]) (k := 1) rfl rfl)) o w z_)) (Ao hr8) (fun s9 S10 H11 => ?_)
 have hR12 : ((AD 5 encY)).R r7 [s9] S10 := (by have h_ := (Bi (e := 5) (E := encY) H11); exact EncO.cast h_ (by first | rfl | simp only [List.nil_append, List.append_nil, List.append_assoc]))
 refine BF (Ls := [(Ez b2 x_0 x_1 x_2), S5, S10]) 38 (EncO.raw (AD 5 encY)) [EncO.of (AD 5 encY) hR12] [s9] [nS] rfl rfl rfl rfl rfl rfl rfl (by kernel_rfl) ((CN _ _ _ _ (Bj (AI rfl (Sl.shp H11)) Ei)).trans (by kernel_rfl)) rfl rfl rfl (fun s13 S14 H15 => ?_)
 refine AX (Ls := [(Ez b2 x_0 x_1 x_2), S5, S10, S14]) (Ls' := [(Ez b2 x_0 x_1 x_2), S5, S14, S10]) [0, 1, 3, 2] rfl rfl <| Jl (Ls := [(Ez b2 x_0 x_1 x_2), S5, S14, S10]) (Ls' := [(Ez b2 x_0 x_1 x_2), S5, (S14 ++ S10)]) (by simp only [List.flatten_cons, List.flatten_nil, List.append_nil, List.append_assoc]) ?_
 refine Ee (Ls := [(Ez b2 x_0 x_1 x_2), S5, (S14 ++ S10)]) (p := fun S_ => SlO 38 (AD 5 encY) s13 ([r7]) S_) 2 rfl (SlO.cast (⟨_, _, _, H15, (Items.one hR12), rfl⟩ : SlO 38 (AD 5 encY) s13 [r7] _) (by first | rfl | simp only [List.nil_append, List.append_nil, List.append_assoc])) (fun S16 H17 => ?_)
 refine kB hM fun r18 hr19 hM => AP (Ls := [(Ez b2 x_0 x_1 x_2), S5, S16]) (fun s20 => s20) 5 encY r18 177 _ rfl rfl rfl (cF GQ) (fun o w z_ => DC N x_0 ([r7]) _ hr19 z_.view s13 ((fun o w z_ => RdN.map (E' := DH) (SlO.view H17 (CF (Ad (Ls := [(Ez b2 x_0 x_1 x_2), S5, S16]) (k := 2) rfl rfl) o w z_)) rfl (fun _ _ h_ => Dz h_)) o w z_)) (fun _ _ v_ L_ U_ => ⟨fun h_ => h_ _ hr8 _ hr19, fun h_ => by intro _ e_; cases Option.some.inj (e_.symm.trans hr8); intro _ e_; cases Option.some.inj (e_.symm.trans hr19); exact h_⟩) (fun s20 S21 H22 => ?_)
 refine rz rfl <| hK3 _ _ ?_
 cases hM
 refine Au (fun hn => AG (v0 := s20) H22 (Aw (Sub.pick [(Ez b2 x_0 x_1 x_2), S5, S16, S21] [3] rfl)) rfl (AV rfl))
def Cy (N : Nat) (l' : List (List UInt8 × Int × Int)) : Nat → List UInt8 → Int → Option (List UInt8)
  | 0, _, _ => none
  | n13 + 1, b1_, x2_ => if x2_ < (l'.length : Int) then ck (0 ≤ x2_ ∧ x2_ < (l'.length : Int)) ((KM N ((l'[x2_.toNat]!).1) ((l'[x2_.toNat]!).2.1) ((l'[x2_.toNat]!).2.2)).bind fun r21 => ck ((b1_).length + (r21).length ≤ 140737488355328) (ck (-9223372036854775808 ≤ (x2_ + 1) ∧ (x2_ + 1) ≤ 9223372036854775807) ((Cy N l' n13) (b1_ ++ r21) (x2_ + 1)))) else some b1_
def DD (N : Nat) (l' : List (List UInt8 × Int × Int)) : Option (List UInt8) := (Ae N ([(l'.length : Int)])).bind fun r6 => Cy N l' N r6 0
theorem Lm (N l' r) (hM : DD N l' = some r) (ro l'v) (hl' : Rd IB ro l'v l') : Does prog 100 #[l'v, vF 101 #[] #[]] ro [] (p1 (fun s_ => s_) 5 encY r) := by
 unfold DD at hM
 refine Ac follows func100 rfl 25 rfl _ fz2 (fun base0_ => ?_)
 refine AZ rfl <| A_sc [(some 10, false), (some 11, false)] (conG prog [(11, fun _ _ v_ L_ U_ => ∀ u0_, Ae N ([(l'.length : Int)]) = some u0_ → (p1 (fun s_ => s_) 5 encY u0_) v_ L_ U_)]) <| rn 1 rfl <| rL (Rd.shp hl') rfl <| BF (Ls := []) 3 Bf [(l'.length : Int)] [vI (l'.length : Int)] [vI 0] rfl rfl rfl rfl rfl rfl rfl (by kernel_rfl) (by kernel_rfl) rfl rfl rfl (fun s3 S4 H5 => ?_)
 refine kB hM fun r6 hr7 hM => AP (Ls := [S4]) (fun s8 => s8) 5 encY r6 83 _ rfl rfl rfl (cF BI) (fun o w z_ => Ay N ([(l'.length : Int)]) _ hr7 z_.view s3 ((Ap H5 (Ad (Ls := [S4]) (k := 0) rfl rfl)) o w z_)) (Ao hr7) (fun s8 S9 H10 => ?_)
 refine rz rfl <| Aa fun K11 hK11 => Ai <| rn 1 rfl <| rL (Rd.shp hl') rfl <| rz rfl <| Aj <| Be _ (Sub.pick [S4, S9] [1] rfl) <| AU (fun tt ll nn => ∃ (n13 : Nat) (b1_ : List UInt8) (x2_ : Int), (Cy N l' n13 b1_ x2_ = some r) ∧ ∃ (vb1_ : Value) (Sb1_ : List Bl), Sl 5 encY vb1_ b1_ Sb1_ ∧ Is [(1, vF 101 #[] #[]), (5, vb1_), (12, l'v), (13, vI (l'.length : Int)), (14, vI x2_)] (List.flatten [Sb1_]) tt ll ∧ nn = n13 + 1) (N + 1) ?_ ?_
 ·exact ⟨N, r6, 0, hM, s8, S9, H10, Ak rfl rfl, rfl⟩
 clear hM; rintro t l _ ⟨n13, b1_, x2_, hM, vb1_, Sb1_, hb1_, ⟨⟨T, rfl⟩, rfl⟩, rfl⟩
 rcases n13 with _ | n13
 ·exact absurd hM (by simp [Cy])
 rw [Cy] at hM
 refine AZ rfl <| Aa fun K15 hK15 => aD hM rfl (fun hc16 hM => ?_) (fun hc16 hM => ?_)
 ·refine Af <| hK15 _ _ ?_
  refine Aa fun K17 hK17 => Aj <| Ai <| kC hM fun ck19 hM => rI (Rd.shp hl') ck19 rfl <| rE (AA hl') ck19 0 rfl <| rA rfl fun b20 => ry [0] rfl <| A_regC [(some 21, false), (some 22, true)] (conG prog [(21, fun _ _ v_ L_ U_ => ∀ u0_, KM N ((l'[x2_.toNat]!).1) ((l'[x2_.toNat]!).2.1) ((l'[x2_.toNat]!).2.2) = some u0_ → (p1 (fun s_ => s_) 5 encY u0_) v_ L_ U_)]) <| rn 2 rfl ?_
  refine rm 1 [0] rfl <| kB hM fun r21 hr22 hM => AP (Ls := [(Ez b20 ((l'[x2_.toNat]!).1) ((l'[x2_.toNat]!).2.1) ((l'[x2_.toNat]!).2.2)), Sb1_]) (fun s23 => s23) 5 encY r21 101 _ rfl rfl rfl (AO (caps := []) rfl hC rfl) (fun o w z_ => WA N ((l'[x2_.toNat]!).1) ((l'[x2_.toNat]!).2.1) ((l'[x2_.toNat]!).2.2) _ hr22 z_.view ) (Ao hr22) (fun s23 S24 H25 => ?_)
  refine kC hM fun ck26 hM => Dg (Ls := [(Ez b20 ((l'[x2_.toNat]!).1) ((l'[x2_.toNat]!).2.1) ((l'[x2_.toNat]!).2.2)), Sb1_, S24]) 1 (En := encY) rfl rfl rfl rfl rfl hb1_ rfl (Ap H25 (Ad (Ls := [(Ez b20 ((l'[x2_.toNat]!).1) ((l'[x2_.toNat]!).2.1) ((l'[x2_.toNat]!).2.2)), Sb1_, S24]) (k := 2) rfl rfl)) rfl rfl rfl rfl rfl (Dk ck26 rfl) (Dj ck26 rfl) rfl (fun s27 S28 H29 => ?_)
  refine rz rfl <| hK17 _ _ ?_
  refine Ar <| kC hM fun ck30 hM => rX ck30 rfl <| rz rfl <| fg _ (Sub.pick [(Ez b20 ((l'[x2_.toNat]!).1) ((l'[x2_.toNat]!).2.1) ((l'[x2_.toNat]!).2.2)), S28, S24] [1] rfl) ?_
  exact ⟨n13 + 1, by omega, n13, (b1_ ++ r21), (x2_ + 1), hM, s27, S28, H29, Ak rfl rfl, rfl⟩
 refine AS <| hK11 _ _ ?_
 refine AZ rfl ?_
 cases hM
 refine Au (fun hn => AG (v0 := vb1_) hb1_ (Aw (Sub.pick [Sb1_] [0] rfl)) rfl (AV rfl))
def FM (N : Nat) (m : AN) : Option (List UInt8) := (DD N m.2.2.1).bind fun r4 => some r4
theorem MQ (N m r) (hM : FM N m = some r) (ro) (mv : AH) (hm : Bun35R ro mv m) : Does prog 99 #[vA (Ag m mv)] ro [] (p1 (fun s_ => s_) 5 encY r) := by
 unfold FM at hM
 refine Ac follows func99 rfl 6 rfl _ fz1 (fun base0_ => ?_)
 refine Ai <| rA rfl fun b2 => rz rfl <| A_sc [(some 5, false)] (conG prog [(5, fun _ _ v_ L_ U_ => ∀ u0_, DD N m.2.2.1 = some u0_ → (p1 (fun s_ => s_) 5 encY u0_) v_ L_ U_)]) <| rm 2 [0] rfl <| kB hM fun r4 hr5 hM => AP (Ls := [[(b2, 35, (Ag m mv))]]) (fun s6 => s6) 5 encY r4 100 _ rfl rfl rfl (cF hE) (fun o w z_ => Lm N m.2.2.1 _ hr5 z_.view mv.2.1 ((AA hm.2.1) o w z_)) (Ao hr5) (fun s6 S7 H8 => ?_)
 refine rz rfl ?_
 cases hM
 refine Au (fun hn => AG (v0 := s6) H8 (Aw (Sub.pick [[(b2, 35, (Ag m mv))], S7] [1] rfl)) rfl (AV rfl))
def FK (N : Nat) (m : AN) : Option (List UInt8) := (BK N m.2.2.2.1).bind fun r4 => some r4
theorem MP (N m r) (hM : FK N m = some r) (ro) (mv : AH) (hm : Bun35R ro mv m) : Does prog 102 #[vA (Ag m mv)] ro [] (p1 (fun s_ => s_) 5 encY r) := by
 unfold FK at hM
 refine Ac follows func102 rfl 6 rfl _ fz1 (fun base0_ => ?_)
 refine Ai <| rA rfl fun b2 => rz rfl <| A_sc [(some 5, false)] (conG prog [(5, fun _ _ v_ L_ U_ => ∀ u0_, BK N m.2.2.2.1 = some u0_ → (p1 (fun s_ => s_) 5 encY u0_) v_ L_ U_)]) <| rm 2 [0] rfl <| kB hM fun r4 hr5 hM => AP (Ls := [[(b2, 35, (Ag m mv))]]) (fun s6 => s6) 5 encY r4 103 _ rfl rfl rfl (cF Yh) (fun o w z_ => GB N m.2.2.2.1 _ hr5 z_.view mv.2.2.1 ((AA hm.2.2.1) o w z_)) (Ao hr5) (fun s6 S7 H8 => ?_)
 refine rz rfl ?_
 cases hM
 refine Au (fun hn => AG (v0 := s6) H8 (Aw (Sub.pick [[(b2, 35, (Ag m mv))], S7] [1] rfl)) rfl (AV rfl))
def Fr (N : Nat) (x_0 : Int) (x_1 : Int) : Option (List UInt8) := (Ae N ([x_0, x_1])).bind fun r7 => some r7
theorem OG (N x_0 x_1 r) (hM : Fr N x_0 x_1 = some r) (ro : Ro) : Does prog 180 #[vA #[vI x_0, vI x_1]] ro [] (p1 (fun s_ => s_) 5 encY r) := by
 unfold Fr at hM
 refine Ac follows func180 rfl 9 rfl _ fz1 (fun base0_ => ?_)
 refine Ai <| rA rfl fun b2 => rz rfl <| A_sc [(some 7, false), (some 8, false)] (conG prog [(8, fun _ _ v_ L_ U_ => ∀ u0_, Ae N ([x_0, x_1]) = some u0_ → (p1 (fun s_ => s_) 5 encY u0_) v_ L_ U_)]) <| rm 4 [0, 0] rfl <| BF (Ls := [(Jo b2 x_0 x_1)]) 3 Bf [x_0, x_1] [vI x_0, vI x_1] [vI 0, vI 0] rfl rfl rfl rfl rfl rfl rfl (by kernel_rfl) (by kernel_rfl) rfl rfl rfl (fun s4 S5 H6 => ?_)
 refine kB hM fun r7 hr8 hM => AP (Ls := [(Jo b2 x_0 x_1), S5]) (fun s9 => s9) 5 encY r7 83 _ rfl rfl rfl (cF BI) (fun o w z_ => Ay N ([x_0, x_1]) _ hr8 z_.view s4 ((Ap H6 (Ad (Ls := [(Jo b2 x_0 x_1), S5]) (k := 1) rfl rfl)) o w z_)) (Ao hr8) (fun s9 S10 H11 => ?_)
 refine rz rfl ?_
 cases hM
 refine Au (fun hn => AG (v0 := s9) H11 (Aw (Sub.pick [(Jo b2 x_0 x_1), S5, S10] [2] rfl)) rfl (AV rfl))
def CJ (N : Nat) (l' : List (Int × Int)) : Nat → List UInt8 → Int → Option (List UInt8)
  | 0, _, _ => none
  | n13 + 1, b1_, x2_ => if x2_ < (l'.length : Int) then ck (0 ≤ x2_ ∧ x2_ < (l'.length : Int)) ((Fr N ((l'[x2_.toNat]!).1) ((l'[x2_.toNat]!).2)).bind fun r21 => ck ((b1_).length + (r21).length ≤ 140737488355328) (ck (-9223372036854775808 ≤ (x2_ + 1) ∧ (x2_ + 1) ≤ 9223372036854775807) ((CJ N l' n13) (b1_ ++ r21) (x2_ + 1)))) else some b1_
def CV (N : Nat) (l' : List (Int × Int)) : Option (List UInt8) := (Ae N ([(l'.length : Int)])).bind fun r6 => CJ N l' N r6 0
theorem LH (N l' r) (hM : CV N l' = some r) (ro l'v) (hl' : Rd JQ ro l'v l') : Does prog 179 #[l'v, vF 180 #[] #[]] ro [] (p1 (fun s_ => s_) 5 encY r) := by
 unfold CV at hM
 refine Ac follows func179 rfl 25 rfl _ fz2 (fun base0_ => ?_)
 refine AZ rfl <| A_sc [(some 10, false), (some 11, false)] (conG prog [(11, fun _ _ v_ L_ U_ => ∀ u0_, Ae N ([(l'.length : Int)]) = some u0_ → (p1 (fun s_ => s_) 5 encY u0_) v_ L_ U_)]) <| rn 1 rfl <| rL (Rd.shp hl') rfl <| BF (Ls := []) 3 Bf [(l'.length : Int)] [vI (l'.length : Int)] [vI 0] rfl rfl rfl rfl rfl rfl rfl (by kernel_rfl) (by kernel_rfl) rfl rfl rfl (fun s3 S4 H5 => ?_)
 refine kB hM fun r6 hr7 hM => AP (Ls := [S4]) (fun s8 => s8) 5 encY r6 83 _ rfl rfl rfl (cF BI) (fun o w z_ => Ay N ([(l'.length : Int)]) _ hr7 z_.view s3 ((Ap H5 (Ad (Ls := [S4]) (k := 0) rfl rfl)) o w z_)) (Ao hr7) (fun s8 S9 H10 => ?_)
 refine rz rfl <| Aa fun K11 hK11 => Ai <| rn 1 rfl <| rL (Rd.shp hl') rfl <| rz rfl <| Aj <| Be _ (Sub.pick [S4, S9] [1] rfl) <| AU (fun tt ll nn => ∃ (n13 : Nat) (b1_ : List UInt8) (x2_ : Int), (CJ N l' n13 b1_ x2_ = some r) ∧ ∃ (vb1_ : Value) (Sb1_ : List Bl), Sl 5 encY vb1_ b1_ Sb1_ ∧ Is [(1, vF 180 #[] #[]), (5, vb1_), (12, l'v), (13, vI (l'.length : Int)), (14, vI x2_)] (List.flatten [Sb1_]) tt ll ∧ nn = n13 + 1) (N + 1) ?_ ?_
 ·exact ⟨N, r6, 0, hM, s8, S9, H10, Ak rfl rfl, rfl⟩
 clear hM; rintro t l _ ⟨n13, b1_, x2_, hM, vb1_, Sb1_, hb1_, ⟨⟨T, rfl⟩, rfl⟩, rfl⟩
 rcases n13 with _ | n13
 ·exact absurd hM (by simp [CJ])
 rw [CJ] at hM
 refine AZ rfl <| Aa fun K15 hK15 => aD hM rfl (fun hc16 hM => ?_) (fun hc16 hM => ?_)
 ·refine Af <| hK15 _ _ ?_
  refine Aa fun K17 hK17 => Aj <| Ai <| kC hM fun ck19 hM => rI (Rd.shp hl') ck19 rfl <| rE (AA hl') ck19 0 rfl <| rA rfl fun b20 => ry [0] rfl <| A_regC [(some 21, false), (some 22, true)] (conG prog [(21, fun _ _ v_ L_ U_ => ∀ u0_, Fr N ((l'[x2_.toNat]!).1) ((l'[x2_.toNat]!).2) = some u0_ → (p1 (fun s_ => s_) 5 encY u0_) v_ L_ U_)]) <| rm 3 [0] rfl <| kB hM fun r21 hr22 hM => AP (Ls := [(Jo b20 ((l'[x2_.toNat]!).1) ((l'[x2_.toNat]!).2)), Sb1_]) (fun s23 => s23) 5 encY r21 180 _ rfl rfl rfl (AO (caps := []) rfl gk rfl) (fun o w z_ => OG N ((l'[x2_.toNat]!).1) ((l'[x2_.toNat]!).2) _ hr22 z_.view ) (Ao hr22) (fun s23 S24 H25 => ?_)
  refine kC hM fun ck26 hM => Dg (Ls := [(Jo b20 ((l'[x2_.toNat]!).1) ((l'[x2_.toNat]!).2)), Sb1_, S24]) 1 (En := encY) rfl rfl rfl rfl rfl hb1_ rfl (Ap H25 (Ad (Ls := [(Jo b20 ((l'[x2_.toNat]!).1) ((l'[x2_.toNat]!).2)), Sb1_, S24]) (k := 2) rfl rfl)) rfl rfl rfl rfl rfl (Dk ck26 rfl) (Dj ck26 rfl) rfl (fun s27 S28 H29 => ?_)
  refine rz rfl <| hK17 _ _ ?_
  refine Ar <| kC hM fun ck30 hM => rX ck30 rfl <| rz rfl <| fg _ (Sub.pick [(Jo b20 ((l'[x2_.toNat]!).1) ((l'[x2_.toNat]!).2)), S28, S24] [1] rfl) ?_
  exact ⟨n13 + 1, by omega, n13, (b1_ ++ r21), (x2_ + 1), hM, s27, S28, H29, Ak rfl rfl, rfl⟩
 refine AS <| hK11 _ _ ?_
 refine AZ rfl ?_
 cases hM
 refine Au (fun hn => AG (v0 := vb1_) hb1_ (Aw (Sub.pick [Sb1_] [0] rfl)) rfl (AV rfl))
def HG (N : Nat) (x_0 : Int) (x_1 : Int) (x_2 : Int) : Option (List UInt8) := (Ae N ([x_0])).bind fun r7 => (Da N ([]) x_1).bind fun r12 => (Ae N ([x_2])).bind fun r20 => (AF N ([r7, r12, r20])).bind fun r33 => some r33
theorem Rw (N x_0 x_1 x_2 r) (hM : HG N x_0 x_1 x_2 = some r) (ro : Ro) : Does prog 182 #[vA #[vI x_0, vI x_1, vI x_2]] ro [] (p1 (fun s_ => s_) 5 encY r) := by
 unfold HG at hM
 refine Ac follows func182 rfl 16 rfl _ fz1 (fun base0_ => ?_)
 refine Ai <| rA rfl fun b2 => rz rfl <| Aa fun K3 hK3 => ?_
 refine BA [(some 1000000006, false), (some 6, false), (some 9, false), (some 1000000013, false), (some 13, false), (some 14, false), (some 15, false)] (conG prog [(6, fun _ _ v_ L_ U_ => ∀ u0_, Ae N ([x_0]) = some u0_ → (p1 (fun s_ => s_) 5 encY u0_) v_ L_ U_), (9, fun _ _ v_ L_ U_ => ∀ u0_, Da N ([]) x_1 = some u0_ → (p1 (fun s_ => s_) 5 encY u0_) v_ L_ U_), (13, fun _ _ v_ L_ U_ => ∀ u0_, Ae N ([x_2]) = some u0_ → (p1 (fun s_ => s_) 5 encY u0_) v_ L_ U_), (15, fun _ _ v_ L_ U_ => ∀ u0_, Ae N ([x_0]) = some u0_ → ∀ u1_, Da N ([]) x_1 = some u1_ → ∀ u2_, Ae N ([x_2]) = some u2_ → ∀ u3_, AF N ([u0_, u1_, u2_]) = some u3_ → (p1 (fun s_ => s_) 5 encY u3_) v_ L_ U_)]) [] (by decide +kernel) (fun hn => Ba) ?_
 refine rm 2 [0] rfl ?_
 refine Rt (Ls := [(CW b2 x_0 x_1 x_2)]) 3 Bf [x_0] [vI x_0] [vI 0] rfl rfl rfl rfl rfl rfl rfl (by kernel_rfl) (by kernel_rfl) rfl rfl rfl (fun s4 S5 H6 => ?_)
 refine kB hM fun r7 hr8 hM => AP (Ls := [(CW b2 x_0 x_1 x_2), S5]) (fun s9 => s9) 5 encY r7 83 _ rfl rfl rfl (cF BI) (fun o w z_ => Ay N ([x_0]) _ hr8 z_.view s4 ((Ap H6 (Ad (Ls := [(CW b2 x_0 x_1 x_2), S5]) (k := 1) rfl rfl)) o w z_)) (Ao hr8) (fun s9 S10 H11 => ?_)
 refine rm 2 [0] rfl <| kB hM fun r12 hr13 hM => AP (Ls := [(CW b2 x_0 x_1 x_2), S5, S10]) (fun s14 => s14) 5 encY r12 178 _ rfl rfl rfl (cF Pk) (fun o w z_ => LT N ([]) x_1 _ hr13 z_.view nS ((fun _ _ _ => .inl ⟨rfl, rfl⟩) o w z_)) (Ao hr13) (fun s14 S15 H16 => ?_)
 refine rm 2 [0] rfl ?_
 refine Rt (Ls := [(CW b2 x_0 x_1 x_2), S5, S10, S15]) 3 Bf [x_2] [vI x_2] [vI 0] rfl rfl rfl rfl rfl rfl rfl (by kernel_rfl) (by kernel_rfl) rfl rfl rfl (fun s17 S18 H19 => ?_)
 refine kB hM fun r20 hr21 hM => AP (Ls := [(CW b2 x_0 x_1 x_2), S5, S10, S15, S18]) (fun s22 => s22) 5 encY r20 83 _ rfl rfl rfl (cF BI) (fun o w z_ => Ay N ([x_2]) _ hr21 z_.view s17 ((Ap H19 (Ad (Ls := [(CW b2 x_0 x_1 x_2), S5, S10, S15, S18]) (k := 4) rfl rfl)) o w z_)) (Ao hr21) (fun s22 S23 H24 => ?_)
 have hR25 : ((AD 5 encY)).R r7 [s9] S10 := (by have h_ := (Bi (e := 5) (E := encY) H11); exact EncO.cast h_ (by first | rfl | simp only [List.nil_append, List.append_nil, List.append_assoc]))
 have hR26 : ((AD 5 encY)).R r12 [s14] S15 := (by have h_ := (Bi (e := 5) (E := encY) H16); exact EncO.cast h_ (by first | rfl | simp only [List.nil_append, List.append_nil, List.append_assoc]))
 have hR27 : ((AD 5 encY)).R r20 [s22] S23 := (by have h_ := (Bi (e := 5) (E := encY) H24); exact EncO.cast h_ (by first | rfl | simp only [List.nil_append, List.append_nil, List.append_assoc]))
 refine BF (Ls := [(CW b2 x_0 x_1 x_2), S5, S10, S15, S18, S23]) 38 (EncO.raw (AD 5 encY)) [EncO.of (AD 5 encY) hR25, EncO.of (AD 5 encY) hR26, EncO.of (AD 5 encY) hR27] [s9, s14, s22] [nS, nS, nS] rfl rfl rfl rfl rfl rfl rfl (by kernel_rfl) ((CN _ _ _ _ (Bj (AI rfl (Sl.shp H11)) (Bj (AI rfl (Sl.shp H16)) (Bj (AI rfl (Sl.shp H24)) Ei)))).trans (by kernel_rfl)) rfl rfl rfl (fun s28 S29 H30 => ?_)
 refine AX (Ls := [(CW b2 x_0 x_1 x_2), S5, S10, S15, S18, S23, S29]) (Ls' := [(CW b2 x_0 x_1 x_2), S5, S18, S29, S10, S15, S23]) [0, 1, 4, 6, 2, 3, 5] rfl rfl <| Jl (Ls := [(CW b2 x_0 x_1 x_2), S5, S18, S29, S10, S15, S23]) (Ls' := [(CW b2 x_0 x_1 x_2), S5, S18, (S29 ++ (S10 ++ (S15 ++ S23)))]) (by simp only [List.flatten_cons, List.flatten_nil, List.append_nil, List.append_assoc]) ?_
 refine Ee (Ls := [(CW b2 x_0 x_1 x_2), S5, S18, (S29 ++ (S10 ++ (S15 ++ S23)))]) (p := fun S_ => SlO 38 (AD 5 encY) s28 ([r7, r12, r20]) S_) 3 rfl (SlO.cast (⟨_, _, _, H30, (Items.append (Items.one hR25) (Items.append (Items.one hR26) (Items.one hR27))), rfl⟩ : SlO 38 (AD 5 encY) s28 [r7, r12, r20] _) (by first | rfl | simp only [List.nil_append, List.append_nil, List.append_assoc])) (fun S31 H32 => ?_)
 refine kB hM fun r33 hr34 hM => AP (Ls := [(CW b2 x_0 x_1 x_2), S5, S18, S31]) (fun s35 => s35) 5 encY r33 40 _ rfl rfl rfl (cF Mq) (fun o w z_ => BS N ([r7, r12, r20]) _ hr34 z_.view s28 ((fun o w z_ => RdN.map (E' := DH) (SlO.view H32 (CF (Ad (Ls := [(CW b2 x_0 x_1 x_2), S5, S18, S31]) (k := 3) rfl rfl) o w z_)) rfl (fun _ _ h_ => Dz h_)) o w z_)) (fun _ _ v_ L_ U_ => ⟨fun h_ => h_ _ hr8 _ hr13 _ hr21 _ hr34, fun h_ => by intro _ e_; cases Option.some.inj (e_.symm.trans hr8); intro _ e_; cases Option.some.inj (e_.symm.trans hr13); intro _ e_; cases Option.some.inj (e_.symm.trans hr21); intro _ e_; cases Option.some.inj (e_.symm.trans hr34); exact h_⟩) (fun s35 S36 H37 => ?_)
 refine rz rfl <| hK3 _ _ ?_
 cases hM
 refine Au (fun hn => AG (v0 := s35) H37 (Aw (Sub.pick [(CW b2 x_0 x_1 x_2), S5, S18, S31, S36] [4] rfl)) rfl (AV rfl))
def CI (N : Nat) (l' : List (Int × Int × Int)) : Nat → List UInt8 → Int → Option (List UInt8)
  | 0, _, _ => none
  | n13 + 1, b1_, x2_ => if x2_ < (l'.length : Int) then ck (0 ≤ x2_ ∧ x2_ < (l'.length : Int)) ((HG N ((l'[x2_.toNat]!).1) ((l'[x2_.toNat]!).2.1) ((l'[x2_.toNat]!).2.2)).bind fun r21 => ck ((b1_).length + (r21).length ≤ 140737488355328) (ck (-9223372036854775808 ≤ (x2_ + 1) ∧ (x2_ + 1) ≤ 9223372036854775807) ((CI N l' n13) (b1_ ++ r21) (x2_ + 1)))) else some b1_
def BH (N : Nat) (l' : List (Int × Int × Int)) : Option (List UInt8) := (Ae N ([(l'.length : Int)])).bind fun r6 => CI N l' N r6 0
theorem Ht (N l' r) (hM : BH N l' = some r) (ro l'v) (hl' : Rd DO ro l'v l') : Does prog 181 #[l'v, vF 182 #[] #[]] ro [] (p1 (fun s_ => s_) 5 encY r) := by
 unfold BH at hM
 refine Ac follows func181 rfl 25 rfl _ fz2 (fun base0_ => ?_)
 refine AZ rfl <| A_sc [(some 10, false), (some 11, false)] (conG prog [(11, fun _ _ v_ L_ U_ => ∀ u0_, Ae N ([(l'.length : Int)]) = some u0_ → (p1 (fun s_ => s_) 5 encY u0_) v_ L_ U_)]) <| rn 1 rfl <| rL (Rd.shp hl') rfl <| BF (Ls := []) 3 Bf [(l'.length : Int)] [vI (l'.length : Int)] [vI 0] rfl rfl rfl rfl rfl rfl rfl (by kernel_rfl) (by kernel_rfl) rfl rfl rfl (fun s3 S4 H5 => ?_)
 refine kB hM fun r6 hr7 hM => AP (Ls := [S4]) (fun s8 => s8) 5 encY r6 83 _ rfl rfl rfl (cF BI) (fun o w z_ => Ay N ([(l'.length : Int)]) _ hr7 z_.view s3 ((Ap H5 (Ad (Ls := [S4]) (k := 0) rfl rfl)) o w z_)) (Ao hr7) (fun s8 S9 H10 => ?_)
 refine rz rfl <| Aa fun K11 hK11 => Ai <| rn 1 rfl <| rL (Rd.shp hl') rfl <| rz rfl <| Aj <| Be _ (Sub.pick [S4, S9] [1] rfl) <| AU (fun tt ll nn => ∃ (n13 : Nat) (b1_ : List UInt8) (x2_ : Int), (CI N l' n13 b1_ x2_ = some r) ∧ ∃ (vb1_ : Value) (Sb1_ : List Bl), Sl 5 encY vb1_ b1_ Sb1_ ∧ Is [(1, vF 182 #[] #[]), (5, vb1_), (12, l'v), (13, vI (l'.length : Int)), (14, vI x2_)] (List.flatten [Sb1_]) tt ll ∧ nn = n13 + 1) (N + 1) ?_ ?_
 ·exact ⟨N, r6, 0, hM, s8, S9, H10, Ak rfl rfl, rfl⟩
 clear hM; rintro t l _ ⟨n13, b1_, x2_, hM, vb1_, Sb1_, hb1_, ⟨⟨T, rfl⟩, rfl⟩, rfl⟩
 rcases n13 with _ | n13
 ·exact absurd hM (by simp [CI])
 rw [CI] at hM
 refine AZ rfl <| Aa fun K15 hK15 => aD hM rfl (fun hc16 hM => ?_) (fun hc16 hM => ?_)
 ·refine Af <| hK15 _ _ ?_
  refine Aa fun K17 hK17 => Aj <| Ai <| kC hM fun ck19 hM => rI (Rd.shp hl') ck19 rfl <| rE (AA hl') ck19 0 rfl <| rA rfl fun b20 => ry [0] rfl <| A_regC [(some 21, false), (some 22, true)] (conG prog [(21, fun _ _ v_ L_ U_ => ∀ u0_, HG N ((l'[x2_.toNat]!).1) ((l'[x2_.toNat]!).2.1) ((l'[x2_.toNat]!).2.2) = some u0_ → (p1 (fun s_ => s_) 5 encY u0_) v_ L_ U_)]) <| rn 2 rfl ?_
  refine rm 1 [0] rfl <| kB hM fun r21 hr22 hM => AP (Ls := [(CW b20 ((l'[x2_.toNat]!).1) ((l'[x2_.toNat]!).2.1) ((l'[x2_.toNat]!).2.2)), Sb1_]) (fun s23 => s23) 5 encY r21 182 _ rfl rfl rfl (AO (caps := []) rfl gj rfl) (fun o w z_ => Rw N ((l'[x2_.toNat]!).1) ((l'[x2_.toNat]!).2.1) ((l'[x2_.toNat]!).2.2) _ hr22 z_.view ) (Ao hr22) (fun s23 S24 H25 => ?_)
  refine kC hM fun ck26 hM => Dg (Ls := [(CW b20 ((l'[x2_.toNat]!).1) ((l'[x2_.toNat]!).2.1) ((l'[x2_.toNat]!).2.2)), Sb1_, S24]) 1 (En := encY) rfl rfl rfl rfl rfl hb1_ rfl (Ap H25 (Ad (Ls := [(CW b20 ((l'[x2_.toNat]!).1) ((l'[x2_.toNat]!).2.1) ((l'[x2_.toNat]!).2.2)), Sb1_, S24]) (k := 2) rfl rfl)) rfl rfl rfl rfl rfl (Dk ck26 rfl) (Dj ck26 rfl) rfl (fun s27 S28 H29 => ?_)
  refine rz rfl <| hK17 _ _ ?_
  refine Ar <| kC hM fun ck30 hM => rX ck30 rfl <| rz rfl <| fg _ (Sub.pick [(CW b20 ((l'[x2_.toNat]!).1) ((l'[x2_.toNat]!).2.1) ((l'[x2_.toNat]!).2.2)), S28, S24] [1] rfl) ?_
  exact ⟨n13 + 1, by omega, n13, (b1_ ++ r21), (x2_ + 1), hM, s27, S28, H29, Ak rfl rfl, rfl⟩
 refine AS <| hK11 _ _ ?_
 refine AZ rfl ?_
 cases hM
 refine Au (fun hn => AG (v0 := vb1_) hb1_ (Aw (Sub.pick [Sb1_] [0] rfl)) rfl (AV rfl))
def EB (_ : Nat) (w : Int) : Option Int := ck (-9223372036854775808 ≤ (w + 8) ∧ (w + 8) ≤ 9223372036854775807) (ck (-9223372036854775808 ≤ ((w + 8) - 1) ∧ ((w + 8) - 1) ≤ 9223372036854775807) (ck (0 ≤ ((w + 8) - 1) ∧ ((w + 8) - 1) ≤ 9223372036854775807) (some (((w + 8) - 1) / 8))))
theorem Rg (N w r) (hM : EB N w = some r) : Gives prog 273 #[vI w] (vI r) := by
 unfold EB at hM
 refine Aq follows func273 rfl 7 rfl _ fz1 (fun base0_ => ?_)
 refine AZ rfl <| Ai <| rn 1 rfl <| kC hM fun ck3 hM => rX ck3 rfl <| kC hM fun ck4 hM => rX ck4 rfl <| kC hM fun ck5 hM => r_X (vI (((w + 8) - 1) / 8)) rfl (iC ck5.1 (by decide) ck5.2) rfl <| rz rfl ?_
 cases hM
 exact aR eE1
def DW (N : Nat) (b : List UInt8) (v_0 : Int) (v_1 : BitVec 128) : Option (List UInt8) := (It N v_0 v_1).bind fun r5 => if r5 = true then (Ax N b v_0 1).bind fun r15 => (ES N v_0 v_1).bind fun r20 => (EB N v_0).bind fun r22 => (CR N r15 r20 r22).bind fun r27 => some r27 else (Ax N b 0 1).bind fun r9 => some r9
theorem NM (N b v_0 v_1 r) (hM : DW N b v_0 v_1 = some r) (ro : Ro) (bv : Value) (Sb : List Bl) (hb : Sl 5 encY bv b Sb) : Does prog 221 #[bv, vA #[vI v_0, U (hi v_1), U (lo v_1)]] ro (List.flatten [Sb]) (pO (List.flatten [Sb]) (oS 5 encY r fun s_0 => (oE s_0 []))) := by
 unfold DW at hM
 refine BU follows func221 rfl 20 rfl _ fz2 (fun _ _ h_ _ => h_) (fun base0_ => ?_)
 refine Ai <| rA rfl fun b2 => rz rfl <| Aa fun K3 hK3 => Ai <| rm 1 [0] rfl <| kB hM fun r5 hr6 hM => rc _ (cF SL) (Pq N v_0 v_1 _ hr6) <| rz rfl <| AB _ rfl (fun hc7 => ?_) (fun hc7 => ?_)
 ·replace hM := ifn (Bool.eq_false_iff.1 (EF hc7)) hM
  refine A_sc [(some 9, true)] (conG prog [(9, fun _ _ v_ L_ U_ => ∀ u0_, Ax N b 0 1 = some u0_ → (pO (List.flatten [Sb]) (oS 5 encY u0_ fun s_0 => (oE s_0 []))) v_ L_ U_)]) <| rn 1 rfl <| kB hM fun r9 hr10 hM => Ju (Ls := [(Ds b2 v_0 (hi v_1) (lo v_1)), Sb]) (FL := [Sb]) [1] _ (some 9) 164 _ rfl rfl rfl rfl rfl (cF Fe) (fun o w hn_ z_ => BL N b 0 1 _ hr10 _ bv Sb hb) (Ao hr10) (fun h_ => nomatch h_) ?_
  rintro s11 _ ⟨_, S12, _, H13, ⟨rfl, rfl⟩, rfl⟩
  refine AX (Ls := [(Ds b2 v_0 (hi v_1) (lo v_1)), S12]) (Ls' := [(Ds b2 v_0 (hi v_1) (lo v_1)), S12]) [0, 1] rfl rfl <| rz rfl ?_
  cases hM
  refine Au (fun hn => Ge (v0 := s11) (O := [S12]) (AV rfl) (Sub.pick [(Ds b2 v_0 (hi v_1) (lo v_1)), S12] [1] rfl) ⟨s11, S12, _, H13, ⟨rfl, rfl⟩, rfl⟩)
 replace hM := ifp (EG hc7) hM
 refine Af <| hK3 _ _ ?_
 refine Aa fun K14 hK14 => ?_
 refine Wf (Ls := [(Ds b2 v_0 (hi v_1) (lo v_1)), Sb]) [(some 13, true), (some 19, true), (some 1000000014, true)] [(13, fun _ _ v_ L_ U_ => (pH ((List.flatten [Sb]).map (·.1)) (fun v_ L_ U_ => ∀ u0_, Ax N b v_0 1 = some u0_ → (pO (List.flatten [Sb]) (oS 5 encY u0_ fun s_0 => (oE s_0 []))) v_ L_ U_) v_ L_ U_)), (19, fun a_ _ v_ L_ U_ => ∀ u0_, Ax N b v_0 1 = some u0_ → ∀ u1_, ES N v_0 v_1 = some u1_ → ∀ u2_, EB N v_0 = some u2_ → ∀ u3_, CR N u0_ u1_ u2_ = some u3_ → (pN (List.flatten [Nk (Li a_ 1)]) (oS 5 encY u3_ fun s_0 => (oE s_0 []))) v_ L_ U_)] [1] [0] [] (by decide +kernel) (fun hn => Ba) (by decide +kernel) rfl (⟨.inr (fun _ _ _ _ _ h_ => bG (Wy (Ls := [(Ds b2 v_0 (hi v_1) (lo v_1)), Sb]) (is := [1]) (js := [1]) rfl) h_), ⟨.inl rfl, trivial⟩⟩) (fun hnb_ => ?_)
 refine rn 2 rfl <| YB (vI v_0) 0 _ _ _ _ rfl rfl rfl rfl rfl (hnb_ b2 (List.mem_of_getElem? (i := 0) rfl)) <| kB hM fun r15 hr16 hM => Ju (Ls := [(Ds b2 v_0 (hi v_1) (lo v_1)), Sb]) (FL := [Sb]) [1] _ (some 13) 164 _ rfl rfl rfl rfl rfl (cF Fe) (fun o w hn_ z_ => BL N b v_0 1 _ hr16 _ bv Sb hb) (fun a_ c_ v_ L_ U_ => bF (q := fun v_ L_ U_ => ∀ u0_, Ax N b v_0 1 = some u0_ → (pO (List.flatten [Sb]) (oS 5 encY u0_ fun s_0 => (oE s_0 []))) v_ L_ U_) ((Ao hr16) a_ c_ v_ L_ U_)) (fun _ => (NiceO.sub (R := []) (bQ fun s_0 => (Zr rfl)) (Sub.pick [Sb] [] rfl))) ?_
 rintro s17 _ ⟨_, S18, _, H19, ⟨rfl, rfl⟩, rfl⟩
 refine AX (Ls := [(Ds b2 v_0 (hi v_1) (lo v_1)), S18]) (Ls' := [(Ds b2 v_0 (hi v_1) (lo v_1)), S18]) [0, 1] rfl rfl <| YB (vA #[vI v_0, U (hi v_1), U (lo v_1)]) 0 _ _ _ _ rfl rfl rfl rfl rfl (hnb_ b2 (List.mem_of_getElem? (i := 0) rfl)) <| kB hM fun r20 hr21 hM => rc _ (cF Pi) (LU N v_0 v_1 _ hr21) <| rn 1 rfl <| YB (vI v_0) 0 _ _ _ _ rfl rfl rfl rfl rfl (hnb_ b2 (List.mem_of_getElem? (i := 0) rfl)) <| kB hM fun r22 hr23 hM => rc _ (cF eX) (Rg N v_0 _ hr23) <| Ki (Ls := [(Ds b2 v_0 (hi v_1) (lo v_1)), S18]) trivial 1 rfl H19 (fun S24 H25 hn26 => ?_)
 refine kB hM fun r27 hr28 hM => Qf (Ls := [(Ds b2 v_0 (hi v_1) (lo v_1)), S24]) (FL := [S24]) (RL := [(Ds b2 v_0 (hi v_1) (lo v_1))]) [1] (oS 5 encY r27 fun s_0 => (oE s_0 [])) (some 19) 208 _ (pc := fun a_ => pN (List.flatten [Nk (Li a_ 1)]) (oS 5 encY r27 fun s_0 => (oE s_0 []))) rfl rfl rfl rfl rfl (cF XZ) (fun o w hn_ z_ => LA N r15 r20 r22 _ hr28 _ s17 S24 H25) (fun _ _ v_ L_ U_ => ⟨fun h_ => h_ _ hr16 _ hr21 _ hr23 _ hr28, fun h_ => by intro _ e_; cases Option.some.inj (e_.symm.trans hr16); intro _ e_; cases Option.some.inj (e_.symm.trans hr21); intro _ e_; cases Option.some.inj (e_.symm.trans hr23); intro _ e_; cases Option.some.inj (e_.symm.trans hr28); exact h_⟩) (fun _ _ _ => Oc (nmF (nmC hn26 nmN))) (fun _ => (NiceO.sub (R := []) (bQ fun s_0 => (Zr rfl)) (Sub.pick [S24] [] rfl))) ?_
 rintro s29 _ ⟨_, S30, _, H31, ⟨rfl, rfl⟩, rfl⟩
 refine AX (Ls := [(Ds b2 v_0 (hi v_1) (lo v_1)), S30]) (Ls' := [(Ds b2 v_0 (hi v_1) (lo v_1)), S30]) [0, 1] rfl rfl <| rz rfl <| hK14 _ _ ?_
 cases hM
 refine Au (fun hn => Ge (v0 := s29) (O := [S30]) (AV rfl) (Sub.pick [(Ds b2 v_0 (hi v_1) (lo v_1)), S30] [1] rfl) ⟨s29, S30, _, H31, ⟨rfl, rfl⟩, rfl⟩)
def Dx (N : Nat) (b : List UInt8) (v_0 : Int) (v_1 : BitVec 128) : Option (List UInt8) := (Av N b).bind fun r4 => (DW N r4 v_0 v_1).bind fun r12 => some r12
theorem NV (N b v_0 v_1 r) (hM : Dx N b v_0 v_1 = some r) (ro bv) (hb : Rd encY ro bv b) : Does prog 191 #[bv, vA #[vI v_0, U (hi v_1), U (lo v_1)]] ro [] (p1 (fun s_ => s_) 5 encY r) := by
 unfold Dx at hM
 refine Ac follows func191 rfl 9 rfl _ fz2 (fun base0_ => ?_)
 refine Ai <| rA rfl fun b2 => rz rfl <| Aa fun K3 hK3 => BA [(some 6, false), (some 8, true)] (conG prog [(6, fun _ _ v_ L_ U_ => ∀ u0_, Av N b = some u0_ → (p1 (fun s_ => s_) 5 encY u0_) v_ L_ U_), (8, fun a_ _ v_ L_ U_ => ∀ u0_, Av N b = some u0_ → ∀ u1_, DW N u0_ v_0 v_1 = some u1_ → (pN (List.flatten [Nk (Li a_ 1)]) (oS 5 encY u1_ fun s_0 => (oE s_0 []))) v_ L_ U_)]) [] (by decide +kernel) (fun hn => Ba) <| rn 1 rfl <| kB hM fun r4 hr5 hM => AP (Ls := [(Ds b2 v_0 (hi v_1) (lo v_1))]) (fun s6 => s6) 5 encY r4 165 _ rfl rfl rfl (cF KA) (fun o w z_ => BZ N b _ hr5 z_.view bv (z_.r hb)) (Ao hr5) (fun s6 S7 H8 => ?_)
 refine rm 1 [0] rfl <| Ki (Ls := [(Ds b2 v_0 (hi v_1) (lo v_1)), S7]) trivial 1 rfl H8 (fun S9 H10 hn11 => ?_)
 refine kB hM fun r12 hr13 hM => Qf (Ls := [(Ds b2 v_0 (hi v_1) (lo v_1)), S9]) (FL := [S9]) (RL := [(Ds b2 v_0 (hi v_1) (lo v_1))]) [1] (oS 5 encY r12 fun s_0 => (oE s_0 [])) (some 8) 221 _ (pc := fun a_ => pN (List.flatten [Nk (Li a_ 1)]) (oS 5 encY r12 fun s_0 => (oE s_0 []))) rfl rfl rfl rfl rfl (cF XY) (fun o w hn_ z_ => NM N r4 v_0 v_1 _ hr13 _ s6 S9 H10) (fun _ _ v_ L_ U_ => ⟨fun h_ => h_ _ hr5 _ hr13, fun h_ => by intro _ e_; cases Option.some.inj (e_.symm.trans hr5); intro _ e_; cases Option.some.inj (e_.symm.trans hr13); exact h_⟩) (fun _ _ _ => Oc (nmF (nmC hn11 nmN))) (fun _ => (NiceO.sub (R := []) (bQ fun s_0 => (Zr rfl)) (Sub.pick [S9] [] rfl))) ?_
 rintro s14 _ ⟨_, S15, _, H16, ⟨rfl, rfl⟩, rfl⟩
 refine AX (Ls := [(Ds b2 v_0 (hi v_1) (lo v_1)), S15]) (Ls' := [(Ds b2 v_0 (hi v_1) (lo v_1)), S15]) [0, 1] rfl rfl <| rz rfl <| hK3 _ _ ?_
 cases hM
 refine Au (fun hn => AG (v0 := s14) H16 (Aw (Sub.pick [(Ds b2 v_0 (hi v_1) (lo v_1)), S15] [1] rfl)) rfl (AV rfl))
def ER (N : Nat) (n : Int) : Option (List UInt8) := (Ae N ([n])).bind fun r6 => some r6
theorem Qg (N n r) (hM : ER N n = some r) (ro : Ro) : Does prog 185 #[vI n] ro [] (p1 (fun s_ => s_) 5 encY r) := by
 unfold ER at hM
 refine Ac follows func185 rfl 6 rfl _ fz1 (fun base0_ => ?_)
 refine AZ rfl <| A_sc [(some 4, false), (some 5, false)] (conG prog [(5, fun _ _ v_ L_ U_ => ∀ u0_, Ae N ([n]) = some u0_ → (p1 (fun s_ => s_) 5 encY u0_) v_ L_ U_)]) <| rn 1 rfl <| BF (Ls := []) 3 Bf [n] [vI n] [vI 0] rfl rfl rfl rfl rfl rfl rfl (by kernel_rfl) (by kernel_rfl) rfl rfl rfl (fun s3 S4 H5 => ?_)
 refine kB hM fun r6 hr7 hM => AP (Ls := [S4]) (fun s8 => s8) 5 encY r6 83 _ rfl rfl rfl (cF BI) (fun o w z_ => Ay N ([n]) _ hr7 z_.view s3 ((Ap H5 (Ad (Ls := [S4]) (k := 0) rfl rfl)) o w z_)) (Ao hr7) (fun s8 S9 H10 => ?_)
 refine rz rfl ?_
 cases hM
 refine Au (fun hn => AG (v0 := s8) H10 (Aw (Sub.pick [S4, S9] [1] rfl)) rfl (AV rfl))
def IK (N : Nat) (x_0 : Int) (x_1 : BitVec 128) (x_2 : Int) (x_3 : BitVec 128) (x_4 : Int) : Option (List UInt8) := (Dx N ([]) x_0 x_1).bind fun r4 => (Dx N ([]) x_2 x_3).bind fun r9 => (ER N x_4).bind fun r14 => (AF N ([r4, r9, r14])).bind fun r27 => some r27
theorem Tg (N x_0 x_1 x_2 x_3 x_4 r) (hM : IK N x_0 x_1 x_2 x_3 x_4 = some r) (ro : Ro) : Does prog 184 #[vA #[vI x_0, U (hi x_1), U (lo x_1), vI x_2, U (hi x_3), U (lo x_3), vI x_4]] ro [] (p1 (fun s_ => s_) 5 encY r) := by
 unfold IK at hM
 refine Ac follows func184 rfl 14 rfl _ fz1 (fun base0_ => ?_)
 refine Ai <| rA rfl fun b2 => rz rfl <| Aa fun K3 hK3 => ?_
 refine BA [(some 5, false), (some 8, false), (some 11, false), (some 12, false), (some 13, false)] (conG prog [(5, fun _ _ v_ L_ U_ => ∀ u0_, Dx N ([]) x_0 x_1 = some u0_ → (p1 (fun s_ => s_) 5 encY u0_) v_ L_ U_), (8, fun _ _ v_ L_ U_ => ∀ u0_, Dx N ([]) x_2 x_3 = some u0_ → (p1 (fun s_ => s_) 5 encY u0_) v_ L_ U_), (11, fun _ _ v_ L_ U_ => ∀ u0_, ER N x_4 = some u0_ → (p1 (fun s_ => s_) 5 encY u0_) v_ L_ U_), (13, fun _ _ v_ L_ U_ => ∀ u0_, Dx N ([]) x_0 x_1 = some u0_ → ∀ u1_, Dx N ([]) x_2 x_3 = some u1_ → ∀ u2_, ER N x_4 = some u2_ → ∀ u3_, AF N ([u0_, u1_, u2_]) = some u3_ → (p1 (fun s_ => s_) 5 encY u3_) v_ L_ U_)]) [] (by decide +kernel) (fun hn => Ba) ?_
 refine rm 2 [0] rfl <| kB hM fun r4 hr5 hM => AP (Ls := [(DU b2 x_0 (hi x_1) (lo x_1) x_2 (hi x_3) (lo x_3) x_4)]) (fun s6 => s6) 5 encY r4 191 _ rfl rfl rfl (cF SR) (fun o w z_ => NV N ([]) x_0 x_1 _ hr5 z_.view nS ((fun _ _ _ => .inl ⟨rfl, rfl⟩) o w z_)) (Ao hr5) (fun s6 S7 H8 => ?_)
 refine rm 2 [0] rfl <| kB hM fun r9 hr10 hM => AP (Ls := [(DU b2 x_0 (hi x_1) (lo x_1) x_2 (hi x_3) (lo x_3) x_4), S7]) (fun s11 => s11) 5 encY r9 191 _ rfl rfl rfl (cF SR) (fun o w z_ => NV N ([]) x_2 x_3 _ hr10 z_.view nS ((fun _ _ _ => .inl ⟨rfl, rfl⟩) o w z_)) (Ao hr10) (fun s11 S12 H13 => ?_)
 refine rm 2 [0] rfl <| kB hM fun r14 hr15 hM => AP (Ls := [(DU b2 x_0 (hi x_1) (lo x_1) x_2 (hi x_3) (lo x_3) x_4), S7, S12]) (fun s16 => s16) 5 encY r14 185 _ rfl rfl rfl (cF Yb) (fun o w z_ => Qg N x_4 _ hr15 z_.view ) (Ao hr15) (fun s16 S17 H18 => ?_)
 have hR19 : ((AD 5 encY)).R r4 [s6] S7 := (by have h_ := (Bi (e := 5) (E := encY) H8); exact EncO.cast h_ (by first | rfl | simp only [List.nil_append, List.append_nil, List.append_assoc]))
 have hR20 : ((AD 5 encY)).R r9 [s11] S12 := (by have h_ := (Bi (e := 5) (E := encY) H13); exact EncO.cast h_ (by first | rfl | simp only [List.nil_append, List.append_nil, List.append_assoc]))
 have hR21 : ((AD 5 encY)).R r14 [s16] S17 := (by have h_ := (Bi (e := 5) (E := encY) H18); exact EncO.cast h_ (by first | rfl | simp only [List.nil_append, List.append_nil, List.append_assoc]))
 refine BF (Ls := [(DU b2 x_0 (hi x_1) (lo x_1) x_2 (hi x_3) (lo x_3) x_4), S7, S12, S17]) 38 (EncO.raw (AD 5 encY)) [EncO.of (AD 5 encY) hR19, EncO.of (AD 5 encY) hR20, EncO.of (AD 5 encY) hR21] [s6, s11, s16] [nS, nS, nS] rfl rfl rfl rfl rfl rfl rfl (by kernel_rfl) ((CN _ _ _ _ (Bj (AI rfl (Sl.shp H8)) (Bj (AI rfl (Sl.shp H13)) (Bj (AI rfl (Sl.shp H18)) Ei)))).trans (by kernel_rfl)) rfl rfl rfl (fun s22 S23 H24 => ?_)
 refine AX (Ls := [(DU b2 x_0 (hi x_1) (lo x_1) x_2 (hi x_3) (lo x_3) x_4), S7, S12, S17, S23]) (Ls' := [(DU b2 x_0 (hi x_1) (lo x_1) x_2 (hi x_3) (lo x_3) x_4), S23, S7, S12, S17]) [0, 4, 1, 2, 3] rfl rfl <| Jl (Ls := [(DU b2 x_0 (hi x_1) (lo x_1) x_2 (hi x_3) (lo x_3) x_4), S23, S7, S12, S17]) (Ls' := [(DU b2 x_0 (hi x_1) (lo x_1) x_2 (hi x_3) (lo x_3) x_4), (S23 ++ (S7 ++ (S12 ++ S17)))]) (by simp only [List.flatten_cons, List.flatten_nil, List.append_nil, List.append_assoc]) ?_
 refine Ee (Ls := [(DU b2 x_0 (hi x_1) (lo x_1) x_2 (hi x_3) (lo x_3) x_4), (S23 ++ (S7 ++ (S12 ++ S17)))]) (p := fun S_ => SlO 38 (AD 5 encY) s22 ([r4, r9, r14]) S_) 1 rfl (SlO.cast (⟨_, _, _, H24, (Items.append (Items.one hR19) (Items.append (Items.one hR20) (Items.one hR21))), rfl⟩ : SlO 38 (AD 5 encY) s22 [r4, r9, r14] _) (by first | rfl | simp only [List.nil_append, List.append_nil, List.append_assoc])) (fun S25 H26 => ?_)
 refine kB hM fun r27 hr28 hM => AP (Ls := [(DU b2 x_0 (hi x_1) (lo x_1) x_2 (hi x_3) (lo x_3) x_4), S25]) (fun s29 => s29) 5 encY r27 40 _ rfl rfl rfl (cF Mq) (fun o w z_ => BS N ([r4, r9, r14]) _ hr28 z_.view s22 ((fun o w z_ => RdN.map (E' := DH) (SlO.view H26 (CF (Ad (Ls := [(DU b2 x_0 (hi x_1) (lo x_1) x_2 (hi x_3) (lo x_3) x_4), S25]) (k := 1) rfl rfl) o w z_)) rfl (fun _ _ h_ => Dz h_)) o w z_)) (fun _ _ v_ L_ U_ => ⟨fun h_ => h_ _ hr5 _ hr10 _ hr15 _ hr28, fun h_ => by intro _ e_; cases Option.some.inj (e_.symm.trans hr5); intro _ e_; cases Option.some.inj (e_.symm.trans hr10); intro _ e_; cases Option.some.inj (e_.symm.trans hr15); intro _ e_; cases Option.some.inj (e_.symm.trans hr28); exact h_⟩) (fun s29 S30 H31 => ?_)
 refine rz rfl <| hK3 _ _ ?_
 cases hM
 refine Au (fun hn => AG (v0 := s29) H31 (Aw (Sub.pick [(DU b2 x_0 (hi x_1) (lo x_1) x_2 (hi x_3) (lo x_3) x_4), S25, S30] [2] rfl)) rfl (AV rfl))
def Cz (N : Nat) (l' : List (Int × BitVec 128 × Int × BitVec 128 × Int)) : Nat → List UInt8 → Int → Option (List UInt8)
  | 0, _, _ => none
  | n13 + 1, b1_, x2_ => if x2_ < (l'.length : Int) then ck (0 ≤ x2_ ∧ x2_ < (l'.length : Int)) ((IK N ((l'[x2_.toNat]!).1) ((l'[x2_.toNat]!).2.1) ((l'[x2_.toNat]!).2.2.1) ((l'[x2_.toNat]!).2.2.2.1) ((l'[x2_.toNat]!).2.2.2.2)).bind fun r21 => ck ((b1_).length + (r21).length ≤ 140737488355328) (ck (-9223372036854775808 ≤ (x2_ + 1) ∧ (x2_ + 1) ≤ 9223372036854775807) ((Cz N l' n13) (b1_ ++ r21) (x2_ + 1)))) else some b1_
def CK (N : Nat) (l' : List (Int × BitVec 128 × Int × BitVec 128 × Int)) : Option (List UInt8) := (Ae N ([(l'.length : Int)])).bind fun r6 => Cz N l' N r6 0
theorem Ln (N l' r) (hM : CK N l' = some r) (ro l'v) (hl' : Rd JP ro l'v l') : Does prog 183 #[l'v, vF 184 #[] #[]] ro [] (p1 (fun s_ => s_) 5 encY r) := by
 unfold CK at hM
 refine Ac follows func183 rfl 25 rfl _ fz2 (fun base0_ => ?_)
 refine AZ rfl <| A_sc [(some 10, false), (some 11, false)] (conG prog [(11, fun _ _ v_ L_ U_ => ∀ u0_, Ae N ([(l'.length : Int)]) = some u0_ → (p1 (fun s_ => s_) 5 encY u0_) v_ L_ U_)]) <| rn 1 rfl <| rL (Rd.shp hl') rfl <| BF (Ls := []) 3 Bf [(l'.length : Int)] [vI (l'.length : Int)] [vI 0] rfl rfl rfl rfl rfl rfl rfl (by kernel_rfl) (by kernel_rfl) rfl rfl rfl (fun s3 S4 H5 => ?_)
 refine kB hM fun r6 hr7 hM => AP (Ls := [S4]) (fun s8 => s8) 5 encY r6 83 _ rfl rfl rfl (cF BI) (fun o w z_ => Ay N ([(l'.length : Int)]) _ hr7 z_.view s3 ((Ap H5 (Ad (Ls := [S4]) (k := 0) rfl rfl)) o w z_)) (Ao hr7) (fun s8 S9 H10 => ?_)
 refine rz rfl <| Aa fun K11 hK11 => Ai <| rn 1 rfl <| rL (Rd.shp hl') rfl <| rz rfl <| Aj <| Be _ (Sub.pick [S4, S9] [1] rfl) <| AU (fun tt ll nn => ∃ (n13 : Nat) (b1_ : List UInt8) (x2_ : Int), (Cz N l' n13 b1_ x2_ = some r) ∧ ∃ (vb1_ : Value) (Sb1_ : List Bl), Sl 5 encY vb1_ b1_ Sb1_ ∧ Is [(1, vF 184 #[] #[]), (5, vb1_), (12, l'v), (13, vI (l'.length : Int)), (14, vI x2_)] (List.flatten [Sb1_]) tt ll ∧ nn = n13 + 1) (N + 1) ?_ ?_
 ·exact ⟨N, r6, 0, hM, s8, S9, H10, Ak rfl rfl, rfl⟩
 clear hM; rintro t l _ ⟨n13, b1_, x2_, hM, vb1_, Sb1_, hb1_, ⟨⟨T, rfl⟩, rfl⟩, rfl⟩
 rcases n13 with _ | n13
 ·exact absurd hM (by simp [Cz])
 rw [Cz] at hM
 refine AZ rfl <| Aa fun K15 hK15 => aD hM rfl (fun hc16 hM => ?_) (fun hc16 hM => ?_)
 ·refine Af <| hK15 _ _ ?_
  refine Aa fun K17 hK17 => Aj <| Ai <| kC hM fun ck19 hM => rI (Rd.shp hl') ck19 rfl <| rE (AA hl') ck19 0 rfl <| rA rfl fun b20 => ry [0] rfl ?_
  refine A_regC [(some 21, false), (some 22, true)] (conG prog [(21, fun _ _ v_ L_ U_ => ∀ u0_, IK N ((l'[x2_.toNat]!).1) ((l'[x2_.toNat]!).2.1) ((l'[x2_.toNat]!).2.2.1) ((l'[x2_.toNat]!).2.2.2.1) ((l'[x2_.toNat]!).2.2.2.2) = some u0_ → (p1 (fun s_ => s_) 5 encY u0_) v_ L_ U_)]) <| rm 3 [0] rfl <| kB hM fun r21 hr22 hM => AP (Ls := [(DU b20 ((l'[x2_.toNat]!).1) (hi ((l'[x2_.toNat]!).2.1)) (lo ((l'[x2_.toNat]!).2.1)) ((l'[x2_.toNat]!).2.2.1) (hi ((l'[x2_.toNat]!).2.2.2.1)) (lo ((l'[x2_.toNat]!).2.2.2.1)) ((l'[x2_.toNat]!).2.2.2.2)), Sb1_]) (fun s23 => s23) 5 encY r21 184 _ rfl rfl rfl (AO (caps := []) rfl gh rfl) (fun o w z_ => Tg N ((l'[x2_.toNat]!).1) ((l'[x2_.toNat]!).2.1) ((l'[x2_.toNat]!).2.2.1) ((l'[x2_.toNat]!).2.2.2.1) ((l'[x2_.toNat]!).2.2.2.2) _ hr22 z_.view ) (Ao hr22) (fun s23 S24 H25 => ?_)
  refine kC hM fun ck26 hM => Dg (Ls := [(DU b20 ((l'[x2_.toNat]!).1) (hi ((l'[x2_.toNat]!).2.1)) (lo ((l'[x2_.toNat]!).2.1)) ((l'[x2_.toNat]!).2.2.1) (hi ((l'[x2_.toNat]!).2.2.2.1)) (lo ((l'[x2_.toNat]!).2.2.2.1)) ((l'[x2_.toNat]!).2.2.2.2)), Sb1_, S24]) 1 (En := encY) rfl rfl rfl rfl rfl hb1_ rfl (Ap H25 (Ad (Ls := [(DU b20 ((l'[x2_.toNat]!).1) (hi ((l'[x2_.toNat]!).2.1)) (lo ((l'[x2_.toNat]!).2.1)) ((l'[x2_.toNat]!).2.2.1) (hi ((l'[x2_.toNat]!).2.2.2.1)) (lo ((l'[x2_.toNat]!).2.2.2.1)) ((l'[x2_.toNat]!).2.2.2.2)), Sb1_, S24]) (k := 2) rfl rfl)) rfl rfl rfl rfl rfl (Dk ck26 rfl) (Dj ck26 rfl) rfl (fun s27 S28 H29 => ?_)
  refine rz rfl <| hK17 _ _ ?_
  refine Ar <| kC hM fun ck30 hM => rX ck30 rfl <| rz rfl <| fg _ (Sub.pick [(DU b20 ((l'[x2_.toNat]!).1) (hi ((l'[x2_.toNat]!).2.1)) (lo ((l'[x2_.toNat]!).2.1)) ((l'[x2_.toNat]!).2.2.1) (hi ((l'[x2_.toNat]!).2.2.2.1)) (lo ((l'[x2_.toNat]!).2.2.2.1)) ((l'[x2_.toNat]!).2.2.2.2)), S28, S24] [1] rfl) ?_
  exact ⟨n13 + 1, by omega, n13, (b1_ ++ r21), (x2_ + 1), hM, s27, S28, H29, Ak rfl rfl, rfl⟩
 refine AS <| hK11 _ _ ?_
 refine AZ rfl ?_
 cases hM
 refine Au (fun hn => AG (v0 := vb1_) hb1_ (Aw (Sub.pick [Sb1_] [0] rfl)) rfl (AV rfl))
def GU (N : Nat) (x_0 : List UInt8) (x_1 : List (Int × Int)) (x_2 : List (Int × Int × Int)) (x_3 : List (Int × BitVec 128 × Int × BitVec 128 × Int)) (x_4 : Int) : Option (List UInt8) := (CV N x_1).bind fun r4 => (BH N x_2).bind fun r9 => (CK N x_3).bind fun r14 => (ER N x_4).bind fun r19 => (Bs N x_0 ([r4, r9, r14, r19])).bind fun r33 => some r33
theorem Qx (N x_0 x_1 x_2 x_3 x_4 r) (hM : GU N x_0 x_1 x_2 x_3 x_4 = some r) (ro x_1v) (hx_1 : Rd JQ ro x_1v x_1) (x_2v) (hx_2 : Rd DO ro x_2v x_2) (x_3v) (hx_3 : Rd JP ro x_3v x_3) : Does prog 107 #[vA #[vS x_0, x_1v, x_2v, x_3v, vI x_4]] ro [] (p1 (fun s_ => s_) 5 encY r) := by
 unfold GU at hM
 refine Ac follows func107 rfl 19 rfl _ fz1 (fun base0_ => ?_)
 refine Ai <| rA rfl fun b2 => rz rfl <| Aa fun K3 hK3 => ?_
 refine BA [(some 7, false), (some 10, false), (some 13, false), (some 16, false), (some 17, false), (some 18, false)] (conG prog [(7, fun _ _ v_ L_ U_ => ∀ u0_, CV N x_1 = some u0_ → (p1 (fun s_ => s_) 5 encY u0_) v_ L_ U_), (10, fun _ _ v_ L_ U_ => ∀ u0_, BH N x_2 = some u0_ → (p1 (fun s_ => s_) 5 encY u0_) v_ L_ U_), (13, fun _ _ v_ L_ U_ => ∀ u0_, CK N x_3 = some u0_ → (p1 (fun s_ => s_) 5 encY u0_) v_ L_ U_), (16, fun _ _ v_ L_ U_ => ∀ u0_, ER N x_4 = some u0_ → (p1 (fun s_ => s_) 5 encY u0_) v_ L_ U_), (18, fun _ _ v_ L_ U_ => ∀ u0_, CV N x_1 = some u0_ → ∀ u1_, BH N x_2 = some u1_ → ∀ u2_, CK N x_3 = some u2_ → ∀ u3_, ER N x_4 = some u3_ → ∀ u4_, Bs N x_0 ([u0_, u1_, u2_, u3_]) = some u4_ → (p1 (fun s_ => s_) 5 encY u4_) v_ L_ U_)]) [] (by decide +kernel) (fun hn => Ba) ?_
 refine rm 4 [0, 0] rfl <| kB hM fun r4 hr5 hM => AP (Ls := [(Ef b2 x_0 x_1v x_2v x_3v x_4)]) (fun s6 => s6) 5 encY r4 179 _ rfl rfl rfl (cF gl) (fun o w z_ => LH N x_1 _ hr5 z_.view x_1v (z_.r hx_1)) (Ao hr5) (fun s6 S7 H8 => ?_)
 refine rm 2 [0] rfl <| kB hM fun r9 hr10 hM => AP (Ls := [(Ef b2 x_0 x_1v x_2v x_3v x_4), S7]) (fun s11 => s11) 5 encY r9 181 _ rfl rfl rfl (cF Yc) (fun o w z_ => Ht N x_2 _ hr10 z_.view x_2v (z_.r hx_2)) (Ao hr10) (fun s11 S12 H13 => ?_)
 refine rm 2 [0] rfl <| kB hM fun r14 hr15 hM => AP (Ls := [(Ef b2 x_0 x_1v x_2v x_3v x_4), S7, S12]) (fun s16 => s16) 5 encY r14 183 _ rfl rfl rfl (cF gi) (fun o w z_ => Ln N x_3 _ hr15 z_.view x_3v (z_.r hx_3)) (Ao hr15) (fun s16 S17 H18 => ?_)
 refine rm 2 [0] rfl <| kB hM fun r19 hr20 hM => AP (Ls := [(Ef b2 x_0 x_1v x_2v x_3v x_4), S7, S12, S17]) (fun s21 => s21) 5 encY r19 185 _ rfl rfl rfl (cF Yb) (fun o w z_ => Qg N x_4 _ hr20 z_.view ) (Ao hr20) (fun s21 S22 H23 => ?_)
 have hR24 : ((AD 5 encY)).R r4 [s6] S7 := (by have h_ := (Bi (e := 5) (E := encY) H8); exact EncO.cast h_ (by first | rfl | simp only [List.nil_append, List.append_nil, List.append_assoc]))
 have hR25 : ((AD 5 encY)).R r9 [s11] S12 := (by have h_ := (Bi (e := 5) (E := encY) H13); exact EncO.cast h_ (by first | rfl | simp only [List.nil_append, List.append_nil, List.append_assoc]))
 have hR26 : ((AD 5 encY)).R r14 [s16] S17 := (by have h_ := (Bi (e := 5) (E := encY) H18); exact EncO.cast h_ (by first | rfl | simp only [List.nil_append, List.append_nil, List.append_assoc]))
 have hR27 : ((AD 5 encY)).R r19 [s21] S22 := (by have h_ := (Bi (e := 5) (E := encY) H23); exact EncO.cast h_ (by first | rfl | simp only [List.nil_append, List.append_nil, List.append_assoc]))
 refine BF (Ls := [(Ef b2 x_0 x_1v x_2v x_3v x_4), S7, S12, S17, S22]) 38 (EncO.raw (AD 5 encY)) [EncO.of (AD 5 encY) hR24, EncO.of (AD 5 encY) hR25, EncO.of (AD 5 encY) hR26, EncO.of (AD 5 encY) hR27] [s6, s11, s16, s21] [nS, nS, nS, nS] rfl rfl rfl rfl rfl rfl rfl (by kernel_rfl) ((CN _ _ _ _ (Bj (AI rfl (Sl.shp H8)) (Bj (AI rfl (Sl.shp H13)) (Bj (AI rfl (Sl.shp H18)) (Bj (AI rfl (Sl.shp H23)) Ei))))).trans (by kernel_rfl)) rfl rfl rfl (fun s28 S29 H30 => ?_)
 refine AX (Ls := [(Ef b2 x_0 x_1v x_2v x_3v x_4), S7, S12, S17, S22, S29]) (Ls' := [(Ef b2 x_0 x_1v x_2v x_3v x_4), S29, S7, S12, S17, S22]) [0, 5, 1, 2, 3, 4] rfl rfl <| Jl (Ls := [(Ef b2 x_0 x_1v x_2v x_3v x_4), S29, S7, S12, S17, S22]) (Ls' := [(Ef b2 x_0 x_1v x_2v x_3v x_4), (S29 ++ (S7 ++ (S12 ++ (S17 ++ S22))))]) (by simp only [List.flatten_cons, List.flatten_nil, List.append_nil, List.append_assoc]) ?_
 refine Ee (Ls := [(Ef b2 x_0 x_1v x_2v x_3v x_4), (S29 ++ (S7 ++ (S12 ++ (S17 ++ S22))))]) (p := fun S_ => SlO 38 (AD 5 encY) s28 ([r4, r9, r14, r19]) S_) 1 rfl (SlO.cast (⟨_, _, _, H30, (Items.append (Items.one hR24) (Items.append (Items.one hR25) (Items.append (Items.one hR26) (Items.one hR27)))), rfl⟩ : SlO 38 (AD 5 encY) s28 [r4, r9, r14, r19] _) (by first | rfl | simp only [List.nil_append, List.append_nil, List.append_assoc])) (fun S31 H32 => ?_)
 refine kB hM fun r33 hr34 hM => AP (Ls := [(Ef b2 x_0 x_1v x_2v x_3v x_4), S31]) (fun s35 => s35) 5 encY r33 177 _ rfl rfl rfl (cF GQ) (fun o w z_ => DC N x_0 ([r4, r9, r14, r19]) _ hr34 z_.view s28 ((fun o w z_ => RdN.map (E' := DH) (SlO.view H32 (CF (Ad (Ls := [(Ef b2 x_0 x_1v x_2v x_3v x_4), S31]) (k := 1) rfl rfl) o w z_)) rfl (fun _ _ h_ => Dz h_)) o w z_)) (fun _ _ v_ L_ U_ => ⟨fun h_ => h_ _ hr5 _ hr10 _ hr15 _ hr20 _ hr34, fun h_ => by intro _ e_; cases Option.some.inj (e_.symm.trans hr5); intro _ e_; cases Option.some.inj (e_.symm.trans hr10); intro _ e_; cases Option.some.inj (e_.symm.trans hr15); intro _ e_; cases Option.some.inj (e_.symm.trans hr20); intro _ e_; cases Option.some.inj (e_.symm.trans hr34); exact h_⟩) (fun s35 S36 H37 => ?_)
 refine rz rfl <| hK3 _ _ ?_
 cases hM
 refine Au (fun hn => AG (v0 := s35) H37 (Aw (Sub.pick [(Ef b2 x_0 x_1v x_2v x_3v x_4), S31, S36] [2] rfl)) rfl (AV rfl))
def Cu (N : Nat) (l' : List ((List UInt8) × (List (Int × Int)) × (List (Int × Int × Int)) × (List (Int × BitVec 128 × Int × BitVec 128 × Int)) × Int)) : Nat → List UInt8 → Int → Option (List UInt8)
  | 0, _, _ => none
  | n13 + 1, b1_, x2_ => if x2_ < (l'.length : Int) then ck (0 ≤ x2_ ∧ x2_ < (l'.length : Int)) ((GU N (l'[x2_.toNat]!.1) (l'[x2_.toNat]!.2.1) (l'[x2_.toNat]!.2.2.1) (l'[x2_.toNat]!.2.2.2.1) (l'[x2_.toNat]!.2.2.2.2)).bind fun r28 => ck ((b1_).length + (r28).length ≤ 140737488355328) (ck (-9223372036854775808 ≤ (x2_ + 1) ∧ (x2_ + 1) ≤ 9223372036854775807) ((Cu N l' n13) (b1_ ++ r28) (x2_ + 1)))) else some b1_
def Dq (N : Nat) (l' : List ((List UInt8) × (List (Int × Int)) × (List (Int × Int × Int)) × (List (Int × BitVec 128 × Int × BitVec 128 × Int)) × Int)) : Option (List UInt8) := (Ae N ([(l'.length : Int)])).bind fun r6 => Cu N l' N r6 0
theorem KE (N l' r) (hM : Dq N l' = some r) (ro l'v) (hl' : RdN Im ro l'v l') : Does prog 106 #[l'v, vF 107 #[] #[]] ro [] (p1 (fun s_ => s_) 5 encY r) := by
 unfold Dq at hM
 refine Ac follows func106 rfl 25 rfl _ fz2 (fun base0_ => ?_)
 refine AZ rfl <| A_sc [(some 10, false), (some 11, false)] (conG prog [(11, fun _ _ v_ L_ U_ => ∀ u0_, Ae N ([(l'.length : Int)]) = some u0_ → (p1 (fun s_ => s_) 5 encY u0_) v_ L_ U_)]) <| rn 1 rfl <| rL (RdN.shp hl') rfl <| BF (Ls := []) 3 Bf [(l'.length : Int)] [vI (l'.length : Int)] [vI 0] rfl rfl rfl rfl rfl rfl rfl (by kernel_rfl) (by kernel_rfl) rfl rfl rfl (fun s3 S4 H5 => ?_)
 refine kB hM fun r6 hr7 hM => AP (Ls := [S4]) (fun s8 => s8) 5 encY r6 83 _ rfl rfl rfl (cF BI) (fun o w z_ => Ay N ([(l'.length : Int)]) _ hr7 z_.view s3 ((Ap H5 (Ad (Ls := [S4]) (k := 0) rfl rfl)) o w z_)) (Ao hr7) (fun s8 S9 H10 => ?_)
 refine rz rfl <| Aa fun K11 hK11 => Ai <| rn 1 rfl <| rL (RdN.shp hl') rfl <| rz rfl <| Aj <| Be _ (Sub.pick [S4, S9] [1] rfl) <| AU (fun tt ll nn => ∃ (n13 : Nat) (b1_ : List UInt8) (x2_ : Int), (Cu N l' n13 b1_ x2_ = some r) ∧ ∃ (vb1_ : Value) (Sb1_ : List Bl), Sl 5 encY vb1_ b1_ Sb1_ ∧ Is [(1, vF 107 #[] #[]), (5, vb1_), (12, l'v), (13, vI (l'.length : Int)), (14, vI x2_)] (List.flatten [Sb1_]) tt ll ∧ nn = n13 + 1) (N + 1) ?_ ?_
 ·exact ⟨N, r6, 0, hM, s8, S9, H10, Ak rfl rfl, rfl⟩
 clear hM; rintro t l _ ⟨n13, b1_, x2_, hM, vb1_, Sb1_, hb1_, ⟨⟨T, rfl⟩, rfl⟩, rfl⟩
 rcases n13 with _ | n13
 ·exact absurd hM (by simp [Cu])
 rw [Cu] at hM
 refine AZ rfl <| Aa fun K15 hK15 => aD hM rfl (fun hc16 hM => ?_) (fun hc16 hM => ?_)
 ·refine Af <| hK15 _ _ ?_
  refine Aa fun K17 hK17 => Aj <| Ai <| kC hM fun ck19 hM => ?_
  obtain ⟨_, ⟨s20, s21, s22, hs23, hs24, hs25, rfl⟩, hat26⟩ := RdN.at (E := Im) hl' (CP ck19)
  refine rI (RdN.shp hl') ck19 rfl <| Mv (vA #[vS (l'[x2_.toNat]!.1), s20, s21, s22, vI (l'[x2_.toNat]!.2.2.2.2)]) (vs := [vS (l'[x2_.toNat]!.1), s20, s21, s22, vI (l'[x2_.toNat]!.2.2.2.2)]) (x2_.toNat * 5) 0 rfl rfl (fun o w z_ => At.mono z_.ro_cell hat26) rfl <| rA rfl fun b27 => r_s (List.flatten [(Ef b27 (l'[x2_.toNat]!.1) s20 s21 s22 (l'[x2_.toNat]!.2.2.2.2)), Sb1_]) 0 _ _ _ _ _ (#[vS (l'[x2_.toNat]!.1), s20, s21, s22, vI (l'[x2_.toNat]!.2.2.2.2)]) rfl rfl rfl rfl (.ofS rfl rfl (Ab rfl (Ab (Shp.one (Rd.shp hs23)) (Ab (Shp.one (Rd.shp hs24)) (Ab (Shp.one (Rd.shp hs25)) (Ab rfl Bh)))))) rfl rfl <| As ?_
  refine A_regC [(some 21, false), (some 22, true)] (conG prog [(21, fun _ _ v_ L_ U_ => ∀ u0_, GU N (l'[x2_.toNat]!.1) (l'[x2_.toNat]!.2.1) (l'[x2_.toNat]!.2.2.1) (l'[x2_.toNat]!.2.2.2.1) (l'[x2_.toNat]!.2.2.2.2) = some u0_ → (p1 (fun s_ => s_) 5 encY u0_) v_ L_ U_)]) <| rm 3 [0] rfl <| kB hM fun r28 hr29 hM => AP (Ls := [(Ef b27 (l'[x2_.toNat]!.1) s20 s21 s22 (l'[x2_.toNat]!.2.2.2.2)), Sb1_]) (fun s30 => s30) 5 encY r28 107 _ rfl rfl rfl (AO (caps := []) rfl gV rfl) (fun o w z_ => Qx N (l'[x2_.toNat]!.1) (l'[x2_.toNat]!.2.1) (l'[x2_.toNat]!.2.2.1) (l'[x2_.toNat]!.2.2.2.1) (l'[x2_.toNat]!.2.2.2.2) _ hr29 z_.view s20 (z_.r hs23) s21 (z_.r hs24) s22 (z_.r hs25)) (Ao hr29) (fun s30 S31 H32 => ?_)
  refine kC hM fun ck33 hM => Dg (Ls := [(Ef b27 (l'[x2_.toNat]!.1) s20 s21 s22 (l'[x2_.toNat]!.2.2.2.2)), Sb1_, S31]) 1 (En := encY) rfl rfl rfl rfl rfl hb1_ rfl (Ap H32 (Ad (Ls := [(Ef b27 (l'[x2_.toNat]!.1) s20 s21 s22 (l'[x2_.toNat]!.2.2.2.2)), Sb1_, S31]) (k := 2) rfl rfl)) rfl rfl rfl rfl rfl (Dk ck33 rfl) (Dj ck33 rfl) rfl (fun s34 S35 H36 => ?_)
  refine rz rfl <| hK17 _ _ ?_
  refine Ar <| kC hM fun ck37 hM => rX ck37 rfl <| rz rfl <| fg _ (Sub.pick [(Ef b27 (l'[x2_.toNat]!.1) s20 s21 s22 (l'[x2_.toNat]!.2.2.2.2)), S35, S31] [1] rfl) ?_
  exact ⟨n13 + 1, by omega, n13, (b1_ ++ r28), (x2_ + 1), hM, s34, S35, H36, Ak rfl rfl, rfl⟩
 refine AS <| hK11 _ _ ?_
 refine AZ rfl ?_
 cases hM
 refine Au (fun hn => AG (v0 := vb1_) hb1_ (Aw (Sub.pick [Sb1_] [0] rfl)) rfl (AV rfl))
def FJ (N : Nat) (m : AN) : Option (List UInt8) := (Dq N m.2.2.2.2.1).bind fun r4 => some r4
theorem MO (N m r) (hM : FJ N m = some r) (ro) (mv : AH) (hm : Bun35R ro mv m) : Does prog 105 #[vA (Ag m mv)] ro [] (p1 (fun s_ => s_) 5 encY r) := by
 unfold FJ at hM
 refine Ac follows func105 rfl 6 rfl _ fz1 (fun base0_ => ?_)
 refine Ai <| rA rfl fun b2 => rz rfl <| A_sc [(some 5, false)] (conG prog [(5, fun _ _ v_ L_ U_ => ∀ u0_, Dq N m.2.2.2.2.1 = some u0_ → (p1 (fun s_ => s_) 5 encY u0_) v_ L_ U_)]) <| rm 2 [0] rfl <| kB hM fun r4 hr5 hM => AP (Ls := [[(b2, 35, (Ag m mv))]]) (fun s6 => s6) 5 encY r4 106 _ rfl rfl rfl (cF gW) (fun o w z_ => KE N m.2.2.2.2.1 _ hr5 z_.view mv.2.2.2.1 (RdN.mono z_.ro_cell hm.2.2.2.1)) (Ao hr5) (fun s6 S7 H8 => ?_)
 refine rz rfl ?_
 cases hM
 refine Au (fun hn => AG (v0 := s6) H8 (Aw (Sub.pick [[(b2, 35, (Ag m mv))], S7] [1] rfl)) rfl (AV rfl))
def Ew (N : Nat) (b : List UInt8) (n : Int) : Option (List UInt8) := (Ax N b n 1).bind fun r3 => some r3
theorem NG (N b n r) (hM : Ew N b n = some r) (ro : Ro) (bv : Value) (Sb : List Bl) (hb : Sl 5 encY bv b Sb) : Does prog 189 #[bv, vI n] ro (List.flatten [Sb]) (pO (List.flatten [Sb]) (oS 5 encY r fun s_0 => (oE s_0 []))) := by
 unfold Ew at hM
 refine BU follows func189 rfl 8 rfl _ fz2 (fun _ _ h_ _ => h_) (fun base0_ => ?_)
 refine AZ rfl <| A_sc [(some 7, true)] (conG prog [(7, fun _ _ v_ L_ U_ => ∀ u0_, Ax N b n 1 = some u0_ → (pO (List.flatten [Sb]) (oS 5 encY u0_ fun s_0 => (oE s_0 []))) v_ L_ U_)]) <| rn 2 rfl <| kB hM fun r3 hr4 hM => Ju (Ls := [Sb]) (FL := [Sb]) [0] _ (some 7) 164 _ rfl rfl rfl rfl rfl (cF Fe) (fun o w hn_ z_ => BL N b n 1 _ hr4 _ bv Sb hb) (Ao hr4) (fun h_ => nomatch h_) ?_
 rintro s5 _ ⟨_, S6, _, H7, ⟨rfl, rfl⟩, rfl⟩
 refine AX (Ls := [S6]) (Ls' := [S6]) [0] rfl rfl <| rz rfl ?_
 cases hM
 refine Au (fun hn => Ge (v0 := s5) (O := [S6]) (AV rfl) (Sub.pick [S6] [0] rfl) ⟨s5, S6, _, H7, ⟨rfl, rfl⟩, rfl⟩)
def DI (N : Nat) (l' : List Int) : Nat → List UInt8 → Int → Option (List UInt8)
  | 0, _, _ => none
  | n19 + 1, b1_, x2_ => if x2_ < (l'.length : Int) then ck (0 ≤ x2_ ∧ x2_ < (l'.length : Int)) ((Ew N b1_ (l'[x2_.toNat]!)).bind fun r26 => ck (-9223372036854775808 ≤ (x2_ + 1) ∧ (x2_ + 1) ≤ 9223372036854775807) ((DI N l' n19) r26 (x2_ + 1))) else some b1_
def Ev (N : Nat) (b : List UInt8) (l' : List Int) : Option (List UInt8) := if (l'.length : Int) > 255 then (Ax N b 0 1).bind fun r6 => some r6 else (Ax N b (l'.length : Int) 1).bind fun r12 => DI N l' N r12 0
theorem NF (N b l' r) (hM : Ev N b l' = some r) (ro) (bv : Value) (Sb : List Bl) (hb : Sl 5 encY bv b Sb) (l'v) (hl' : Rd Bf ro l'v l') : Does prog 188 #[bv, l'v, vF 189 #[] #[]] ro (List.flatten [Sb]) (pO (List.flatten [Sb]) (oS 5 encY r fun s_0 => (oE s_0 []))) := by
 unfold Ev at hM
 refine BU follows func188 rfl 30 rfl _ fz3 (fun _ _ h_ _ => h_) (fun base0_ => ?_)
 refine AZ rfl <| Aa fun K2 hK2 => Ai <| rn 1 rfl <| rL (Rd.shp hl') rfl <| rz rfl <| aD hM rfl (fun hc4 hM => ?_) (fun hc4 hM => ?_)
 ·refine A_sc [(some 13, true)] (conG prog [(13, fun _ _ v_ L_ U_ => ∀ u0_, Ax N b 0 1 = some u0_ → (pO (List.flatten [Sb]) (oS 5 encY u0_ fun s_0 => (oE s_0 []))) v_ L_ U_)]) <| rn 1 rfl <| kB hM fun r6 hr7 hM => Ju (Ls := [Sb]) (FL := [Sb]) [0] _ (some 13) 164 _ rfl rfl rfl rfl rfl (cF Fe) (fun o w hn_ z_ => BL N b 0 1 _ hr7 _ bv Sb hb) (Ao hr7) (fun h_ => nomatch h_) ?_
  rintro s8 _ ⟨_, S9, _, H10, ⟨rfl, rfl⟩, rfl⟩
  refine AX (Ls := [S9]) (Ls' := [S9]) [0] rfl rfl <| rz rfl ?_
  cases hM
  refine Au (fun hn => Ge (v0 := s8) (O := [S9]) (AV rfl) (Sub.pick [S9] [0] rfl) ⟨s8, S9, _, H10, ⟨rfl, rfl⟩, rfl⟩)
 refine Af <| hK2 _ _ ?_
 refine A_sc [(some 17, true)] (conG prog [(17, fun _ _ v_ L_ U_ => ∀ u0_, Ax N b (l'.length : Int) 1 = some u0_ → (pO (List.flatten [Sb]) (oS 5 encY u0_ fun s_0 => (oE s_0 []))) v_ L_ U_)]) <| rn 2 rfl <| rL (Rd.shp hl') rfl <| kB hM fun r12 hr13 hM => Ju (Ls := [Sb]) (FL := [Sb]) [0] _ (some 17) 164 _ rfl rfl rfl rfl rfl (cF Fe) (fun o w hn_ z_ => BL N b (l'.length : Int) 1 _ hr13 _ bv Sb hb) (Ao hr13) (fun h_ => nomatch h_) ?_
 rintro s14 _ ⟨_, S15, _, H16, ⟨rfl, rfl⟩, rfl⟩
 refine AX (Ls := [S15]) (Ls' := [S15]) [0] rfl rfl <| rz rfl <| Aa fun K17 hK17 => Ai <| rn 1 rfl <| rL (Rd.shp hl') rfl <| rz rfl <| Aj <| Be _ (Sub.pick [S15] [0] rfl) <| AU (fun tt ll nn => ∃ (n19 : Nat) (b1_ : List UInt8) (x2_ : Int), (DI N l' n19 b1_ x2_ = some r) ∧ ∃ (vb1_ : Value) (Sb1_ : List Bl), Sl 5 encY vb1_ b1_ Sb1_ ∧ Is [(0, vb1_), (2, vF 189 #[] #[]), (18, l'v), (19, vI (l'.length : Int)), (20, vI x2_)] (List.flatten [Sb1_]) tt ll ∧ nn = n19 + 1) (N + 1) ?_ ?_
 ·exact ⟨N, r12, 0, hM, s14, S15, H16, Ak rfl rfl, rfl⟩
 clear hM; rintro t l _ ⟨n19, b1_, x2_, hM, vb1_, Sb1_, hb1_, ⟨⟨T, rfl⟩, rfl⟩, rfl⟩
 rcases n19 with _ | n19
 ·exact absurd hM (by simp [DI])
 rw [DI] at hM
 refine AZ rfl <| Aa fun K21 hK21 => aD hM rfl (fun hc22 hM => ?_) (fun hc22 hM => ?_)
 ·refine Af <| hK21 _ _ ?_
  refine Aa fun K23 hK23 => Aj <| Ai <| kC hM fun ck25 hM => rI (Rd.shp hl') ck25 rfl <| rE (AA hl') ck25 0 rfl <| rz rfl <| A_regC [(some 27, true)] (conG prog [(27, fun _ _ v_ L_ U_ => ∀ u0_, Ew N b1_ (l'[x2_.toNat]!) = some u0_ → (pO (List.flatten [Sb1_]) (oS 5 encY u0_ fun s_0 => (oE s_0 []))) v_ L_ U_)]) <| rn 3 rfl <| kB hM fun r26 hr27 hM => Ju (Ls := [Sb1_]) (FL := [Sb1_]) [0] _ (some 27) 189 _ rfl rfl rfl rfl rfl (AO (caps := []) rfl ge rfl) (fun o w hn_ z_ => NG N b1_ (l'[x2_.toNat]!) _ hr27 _ vb1_ Sb1_ hb1_) (Ao hr27) (fun h_ => nomatch h_) ?_
  rintro s28 _ ⟨_, S29, _, H30, ⟨rfl, rfl⟩, rfl⟩
  refine AX (Ls := [S29]) (Ls' := [S29]) [0] rfl rfl <| rz rfl <| hK23 _ _ ?_
  refine Ar <| kC hM fun ck31 hM => rX ck31 rfl <| rz rfl <| fg _ (Sub.pick [S29] [0] rfl) ?_
  exact ⟨n19 + 1, by omega, n19, r26, (x2_ + 1), hM, s28, S29, H30, Ak rfl rfl, rfl⟩
 refine AS <| hK17 _ _ ?_
 refine AZ rfl ?_
 cases hM
 refine Au (fun hn => Ge (v0 := vb1_) (O := [Sb1_]) (AV rfl) (Sub.pick [Sb1_] [0] rfl) ⟨vb1_, Sb1_, _, hb1_, ⟨rfl, rfl⟩, rfl⟩)
def CE (N : Nat) (b : List UInt8) (l' : List Int) : Option (List UInt8) := (Av N b).bind fun r3 => (Ev N r3 l').bind fun r11 => some r11
theorem JW (N b l' r) (hM : CE N b l' = some r) (ro bv) (hb : Rd encY ro bv b) (l'v) (hl' : Rd Bf ro l'v l') : Does prog 119 #[bv, l'v] ro [] (p1 (fun s_ => s_) 5 encY r) := by
 unfold CE at hM
 refine Ac follows func119 rfl 9 rfl _ fz2 (fun base0_ => ?_)
 refine AZ rfl <| A_sc [(some 6, false), (some 8, true)] (conG prog [(6, fun _ _ v_ L_ U_ => ∀ u0_, Av N b = some u0_ → (p1 (fun s_ => s_) 5 encY u0_) v_ L_ U_), (8, fun a_ _ v_ L_ U_ => ∀ u0_, Av N b = some u0_ → ∀ u1_, Ev N u0_ l' = some u1_ → (pN (List.flatten [Nk (Li a_ 1)]) (oS 5 encY u1_ fun s_0 => (oE s_0 []))) v_ L_ U_)]) <| rn 1 rfl <| kB hM fun r3 hr4 hM => AP (Ls := []) (fun s5 => s5) 5 encY r3 165 _ rfl rfl rfl (cF KA) (fun o w z_ => BZ N b _ hr4 z_.view bv (z_.r hb)) (Ao hr4) (fun s5 S6 H7 => ?_)
 refine rn 1 rfl <| Ki (Ls := [S6]) trivial 0 rfl H7 (fun S8 H9 hn10 => ?_)
 refine kB hM fun r11 hr12 hM => Qf (Ls := [S8]) (FL := [S8]) (RL := []) [0] (oS 5 encY r11 fun s_0 => (oE s_0 [])) (some 8) 188 _ (pc := fun a_ => pN (List.flatten [Nk (Li a_ 1)]) (oS 5 encY r11 fun s_0 => (oE s_0 []))) rfl rfl rfl rfl rfl (cF gf) (fun o w hn_ z_ => NF N r3 l' _ hr12 _ s5 S8 H9 l'v (Rd.mono (OB (Ls := [S8]) (is := [0]) rfl z_) hl')) (fun _ _ v_ L_ U_ => ⟨fun h_ => h_ _ hr4 _ hr12, fun h_ => by intro _ e_; cases Option.some.inj (e_.symm.trans hr4); intro _ e_; cases Option.some.inj (e_.symm.trans hr12); exact h_⟩) (fun _ _ _ => Oc (nmF (nmC hn10 nmN))) (fun h_ => nomatch h_) ?_
 rintro s13 _ ⟨_, S14, _, H15, ⟨rfl, rfl⟩, rfl⟩
 refine AX (Ls := [S14]) (Ls' := [S14]) [0] rfl rfl <| rz rfl ?_
 cases hM
 refine Au (fun hn => AG (v0 := s13) H15 (Aw (Sub.pick [S14] [0] rfl)) rfl (AV rfl))
def Qr (_ : Nat) (_ : Int) (_ : BitVec 128) : Option Int := some 0
theorem Xs (N s_0 s_1 r) (hM : Qr N s_0 s_1 = some r) : Gives prog 423 #[vA #[vI s_0, U (hi s_1), U (lo s_1)]] (vI r) := by
 unfold Qr at hM
 refine Aq follows func423 rfl 3 rfl _ fz1 (fun base0_ => ?_)
 refine Ai <| rA rfl fun b2 => rz rfl <| AZ rfl ?_
 cases hM
 exact aR eE1
def Pd (_ : Nat) (s_0 : Int) (_ : Int) (_ : Int) : Option Int := some s_0
theorem VS (N s_0 s_1 s_2 r) (hM : Pd N s_0 s_1 s_2 = some r) : Gives prog 424 #[vA #[vI s_0, vI s_1, vI s_2]] (vI r) := by
 unfold Pd at hM
 refine Aq follows func424 rfl 5 rfl _ fz1 (fun base0_ => ?_)
 refine Ai <| rA rfl fun b2 => rz rfl <| AY [0] rfl ?_
 cases hM
 exact aR eE1
def MS (_ : Nat) (s : Sum214) : Option (List Int) := Sum214.on s (some []) (fun _ _ => some []) (fun _ x1 x2 => some [x1, x2]) (fun _ x1 => some [x1]) (fun _ x1 => some [x1]) (fun x0 x1 => if x0 ≠ 6 then if x0 ≠ 7 then some [x1] else some [] else some []) (fun x0 x1 => some [x0, x1]) (fun _ x1 x2 => some [x1, x2]) (fun _ x1 => some [x1]) (fun x0 x1 => some [x0, x1]) (some []) (fun _ => some [])
def Bt (s : Sum214) : Nat := Sum214.on s 0 (fun _ _ => 272) (fun _ _ _ => 294) (fun _ _ => 297) (fun _ _ => 299) (fun _ _ => 301) (fun _ _ => 304) (fun _ _ _ => 307) (fun _ _ => 310) (fun _ _ => 313) 366 (fun _ => 368)
theorem mJ {s : Sum214} (h : Bt s = 294) : ∃ x0 x1 x2, s = .t294 x0 x1 x2 := by cases s <;> first | exact ⟨_, _, _, rfl⟩ | simp [Bt, Sum214.on] at h
theorem mA {s : Sum214} {c : Addr → Option Value} (h : Bt s ≠ 294) : ev prog c (Instr.typeAssert (Sum214.v s) 214 294 true) = some (vT #[vA #[vI 0, vI 0, vI 0], vB false]) := by cases s <;> first | rfl | exact absurd rfl h
theorem mI {s : Sum214} (h : Bt s = 297) : ∃ x0 x1, s = .t297 x0 x1 := by cases s <;> first | exact ⟨_, _, rfl⟩ | simp [Bt, Sum214.on] at h
theorem mz {s : Sum214} {c : Addr → Option Value} (h : Bt s ≠ 297) : ev prog c (Instr.typeAssert (Sum214.v s) 214 297 true) = some (vT #[vA #[vI 0, vI 0], vB false]) := by cases s <;> first | rfl | exact absurd rfl h
theorem mH {s : Sum214} (h : Bt s = 299) : ∃ x0 x1, s = .t299 x0 x1 := by cases s <;> first | exact ⟨_, _, rfl⟩ | simp [Bt, Sum214.on] at h
theorem my {s : Sum214} {c : Addr → Option Value} (h : Bt s ≠ 299) : ev prog c (Instr.typeAssert (Sum214.v s) 214 299 true) = some (vT #[vA #[vI 0, vI 0], vB false]) := by cases s <;> first | rfl | exact absurd rfl h
theorem mG {s : Sum214} (h : Bt s = 301) : ∃ x0 x1, s = .t301 x0 x1 := by cases s <;> first | exact ⟨_, _, rfl⟩ | simp [Bt, Sum214.on] at h
theorem mx {s : Sum214} {c : Addr → Option Value} (h : Bt s ≠ 301) : ev prog c (Instr.typeAssert (Sum214.v s) 214 301 true) = some (vT #[vA #[vI 0, vI 0], vB false]) := by cases s <;> first | rfl | exact absurd rfl h
theorem mF {s : Sum214} (h : Bt s = 304) : ∃ x0 x1, s = .t304 x0 x1 := by cases s <;> first | exact ⟨_, _, rfl⟩ | simp [Bt, Sum214.on] at h
theorem mw {s : Sum214} {c : Addr → Option Value} (h : Bt s ≠ 304) : ev prog c (Instr.typeAssert (Sum214.v s) 214 304 true) = some (vT #[vA #[vI 0, vI 0], vB false]) := by cases s <;> first | rfl | exact absurd rfl h
theorem mE {s : Sum214} (h : Bt s = 307) : ∃ x0 x1 x2, s = .t307 x0 x1 x2 := by cases s <;> first | exact ⟨_, _, _, rfl⟩ | simp [Bt, Sum214.on] at h
theorem mt {s : Sum214} {c : Addr → Option Value} (h : Bt s ≠ 307) : ev prog c (Instr.typeAssert (Sum214.v s) 214 307 true) = some (vT #[vA #[vI 0, vI 0, vI 0], vB false]) := by cases s <;> first | rfl | exact absurd rfl h
theorem mD {s : Sum214} (h : Bt s = 310) : ∃ x0 x1, s = .t310 x0 x1 := by cases s <;> first | exact ⟨_, _, rfl⟩ | simp [Bt, Sum214.on] at h
theorem ms {s : Sum214} {c : Addr → Option Value} (h : Bt s ≠ 310) : ev prog c (Instr.typeAssert (Sum214.v s) 214 310 true) = some (vT #[vA #[vI 0, vI 0], vB false]) := by cases s <;> first | rfl | exact absurd rfl h
theorem mC {s : Sum214} (h : Bt s = 313) : ∃ x0 x1, s = .t313 x0 x1 := by cases s <;> first | exact ⟨_, _, rfl⟩ | simp [Bt, Sum214.on] at h
theorem mq {s : Sum214} {c : Addr → Option Value} (h : Bt s ≠ 313) : ev prog c (Instr.typeAssert (Sum214.v s) 214 313 true) = some (vT #[vA #[vI 0, vI 0], vB false]) := by cases s <;> first | rfl | exact absurd rfl h
theorem Ru (N s r) (hM : MS N s = some r) (ro : Ro) : Does prog 192 #[Sum214.v s] ro [] (p1 (fun s_ => s_) 3 Bf r) := by
 refine Ac follows func192 rfl 109 rfl _ fz1 (fun base0_ => ?_)
 refine AZ rfl ?_
 refine Cr (fun tt ll => (Bt s ≠ 294 ∧ True) ∧ Is [(0, Sum214.v s)] [] tt ll) ?_ ?_
 ·refine Ai <| rn 1 rfl ?_
  by_cases hs : Bt s = 294
  ·obtain ⟨x0, x1, x2, rfl⟩ := mJ hs
   refine r_W (vT #[vA #[vI x0, vI x1, vI x2], vB true]) rfl (BT rfl rfl) <| rn 3 rfl <| rA rfl fun b1 => ry [0] rfl <| AZ rfl <| AB true rfl (fun _ => ?_) (fun h_ => nomatch h_)
   refine A_sc [(some 29, false)] (conG prog []) <| rm 4 [0, 0] rfl <| wBs (cs0 := []) 3 Bf [x1, x2] [vI x1, vI x2] [vI 0, vI 0] rfl rfl rfl rfl rfl rfl rfl (by kernel_rfl) (by kernel_rfl) rfl rfl rfl (fun s1 S1 H1 => rz rfl ?_)
   obtain rfl : [x1, x2] = r := Option.some.inj hM
   exact Au (fun _ => AG H1 (UM (l := [(b1, 294, #[vI x0, vI x1, vI x2])]) H1) rfl (AV rfl))
  refine r_W (vT #[vA #[vI 0, vI 0, vI 0], vB false]) rfl (BT rfl (mA hs)) <| rn 3 rfl <| rA rfl fun b1 => ry [0] rfl <| AZ rfl <| AB false rfl (fun h_ => nomatch h_) (fun _ => Af <| fg [] (Sub.nil _) ⟨⟨hs, trivial⟩, Ak rfl rfl⟩)
 rintro t l ⟨h, ⟨T, rfl⟩, rfl⟩
 refine Cr (fun tt ll => (Bt s ≠ 297 ∧ (Bt s ≠ 294 ∧ True)) ∧ Is [(0, Sum214.v s)] [] tt ll) ?_ ?_
 ·refine Ai <| rn 1 rfl ?_
  by_cases hs : Bt s = 297
  ·obtain ⟨x0, x1, rfl⟩ := mI hs
   refine r_W (vT #[vA #[vI x0, vI x1], vB true]) rfl (BT rfl rfl) <| rn 3 rfl <| rA rfl fun b1 => ry [0] rfl <| AZ rfl <| AB true rfl (fun _ => ?_) (fun h_ => nomatch h_)
   refine A_sc [(some 38, false)] (conG prog []) <| rm 2 [0] rfl <| wBs (cs0 := []) 3 Bf [x1] [vI x1] [vI 0] rfl rfl rfl rfl rfl rfl rfl (by kernel_rfl) (by kernel_rfl) rfl rfl rfl (fun s1 S1 H1 => rz rfl ?_)
   obtain rfl : [x1] = r := Option.some.inj hM
   exact Au (fun _ => AG H1 (UM (l := [(b1, 297, #[vI x0, vI x1])]) H1) rfl (AV rfl))
  refine r_W (vT #[vA #[vI 0, vI 0], vB false]) rfl (BT rfl (mz hs)) <| rn 3 rfl <| rA rfl fun b1 => ry [0] rfl <| AZ rfl <| AB false rfl (fun h_ => nomatch h_) (fun _ => Af <| fg [] (Sub.nil _) ⟨⟨hs, h⟩, Ak rfl rfl⟩)
 rintro t l ⟨h, ⟨T, rfl⟩, rfl⟩
 refine Cr (fun tt ll => (Bt s ≠ 299 ∧ (Bt s ≠ 297 ∧ (Bt s ≠ 294 ∧ True))) ∧ Is [(0, Sum214.v s)] [] tt ll) ?_ ?_
 ·refine Ai <| rn 1 rfl ?_
  by_cases hs : Bt s = 299
  ·obtain ⟨x0, x1, rfl⟩ := mH hs
   refine r_W (vT #[vA #[vI x0, vI x1], vB true]) rfl (BT rfl rfl) <| rn 3 rfl <| rA rfl fun b1 => ry [0] rfl <| AZ rfl <| AB true rfl (fun _ => ?_) (fun h_ => nomatch h_)
   refine A_sc [(some 47, false)] (conG prog []) <| rm 2 [0] rfl <| wBs (cs0 := []) 3 Bf [x1] [vI x1] [vI 0] rfl rfl rfl rfl rfl rfl rfl (by kernel_rfl) (by kernel_rfl) rfl rfl rfl (fun s1 S1 H1 => rz rfl ?_)
   obtain rfl : [x1] = r := Option.some.inj hM
   exact Au (fun _ => AG H1 (UM (l := [(b1, 299, #[vI x0, vI x1])]) H1) rfl (AV rfl))
  refine r_W (vT #[vA #[vI 0, vI 0], vB false]) rfl (BT rfl (my hs)) <| rn 3 rfl <| rA rfl fun b1 => ry [0] rfl <| AZ rfl <| AB false rfl (fun h_ => nomatch h_) (fun _ => Af <| fg [] (Sub.nil _) ⟨⟨hs, h⟩, Ak rfl rfl⟩)
 rintro t l ⟨h, ⟨T, rfl⟩, rfl⟩
 refine Cr (fun tt ll => ((Bt s = 301 → r = []) ∧ (Bt s ≠ 299 ∧ (Bt s ≠ 297 ∧ (Bt s ≠ 294 ∧ True)))) ∧ Is [(0, Sum214.v s)] [] tt ll) ?_ ?_
 ·refine Ai <| rn 1 rfl ?_
  by_cases hs : Bt s = 301
  ·obtain ⟨x0, x1, rfl⟩ := mG hs
   replace hM : (if x0 ≠ 6 then if x0 ≠ 7 then some [x1] else some [] else some []) = some r := hM
   refine r_W (vT #[vA #[vI x0, vI x1], vB true]) rfl (BT rfl rfl) <| rn 3 rfl <| rA rfl fun b1 => ry [0] rfl <| Aa fun K1 hK1 => Ar <| rn 3 rfl <| r_y rfl <| rm 4 [0] rfl ?_
   rcases hg1 : (x0 != 6) with _ | _
   ·replace hM := iM hg1 hM
    refine rz rfl <| hK1 _ _ <| AB false rfl (fun h_ => nomatch h_) (fun _ => Af <| fg [] (Sub.nil _) ⟨⟨fun _ => (Option.some.inj hM).symm, h⟩, Ak rfl rfl⟩)
   replace hM := iN hg1 hM
   refine rn 1 rfl <| r_y rfl <| ry [0] rfl <| hK1 _ _ <| aN hM rfl (fun hc1 hM => ?_) (fun hc1 hM => Af <| fg [] (Sub.nil _) ⟨⟨fun _ => (Option.some.inj hM).symm, h⟩, Ak rfl rfl⟩)
   refine A_sc [(some 66, false)] (conG prog []) <| rm 2 [0] rfl <| wBs (cs0 := []) 3 Bf [x1] [vI x1] [vI 0] rfl rfl rfl rfl rfl rfl rfl (by kernel_rfl) (by kernel_rfl) rfl rfl rfl (fun s1 S1 H1 => rz rfl ?_)
   obtain rfl : [x1] = r := Option.some.inj hM
   exact Au (fun _ => AG H1 (UM (l := [(b1, 301, #[vI x0, vI x1])]) H1) rfl (AV rfl))
  refine r_W (vT #[vA #[vI 0, vI 0], vB false]) rfl (BT rfl (mx hs)) <| rn 3 rfl <| rA rfl fun b1 => ry [0] rfl <| AZ rfl <| AB false rfl (fun h_ => nomatch h_) (fun _ => Af <| fg [] (Sub.nil _) ⟨⟨fun e => absurd e hs, h⟩, Ak rfl rfl⟩)
 rintro t l ⟨h, ⟨T, rfl⟩, rfl⟩
 refine Cr (fun tt ll => (Bt s ≠ 304 ∧ ((Bt s = 301 → r = []) ∧ (Bt s ≠ 299 ∧ (Bt s ≠ 297 ∧ (Bt s ≠ 294 ∧ True))))) ∧ Is [(0, Sum214.v s)] [] tt ll) ?_ ?_
 ·refine Ai <| rn 1 rfl ?_
  by_cases hs : Bt s = 304
  ·obtain ⟨x0, x1, rfl⟩ := mF hs
   refine r_W (vT #[vA #[vI x0, vI x1], vB true]) rfl (BT rfl rfl) <| rn 3 rfl <| rA rfl fun b1 => ry [0] rfl <| AZ rfl <| AB true rfl (fun _ => ?_) (fun h_ => nomatch h_)
   refine A_sc [(some 77, false)] (conG prog []) <| rm 4 [0, 0] rfl <| wBs (cs0 := []) 3 Bf [x0, x1] [vI x0, vI x1] [vI 0, vI 0] rfl rfl rfl rfl rfl rfl rfl (by kernel_rfl) (by kernel_rfl) rfl rfl rfl (fun s1 S1 H1 => rz rfl ?_)
   obtain rfl : [x0, x1] = r := Option.some.inj hM
   exact Au (fun _ => AG H1 (UM (l := [(b1, 304, #[vI x0, vI x1])]) H1) rfl (AV rfl))
  refine r_W (vT #[vA #[vI 0, vI 0], vB false]) rfl (BT rfl (mw hs)) <| rn 3 rfl <| rA rfl fun b1 => ry [0] rfl <| AZ rfl <| AB false rfl (fun h_ => nomatch h_) (fun _ => Af <| fg [] (Sub.nil _) ⟨⟨hs, h⟩, Ak rfl rfl⟩)
 rintro t l ⟨h, ⟨T, rfl⟩, rfl⟩
 refine Cr (fun tt ll => (Bt s ≠ 307 ∧ (Bt s ≠ 304 ∧ ((Bt s = 301 → r = []) ∧ (Bt s ≠ 299 ∧ (Bt s ≠ 297 ∧ (Bt s ≠ 294 ∧ True)))))) ∧ Is [(0, Sum214.v s)] [] tt ll) ?_ ?_
 ·refine Ai <| rn 1 rfl ?_
  by_cases hs : Bt s = 307
  ·obtain ⟨x0, x1, x2, rfl⟩ := mE hs
   refine r_W (vT #[vA #[vI x0, vI x1, vI x2], vB true]) rfl (BT rfl rfl) <| rn 3 rfl <| rA rfl fun b1 => ry [0] rfl <| AZ rfl <| AB true rfl (fun _ => ?_) (fun h_ => nomatch h_)
   refine A_sc [(some 88, false)] (conG prog []) <| rm 4 [0, 0] rfl <| wBs (cs0 := []) 3 Bf [x1, x2] [vI x1, vI x2] [vI 0, vI 0] rfl rfl rfl rfl rfl rfl rfl (by kernel_rfl) (by kernel_rfl) rfl rfl rfl (fun s1 S1 H1 => rz rfl ?_)
   obtain rfl : [x1, x2] = r := Option.some.inj hM
   exact Au (fun _ => AG H1 (UM (l := [(b1, 307, #[vI x0, vI x1, vI x2])]) H1) rfl (AV rfl))
  refine r_W (vT #[vA #[vI 0, vI 0, vI 0], vB false]) rfl (BT rfl (mt hs)) <| rn 3 rfl <| rA rfl fun b1 => ry [0] rfl <| AZ rfl <| AB false rfl (fun h_ => nomatch h_) (fun _ => Af <| fg [] (Sub.nil _) ⟨⟨hs, h⟩, Ak rfl rfl⟩)
 rintro t l ⟨h, ⟨T, rfl⟩, rfl⟩
 refine Cr (fun tt ll => (Bt s ≠ 310 ∧ (Bt s ≠ 307 ∧ (Bt s ≠ 304 ∧ ((Bt s = 301 → r = []) ∧ (Bt s ≠ 299 ∧ (Bt s ≠ 297 ∧ (Bt s ≠ 294 ∧ True))))))) ∧ Is [(0, Sum214.v s)] [] tt ll) ?_ ?_
 ·refine Ai <| rn 1 rfl ?_
  by_cases hs : Bt s = 310
  ·obtain ⟨x0, x1, rfl⟩ := mD hs
   refine r_W (vT #[vA #[vI x0, vI x1], vB true]) rfl (BT rfl rfl) <| rn 3 rfl <| rA rfl fun b1 => ry [0] rfl <| AZ rfl <| AB true rfl (fun _ => ?_) (fun h_ => nomatch h_)
   refine A_sc [(some 97, false)] (conG prog []) <| rm 2 [0] rfl <| wBs (cs0 := []) 3 Bf [x1] [vI x1] [vI 0] rfl rfl rfl rfl rfl rfl rfl (by kernel_rfl) (by kernel_rfl) rfl rfl rfl (fun s1 S1 H1 => rz rfl ?_)
   obtain rfl : [x1] = r := Option.some.inj hM
   exact Au (fun _ => AG H1 (UM (l := [(b1, 310, #[vI x0, vI x1])]) H1) rfl (AV rfl))
  refine r_W (vT #[vA #[vI 0, vI 0], vB false]) rfl (BT rfl (ms hs)) <| rn 3 rfl <| rA rfl fun b1 => ry [0] rfl <| AZ rfl <| AB false rfl (fun h_ => nomatch h_) (fun _ => Af <| fg [] (Sub.nil _) ⟨⟨hs, h⟩, Ak rfl rfl⟩)
 rintro t l ⟨h, ⟨T, rfl⟩, rfl⟩
 refine Cr (fun tt ll => (Bt s ≠ 313 ∧ (Bt s ≠ 310 ∧ (Bt s ≠ 307 ∧ (Bt s ≠ 304 ∧ ((Bt s = 301 → r = []) ∧ (Bt s ≠ 299 ∧ (Bt s ≠ 297 ∧ (Bt s ≠ 294 ∧ True)))))))) ∧ Is [(0, Sum214.v s)] [] tt ll) ?_ ?_
 ·refine Ai <| rn 1 rfl ?_
  by_cases hs : Bt s = 313
  ·obtain ⟨x0, x1, rfl⟩ := mC hs
   refine r_W (vT #[vA #[vI x0, vI x1], vB true]) rfl (BT rfl rfl) <| rn 3 rfl <| rA rfl fun b1 => ry [0] rfl <| AZ rfl <| AB true rfl (fun _ => ?_) (fun h_ => nomatch h_)
   refine A_sc [(some 108, false)] (conG prog []) <| rm 4 [0, 0] rfl <| wBs (cs0 := []) 3 Bf [x0, x1] [vI x0, vI x1] [vI 0, vI 0] rfl rfl rfl rfl rfl rfl rfl (by kernel_rfl) (by kernel_rfl) rfl rfl rfl (fun s1 S1 H1 => rz rfl ?_)
   obtain rfl : [x0, x1] = r := Option.some.inj hM
   exact Au (fun _ => AG H1 (UM (l := [(b1, 313, #[vI x0, vI x1])]) H1) rfl (AV rfl))
  refine r_W (vT #[vA #[vI 0, vI 0], vB false]) rfl (BT rfl (mq hs)) <| rn 3 rfl <| rA rfl fun b1 => ry [0] rfl <| AZ rfl <| AB false rfl (fun h_ => nomatch h_) (fun _ => Af <| fg [] (Sub.nil _) ⟨⟨hs, h⟩, Ak rfl rfl⟩)
 rintro t l ⟨h, ⟨T, rfl⟩, rfl⟩
 have hr : r = [] := by
  cases s <;> first | exact (Option.some.inj hM).symm | exact absurd rfl h.2.2.2.2.2.2.2.1 | exact absurd rfl h.2.2.2.2.2.2.1 | exact absurd rfl h.2.2.2.2.2.1 | exact h.2.2.2.2.1 rfl | exact absurd rfl h.2.2.2.1 | exact absurd rfl h.2.2.1 | exact absurd rfl h.2.1 | exact absurd rfl h.1
 subst hr
 refine AZ rfl <| Au (fun _ => AG (v0 := nS) Sl.nil (Sub.nil _) rfl (AV rfl))
end Go.Proofs.YthafnifhhblkbaaGreatDoor
