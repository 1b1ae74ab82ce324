import Derived.Test.YthafnifhhblkbaaGreatDoorBi
import Derived.Test.YthafnifhhblkbaaGreatDoorBk
namespace Go.Proofs.YthafnifhhblkbaaGreatDoor
open Go Go.RowKit Go.Eng _root_.Go.Proofs.Tryz
set_option maxRecDepth 100000
set_option maxHeartbeats 8000000
abbrev BW (b : Nat) (x0 : Int) (x1 : BitVec 64) (x2 : BitVec 64) : List Bl := [(b, 54, #[vI x0, U x1, U x2])]
abbrev CM (b : Nat) (x0 : List UInt8) (x1 : Int) (x2 : Int) (x3 : Int) (x4 : Int) (x5 : Int) (x6 : Int) (x7 : Int) (x8 : List UInt8) : List Bl := [(b, 107, #[vS x0, vI x1, vI x2, vI x3, vI x4, vI x5, vI x6, vI x7, vS x8])]
def Ep (v_1 : BitVec 128) (l1_ : List Bool) (i2_ : Int) (rec_shunterref02_Bits_l3 : List Bool → Int → Option (List Bool)) : Option (List Bool) := ck (0 ≤ i2_ ∧ i2_ < 128) (ck ((l1_).length + ([((hi v_1) ++ (lo v_1)).getLsbD (i2_.toNat)]).length ≤ 140737488355328) (ck (-9223372036854775808 ≤ (i2_ + 1) ∧ (i2_ + 1) ≤ 9223372036854775807) (rec_shunterref02_Bits_l3 ((l1_ ++ ([((hi v_1) ++ (lo v_1)).getLsbD (i2_.toNat)]))) (i2_ + 1))))
def BN (v_0 : Int) (v_1 : BitVec 128) : Nat → List Bool → Int → Option (List Bool)
  | 0, _, _ => none
  | n8 + 1, l1_, i2_ => if i2_ < v_0 then if i2_ < 128 then Ep v_1 l1_ i2_ (BN v_0 v_1 n8)  else some l1_ else some l1_
def Ci (N : Nat) (v_0 : Int) (v_1 : BitVec 128) : Option (List Bool) := BN v_0 v_1 N ([]) 0
theorem JB (N v_0 v_1 r) (hM : Ci N v_0 v_1 = some r) (ro : Ro) : Does prog 93 #[vA #[vI v_0, U (hi v_1), U (lo v_1)]] ro [] (p1 (fun s_ => s_) 4 KG r) := by
 unfold Ci at hM
 refine Ac follows func93 rfl 28 rfl _ fz1 (fun base0_ => ?_)
 refine Ai <| rA rfl fun b2 => rz rfl <| Ai <| rm 4 [0, 0] rfl <| rc _ (cF Ye) (lK (hi v_1) (lo v_1)) <| r_a (207, Cp (BitVec.getLsbD (0#128))) rfl rfl ((km aX).trans (congrArg (fun x => some (207, x)) bw)) (fun b4 => ?_) (.inr rfl)
 refine r_s [(b4, 207, Cp (BitVec.getLsbD ((hi v_1) ++ (lo v_1)))), (b2, 54, #[vI v_0, U (hi v_1), U (lo v_1)])] 0 _ _ _ _ _ (Cp (BitVec.getLsbD ((hi v_1) ++ (lo v_1)))) rfl rfl rfl rfl (Ui rfl rfl _ _) (PY _ _) rfl <| As <| AZ rfl <| Aa fun K6 hK6 => AZ rfl <| Aj <| Be _ (Sub.pickE (Ls := [[(b4, 207, Cp (BitVec.getLsbD ((hi v_1) ++ (lo v_1))))], (BW b2 v_0 (hi v_1) (lo v_1)), []]) (Ls0 := [[(b4, 207, Cp (BitVec.getLsbD ((hi v_1) ++ (lo v_1))))], (BW b2 v_0 (hi v_1) (lo v_1))]) rfl [0, 1, 2] rfl) ?_
 refine AU (fun tt ll nn => ∃ (n8 : Nat) (l1_ : List Bool) (i2_ : Int), (BN v_0 v_1 n8 l1_ i2_ = some r) ∧ ∃ (vl1_ : Value) (Sl1_ : List Bl), Sl 4 KG vl1_ l1_ Sl1_ ∧ Is [(1, vP b2 0), (3, vP b4 0), (4, vl1_), (5, vI i2_)] (List.flatten [[(b4, 207, Cp (BitVec.getLsbD ((hi v_1) ++ (lo v_1))))], (BW b2 v_0 (hi v_1) (lo v_1)), Sl1_]) tt ll ∧ nn = n8 + 1) (N + 1) ?_ ?_
 ·exact ⟨N, [], 0, hM, nS, [], Sl.nil, Ak rfl rfl, rfl⟩
 clear hM; rintro t l _ ⟨n8, l1_, i2_, hM, vl1_, Sl1_, hl1_, ⟨⟨T, rfl⟩, rfl⟩, rfl⟩
 rcases n8 with _ | n8
 ·exact absurd hM (by simp [BN])
 rw [BN] at hM
 refine Cr (fun tt ll => (Ep v_1 l1_ i2_ (BN v_0 v_1 n8)  = some r) ∧ Is [(1, vP b2 0), (3, vP b4 0), (4, vl1_), (5, vI i2_)] (List.flatten [[(b4, 207, Cp (BitVec.getLsbD ((hi v_1) ++ (lo v_1))))], (BW b2 v_0 (hi v_1) (lo v_1)), Sl1_]) tt ll) ?_ ?_
 ·refine Aa fun K20 hK20 => Ar <| rm 5 [1] rfl ?_
  rcases hg21 : (decide (i2_ < v_0)) with _ | _
  ·replace hM := iF hg21 hM
   refine rz rfl <| hK20 _ _ ?_
   refine AB false rfl (fun h_ => nomatch h_) (fun _ => ?_)
   refine AS <| hK6 _ _ ?_
   refine AZ rfl ?_
   cases hM
   refine Au (fun hn => AG (v0 := vl1_) hl1_ (Aw (Sub.pick [[(b4, 207, Cp (BitVec.getLsbD ((hi v_1) ++ (lo v_1))))], (BW b2 v_0 (hi v_1) (lo v_1)), Sl1_] [2] rfl)) rfl (AV rfl))
  replace hM := iD hg21 hM
  refine rz rfl <| hK20 _ _ ?_
  refine aD hM rfl (fun hc23 hM => ?_) (fun hc23 hM => ?_)
  ·refine Af <| fg _ (Sub.pick [[(b4, 207, Cp (BitVec.getLsbD ((hi v_1) ++ (lo v_1))))], (BW b2 v_0 (hi v_1) (lo v_1)), Sl1_] [0, 1, 2] rfl) ?_
   exact ⟨hM, Ak rfl rfl⟩
  refine AS <| hK6 _ _ ?_
  refine AZ rfl ?_
  cases hM
  refine Au (fun hn => AG (v0 := vl1_) hl1_ (Aw (Sub.pick [[(b4, 207, Cp (BitVec.getLsbD ((hi v_1) ++ (lo v_1))))], (BW b2 v_0 (hi v_1) (lo v_1)), Sl1_] [2] rfl)) rfl (AV rfl))
 clear hM; rintro t l ⟨hM, ⟨T, rfl⟩, rfl⟩
 unfold Ep at hM
 refine Aa fun K9 hK9 => Aj <| A_regC [(some 25, false), (some 26, true)] (conG prog []) <| rn 2 rfl <| kC hM fun ck10 hM => ?_
 have hx11 := fun c => GE (ZJ (P := prog) (c := c) (t := 207) (b := b4) (off := 0) (k := .i64) rfl rfl rfl ck10)
 simp only [Nat.zero_add] at hx11
 have ck10n : i2_.toNat < 128 := by omega
 refine r_W (Value.pointer (some ⟨b4, i2_.toNat, none⟩)) rfl (hx11 _) <| r_l (vB (((hi v_1) ++ (lo v_1)).getLsbD (i2_.toNat))) 0 _ _ _ _ rfl rfl rfl rfl (Zu rfl _ ck10n) <| BF (cs0 := []) (Ls := [[(b4, 207, Cp (BitVec.getLsbD ((hi v_1) ++ (lo v_1))))], (BW b2 v_0 (hi v_1) (lo v_1)), Sl1_]) 4 KG [((hi v_1) ++ (lo v_1)).getLsbD (i2_.toNat)] [vB (((hi v_1) ++ (lo v_1)).getLsbD (i2_.toNat))] [vB false] rfl rfl rfl rfl rfl rfl rfl (by kernel_rfl) (by kernel_rfl) rfl rfl rfl (fun s12 S13 H14 => ?_)
 refine kC hM fun ck15 hM => Dg (cs0 := []) (Ls := [[(b4, 207, Cp (BitVec.getLsbD ((hi v_1) ++ (lo v_1))))], (BW b2 v_0 (hi v_1) (lo v_1)), Sl1_, S13]) 2 (En := KG) rfl rfl rfl rfl rfl hl1_ rfl (Ap H14 (Ad (Ls := [[(b4, 207, Cp (BitVec.getLsbD ((hi v_1) ++ (lo v_1))))], (BW b2 v_0 (hi v_1) (lo v_1)), Sl1_, S13]) (k := 3) rfl rfl)) rfl rfl rfl rfl rfl (Dk ck15 rfl) (Dj ck15 rfl) rfl (fun s16 S17 H18 => ?_)
 refine rz rfl <| hK9 _ _ ?_
 refine Ar <| rn 1 rfl <| kC hM fun ck19 hM => rX ck19 rfl <| rz rfl <| fg _ (Sub.pick [[(b4, 207, Cp (BitVec.getLsbD ((hi v_1) ++ (lo v_1))))], (BW b2 v_0 (hi v_1) (lo v_1)), S17, S13] [0, 1, 2] rfl) ?_
 exact ⟨n8 + 1, by omega, n8, (l1_ ++ ([((hi v_1) ++ (lo v_1)).getLsbD (i2_.toNat)])), (i2_ + 1), hM, s16, S17, H18, Ak rfl rfl, rfl⟩
def Bv (l' : List Bool) (b1_ : List UInt8) (i2_ : Int) (rec_shunterref03_Bytes_l3 : List UInt8 → Int → Option (List UInt8)) : Nat → Int → Int → Option (List UInt8)
  | 0, _, _ => none
  | n13 + 1, n4_, k5_ => ck (-9223372036854775808 ≤ (i2_ + 8) ∧ (i2_ + 8) ≤ 9223372036854775807) (if k5_ < (i2_ + 8) then ck (-9223372036854775808 ≤ (2 * n4_) ∧ (2 * n4_) ≤ 9223372036854775807) (if k5_ < (l'.length : Int) then ck (0 ≤ k5_ ∧ k5_ < (l'.length : Int)) (if (l'[k5_.toNat]!) = true then ck (-9223372036854775808 ≤ ((2 * n4_) + 1) ∧ ((2 * n4_) + 1) ≤ 9223372036854775807) (ck (-9223372036854775808 ≤ (k5_ + 1) ∧ (k5_ + 1) ≤ 9223372036854775807) ((Bv l' b1_ i2_ rec_shunterref03_Bytes_l3 n13) ((2 * n4_) + 1) (k5_ + 1))) else ck (-9223372036854775808 ≤ (k5_ + 1) ∧ (k5_ + 1) ≤ 9223372036854775807) ((Bv l' b1_ i2_ rec_shunterref03_Bytes_l3 n13) (2 * n4_) (k5_ + 1))) else ck (-9223372036854775808 ≤ (k5_ + 1) ∧ (k5_ + 1) ≤ 9223372036854775807) ((Bv l' b1_ i2_ rec_shunterref03_Bytes_l3 n13) (2 * n4_) (k5_ + 1))) else ck ((b1_).length + ([(byteI n4_)]).length ≤ 140737488355328) (ck (-9223372036854775808 ≤ (i2_ + 8) ∧ (i2_ + 8) ≤ 9223372036854775807) (rec_shunterref03_Bytes_l3 (b1_ ++ ([(byteI n4_)])) (i2_ + 8))))
def Bw (N : Nat) (l' : List Bool) : Nat → List UInt8 → Int → Option (List UInt8)
  | 0, _, _ => none
  | n5 + 1, b1_, i2_ => if i2_ < (l'.length : Int) then Bv l' b1_ i2_ (Bw N l' n5) N 0 i2_ else some b1_
def BY (N : Nat) (l' : List Bool) : Option (List UInt8) := Bw N l' N ([]) 0
theorem Jf (N l' r) (hM : BY N l' = some r) (ro l'v) (hl' : Rd KG ro l'v l') : Does prog 94 #[l'v] ro [] (p1 (fun s_ => s_) 5 encY r) := by
 unfold BY at hM
 refine Ac follows func94 rfl 40 rfl _ fz1 (fun base0_ => ?_)
 refine AZ rfl <| AZ rfl <| Aa fun K3 hK3 => AZ rfl <| Aj <| Be _ (Sub.pickE (Ls := [[]]) (Ls0 := []) rfl [0] rfl) <| AU (fun tt ll nn => ∃ (n5 : Nat) (b1_ : List UInt8) (i2_ : Int), (Bw N l' n5 b1_ i2_ = some r) ∧ ∃ (vb1_ : Value) (Sb1_ : List Bl), Sl 5 encY vb1_ b1_ Sb1_ ∧ Is [(0, l'v), (3, vb1_), (4, vI i2_)] (List.flatten [Sb1_]) tt ll ∧ nn = n5 + 1) (N + 1) ?_ ?_
 ·exact ⟨N, [], 0, hM, nS, [], Sl.nil, Ak rfl rfl, rfl⟩
 clear hM; rintro t l _ ⟨n5, b1_, i2_, hM, vb1_, Sb1_, hb1_, ⟨⟨T, rfl⟩, rfl⟩, rfl⟩
 rcases n5 with _ | n5
 ·exact absurd hM (by simp [Bw])
 rw [Bw] at hM
 refine Aa fun K6 hK6 => Ai <| rn 2 rfl <| rL (Rd.shp hl') rfl <| rz rfl <| aD hM rfl (fun hc8 hM => ?_) (fun hc8 hM => ?_)
 ·refine Af <| hK6 _ _ ?_
  refine Aa fun K9 hK9 => Aj <| AZ rfl <| Aa fun K11 hK11 => AZ rfl <| Aj <| Be _ (Sub.pick [Sb1_] [0] rfl) <| AU (fun tt ll nn => ∃ (n13 : Nat) (n4_ : Int) (k5_ : Int), (Bv l' b1_ i2_ (Bw N l' n5) n13 n4_ k5_ = some r) ∧ Is [(0, l'v), (3, vb1_), (4, vI i2_), (5, vI n4_), (6, vI k5_)] (List.flatten [Sb1_]) tt ll ∧ nn = n13 + 1) (N + 1) ?_ ?_
  ·exact ⟨N, 0, i2_, hM, Ak rfl rfl, rfl⟩
  clear hM; rintro t l _ ⟨n13, n4_, k5_, hM, ⟨⟨T, rfl⟩, rfl⟩, rfl⟩
  rcases n13 with _ | n13
  ·exact absurd hM (by simp [Bv])
  rw [Bv] at hM
  refine Aa fun K14 hK14 => Ai <| rn 2 rfl <| kC hM fun ck16 hM => rX ck16 rfl <| rz rfl <| aD hM rfl (fun hc17 hM => ?_) (fun hc17 hM => ?_)
  ·refine Af <| hK14 _ _ ?_
   refine Aa fun K18 hK18 => Aj <| Ai <| rn 1 rfl <| kC hM fun ck20 hM => rX ck20 rfl <| rz rfl <| Aa fun K21 hK21 => Ar <| rn 2 rfl <| rL (Rd.shp hl') rfl <| rn 2 rfl ?_
   rcases hg22 : (decide (k5_ < (l'.length : Int))) with _ | _
   ·replace hM := iF hg22 hM
    refine rz rfl <| hK21 _ _ ?_
    refine AB false rfl (fun h_ => nomatch h_) (fun _ => ?_)
    refine Af <| hK18 _ _ ?_
    refine Ar <| rn 1 rfl <| kC hM fun ck23 hM => rX ck23 rfl <| rz rfl <| fg _ (Sub.pick [Sb1_] [0] rfl) ?_
    exact ⟨n13 + 1, by omega, n13, (2 * n4_), (k5_ + 1), hM, Ak (by first | rfl | (simp only [hg22]; done) | (simp only [hg22]; rfl) | (simp only [CZ]; rfl)) rfl, rfl⟩
   replace hM := iD hg22 hM
   refine rn 2 rfl <| r_y rfl <| kC hM fun ck24 hM => rI (Rd.shp hl') ck24 rfl <| r_y rfl <| rE (AA hl') ck24 0 rfl <| rz rfl <| hK21 _ _ ?_
   refine aB hM rfl (fun hc25 hM => ?_) (fun hc25 hM => ?_)
   ·refine Ar <| rn 1 rfl <| kC hM fun ck26 hM => rX ck26 rfl <| rz rfl <| hK18 _ _ ?_
    refine Ar <| rn 1 rfl <| kC hM fun ck27 hM => rX ck27 rfl <| rz rfl <| fg _ (Sub.pick [Sb1_] [0] rfl) ?_
    exact ⟨n13 + 1, by omega, n13, ((2 * n4_) + 1), (k5_ + 1), hM, Ak (by first | rfl | (simp only [hg22]; done) | (simp only [hg22]; rfl) | (simp only [CZ]; rfl)) rfl, rfl⟩
   refine Af <| hK18 _ _ ?_
   refine Ar <| rn 1 rfl <| kC hM fun ck28 hM => rX ck28 rfl <| rz rfl <| fg _ (Sub.pick [Sb1_] [0] rfl) ?_
   exact ⟨n13 + 1, by omega, n13, (2 * n4_), (k5_ + 1), hM, Ak (by first | rfl | (simp only [hg22]; done) | (simp only [hg22]; rfl) | (simp only [CZ]; rfl)) rfl, rfl⟩
  refine AS <| hK11 _ _ ?_
  refine A_regC [(some 37, false), (some 38, true)] (conG prog []) <| rn 2 rfl <| r_w (Value.int .u8 (((byteI n4_).toNat : Nat) : Int)) rfl rfl (GS n4_) (fun _ => rfl) <| BF (cs0 := []) (Ls := [Sb1_]) 5 encY [(byteI n4_)] [Value.int .u8 (((byteI n4_).toNat : Nat) : Int)] [Value.int .u8 0] rfl rfl rfl rfl rfl rfl rfl (by kernel_rfl) (by kernel_rfl) rfl rfl rfl (fun s29 S30 H31 => ?_)
  refine kC hM fun ck32 hM => Dg (cs0 := []) (Ls := [Sb1_, S30]) 0 (En := encY) rfl rfl rfl rfl rfl hb1_ rfl (Ap H31 (Ad (Ls := [Sb1_, S30]) (k := 1) rfl rfl)) rfl rfl rfl rfl rfl (Dk ck32 rfl) (Dj ck32 rfl) rfl (fun s33 S34 H35 => ?_)
  refine rz rfl <| hK9 _ _ ?_
  refine Ar <| rn 1 rfl <| kC hM fun ck36 hM => rX ck36 rfl <| rz rfl <| fg _ (Sub.pick [S34, S30] [0] rfl) ?_
  exact ⟨n5 + 1, by omega, n5, (b1_ ++ ([(byteI n4_)])), (i2_ + 8), hM, s33, S34, H35, Ak rfl rfl, rfl⟩
 refine AS <| hK3 _ _ ?_
 refine AZ rfl ?_
 cases hM
 refine Au (fun hn => AG (v0 := vb1_) hb1_ (Aw (Sub.pick [Sb1_] [0] rfl)) rfl (AV rfl))
def BM (N : Nat) (r3 : List Bool) : Nat → List Bool → Int → Option (List UInt8)
  | 0, _, _ => none
  | n13 + 1, high1_, i2_ => if i2_ ≥ 0 then ck (0 ≤ i2_ ∧ i2_ < (r3.length : Int)) (ck ((high1_).length + ([r3[i2_.toNat]!]).length ≤ 140737488355328) (ck (-9223372036854775808 ≤ (i2_ - 1) ∧ (i2_ - 1) ≤ 9223372036854775807) ((BM N r3 n13) (high1_ ++ ([r3[i2_.toNat]!])) (i2_ - 1)))) else (BY N high1_).bind fun r28 => some r28
def Cj (N : Nat) (n : Int) (size : Int) : Option (List UInt8) := (Ci N 64 ((0#64) ++ (BitVec.ofInt 64 n))).bind fun r3 => ck (-9223372036854775808 ≤ (8 * size) ∧ (8 * size) ≤ 9223372036854775807) (ck (-9223372036854775808 ≤ ((8 * size) - 1) ∧ ((8 * size) - 1) ≤ 9223372036854775807) (BM N r3 N ([]) ((8 * size) - 1)))
theorem Mt (N n size r) (hM : Cj N n size = some r) (ro : Ro) : Does prog 27 #[vI n, vI size] ro [] (p1 (fun s_ => s_) 5 encY r) := by
 unfold Cj at hM
 refine Ac follows func27 rfl 28 rfl _ fz2 (fun base0_ => ?_)
 refine AZ rfl <| A_sc [(some 11, false)] (conG prog [(11, fun _ _ v_ L_ U_ => ∀ u0_, Ci N 64 ((0#64) ++ (BitVec.ofInt 64 n)) = some u0_ → (p1 (fun s_ => s_) 4 KG u0_) v_ L_ U_)]) <| rn 1 rfl <| r_w (U (BitVec.ofInt 64 n)) rfl rfl (ZU n) (fun _ => rfl) <| r_W (vA #[vI 64, U (0#64), U (BitVec.ofInt 64 n)]) rfl (An rfl rfl rfl rfl) <| kB hM fun r3 hr4 hM => AP (Ls := []) (fun s5 => s5) 4 KG r3 93 _ rfl rfl rfl (cF ZP) (fun o w z_ => (by have h_ := JB N 64 ((0#64) ++ (BitVec.ofInt 64 n)) _ hr4 z_.view ; simp only [CZ] at h_; exact h_)) (Ao hr4) (fun s5 S6 H7 => ?_)
 refine rz rfl <| AZ rfl <| Aa fun K9 hK9 => Ai <| rn 1 rfl <| kC hM fun ck11 hM => rX ck11 rfl <| kC hM fun ck12 hM => rX ck12 rfl <| rz rfl <| Aj <| Be _ (Sub.pickE (Ls := [S6, []]) (Ls0 := [S6]) rfl [0, 1] rfl) <| AU (fun tt ll nn => ∃ (n13 : Nat) (high1_ : List Bool) (i2_ : Int), (BM N r3 n13 high1_ i2_ = some r) ∧ ∃ (vhigh1_ : Value) (Shigh1_ : List Bl), Sl 4 KG vhigh1_ high1_ Shigh1_ ∧ Is [(5, s5), (6, vhigh1_), (7, vI i2_)] (List.flatten [S6, Shigh1_]) tt ll ∧ nn = n13 + 1) (N + 1) ?_ ?_
 ·exact ⟨N, [], ((8 * size) - 1), hM, nS, [], Sl.nil, Ak rfl rfl, rfl⟩
 clear hM; rintro t l _ ⟨n13, high1_, i2_, hM, vhigh1_, Shigh1_, hhigh1_, ⟨⟨T, rfl⟩, rfl⟩, rfl⟩
 rcases n13 with _ | n13
 ·exact absurd hM (by simp [BM])
 rw [BM] at hM
 refine Aa fun K14 hK14 => AZ rfl <| aD hM rfl (fun hc16 hM => ?_) (fun hc16 hM => ?_)
 ·refine Af <| hK14 _ _ ?_
  refine Aa fun K17 hK17 => Aj <| A_regC [(some 24, false), (some 25, true)] (conG prog []) <| rn 3 rfl <| kC hM fun ck18 hM => rI (Sl.shp H7) ck18 rfl <| rE (Ap H7 (Ad (Ls := [S6, Shigh1_]) (k := 0) rfl rfl)) ck18 0 rfl <| BF (cs0 := []) (Ls := [S6, Shigh1_]) 4 KG [r3[i2_.toNat]!] [vB (r3[i2_.toNat]!)] [vB false] rfl rfl rfl rfl rfl rfl rfl (by kernel_rfl) (by kernel_rfl) rfl rfl rfl (fun s19 S20 H21 => ?_)
  refine kC hM fun ck22 hM => Dg (cs0 := []) (Ls := [S6, Shigh1_, S20]) 1 (En := KG) rfl rfl rfl rfl rfl hhigh1_ rfl (Ap H21 (Ad (Ls := [S6, Shigh1_, S20]) (k := 2) rfl rfl)) rfl rfl rfl rfl rfl (Dk ck22 rfl) (Dj ck22 rfl) rfl (fun s23 S24 H25 => ?_)
  refine rz rfl <| hK17 _ _ ?_
  refine Ar <| rn 1 rfl <| kC hM fun ck26 hM => rX ck26 rfl <| rz rfl <| fg _ (Sub.pick [S6, S24, S20] [0, 1] rfl) ?_
  exact ⟨n13 + 1, by omega, n13, (high1_ ++ ([r3[i2_.toNat]!])), (i2_ - 1), hM, s23, S24, H25, Ak rfl rfl, rfl⟩
 refine AS <| hK9 _ _ ?_
 refine A_sc [(some 27, false)] (conG prog [(27, fun _ _ v_ L_ U_ => ∀ u0_, BY N high1_ = some u0_ → (p1 (fun s_ => s_) 5 encY u0_) v_ L_ U_)]) <| rn 1 rfl <| kB hM fun r28 hr29 hM => AP (Ls := [S6, Shigh1_]) (fun s30 => s30) 5 encY r28 94 _ rfl rfl rfl (cF ZO) (fun o w z_ => Jf N high1_ _ hr29 z_.view vhigh1_ ((Ap hhigh1_ (Ad (Ls := [S6, Shigh1_]) (k := 1) rfl rfl)) o w z_)) (Ao hr29) (fun s30 S31 H32 => ?_)
 refine rz rfl ?_
 cases hM
 refine Au (fun hn => AG (v0 := s30) H32 (Aw (Sub.pick [S6, Shigh1_, S31] [2] rfl)) rfl (AV rfl))
def BE (N : Nat) (n : Int) : Option (List UInt8) := (Cj N n 1).bind fun r3 => some r3
theorem Fp (N n r) (hM : BE N n = some r) (ro : Ro) : Does prog 26 #[vI n] ro [] (p1 (fun s_ => s_) 5 encY r) := by
 unfold BE at hM
 refine Ac follows func26 rfl 5 rfl _ fz1 (fun base0_ => ?_)
 refine AZ rfl <| A_sc [(some 4, false)] (conG prog [(4, fun _ _ v_ L_ U_ => ∀ u0_, Cj N n 1 = some u0_ → (p1 (fun s_ => s_) 5 encY u0_) v_ L_ U_)]) <| rn 1 rfl <| kB hM fun r3 hr4 hM => AP (Ls := []) (fun s5 => s5) 5 encY r3 27 _ rfl rfl rfl (cF jx) (fun o w z_ => Mt N n 1 _ hr4 z_.view ) (Ao hr4) (fun s5 S6 H7 => ?_)
 refine rz rfl ?_
 cases hM
 refine Au (fun hn => AG (v0 := s5) H7 (Aw (Sub.pick [S6] [0] rfl)) rfl (AV rfl))
def Cs (r4 : List Bool) : Nat → List Bool → Int → Option (List Bool)
  | 0, _, _ => none
  | n13 + 1, high1_, i2_ => if i2_ ≥ 0 then ck (0 ≤ i2_ ∧ i2_ < (r4.length : Int)) (ck ((high1_).length + ([r4[i2_.toNat]!]).length ≤ 140737488355328) (ck (-9223372036854775808 ≤ (i2_ - 1) ∧ (i2_ - 1) ≤ 9223372036854775807) ((Cs r4 n13) (high1_ ++ ([r4[i2_.toNat]!])) (i2_ - 1)))) else some high1_
def Db (N : Nat) (v_0 : Int) (v_1 : BitVec 128) : Option (List Bool) := (Ci N v_0 v_1).bind fun r4 => ck ((-9223372036854775808 ≤ ((r4.length : Int) - 1) ∧ ((r4.length : Int) - 1) ≤ 9223372036854775807)) (Cs r4 N ([]) ((r4.length : Int) - 1))
theorem Ou (N v_0 v_1 r) (hM : Db N v_0 v_1 = some r) (ro : Ro) : Does prog 136 #[vA #[vI v_0, U (hi v_1), U (lo v_1)]] ro [] (p1 (fun s_ => s_) 4 KG r) := by
 unfold Db at hM
 refine Ac follows func136 rfl 23 rfl _ fz1 (fun base0_ => ?_)
 refine Ai <| rA rfl fun b2 => rz rfl <| A_sc [(some 7, false)] (conG prog [(7, fun _ _ v_ L_ U_ => ∀ u0_, Ci N v_0 v_1 = some u0_ → (p1 (fun s_ => s_) 4 KG u0_) v_ L_ U_)]) <| rm 1 [0] rfl <| kB hM fun r4 hr5 hM => AP (Ls := [(BW b2 v_0 (hi v_1) (lo v_1))]) (fun s6 => s6) 4 KG r4 93 _ rfl rfl rfl (cF ZP) (fun o w z_ => JB N v_0 v_1 _ hr5 z_.view ) (Ao hr5) (fun s6 S7 H8 => ?_)
 refine rz rfl <| AZ rfl <| Aa fun K10 hK10 => Ai <| rn 1 rfl <| rL (Sl.shp H8) rfl <| kC hM fun ck12 hM => rX ck12 rfl <| rz rfl <| Aj <| Be _ (Sub.pickE (Ls := [(BW b2 v_0 (hi v_1) (lo v_1)), S7, []]) (Ls0 := [(BW b2 v_0 (hi v_1) (lo v_1)), S7]) rfl [1, 2] rfl) <| AU (fun tt ll nn => ∃ (n13 : Nat) (high1_ : List Bool) (i2_ : Int), (Cs r4 n13 high1_ i2_ = some r) ∧ ∃ (vhigh1_ : Value) (Shigh1_ : List Bl), Sl 4 KG vhigh1_ high1_ Shigh1_ ∧ Is [(3, s6), (4, vhigh1_), (5, vI i2_)] (List.flatten [S7, Shigh1_]) tt ll ∧ nn = n13 + 1) (N + 1) ?_ ?_
 ·exact ⟨N, [], ((r4.length : Int) - 1), hM, nS, [], Sl.nil, Ak rfl rfl, rfl⟩
 clear hM; rintro t l _ ⟨n13, high1_, i2_, hM, vhigh1_, Shigh1_, hhigh1_, ⟨⟨T, rfl⟩, rfl⟩, rfl⟩
 rcases n13 with _ | n13
 ·exact absurd hM (by simp [Cs])
 rw [Cs] at hM
 refine Aa fun K14 hK14 => AZ rfl <| aD hM rfl (fun hc16 hM => ?_) (fun hc16 hM => ?_)
 ·refine Af <| hK14 _ _ ?_
  refine Aa fun K17 hK17 => Aj <| A_regC [(some 20, false), (some 21, true)] (conG prog []) <| rn 3 rfl <| kC hM fun ck18 hM => rI (Sl.shp H8) ck18 rfl <| rE (Ap H8 (Ad (Ls := [S7, Shigh1_]) (k := 0) rfl rfl)) ck18 0 rfl <| BF (cs0 := []) (Ls := [S7, Shigh1_]) 4 KG [r4[i2_.toNat]!] [vB (r4[i2_.toNat]!)] [vB false] rfl rfl rfl rfl rfl rfl rfl (by kernel_rfl) (by kernel_rfl) rfl rfl rfl (fun s19 S20 H21 => ?_)
  refine kC hM fun ck22 hM => Dg (cs0 := []) (Ls := [S7, Shigh1_, S20]) 1 (En := KG) rfl rfl rfl rfl rfl hhigh1_ rfl (Ap H21 (Ad (Ls := [S7, Shigh1_, S20]) (k := 2) rfl rfl)) rfl rfl rfl rfl rfl (Dk ck22 rfl) (Dj ck22 rfl) rfl (fun s23 S24 H25 => ?_)
  refine rz rfl <| hK17 _ _ ?_
  refine Ar <| rn 1 rfl <| kC hM fun ck26 hM => rX ck26 rfl <| rz rfl <| fg _ (Sub.pick [S7, S24, S20] [0, 1] rfl) ?_
  exact ⟨n13 + 1, by omega, n13, (high1_ ++ ([r4[i2_.toNat]!])), (i2_ - 1), hM, s23, S24, H25, Ak rfl rfl, rfl⟩
 refine AS <| hK10 _ _ ?_
 refine AZ rfl ?_
 cases hM
 refine Au (fun hn => AG (v0 := vhigh1_) hhigh1_ (Aw (Sub.pick [S7, Shigh1_] [1] rfl)) rfl (AV rfl))
def Ch (N : Nat) (v_0 : Int) (v_1 : BitVec 128) : Nat → List Bool → Option (List UInt8)
  | 0, _ => none
  | n14 + 1, l1_ => ck ((-9223372036854775808 ≤ ((l1_.length : Int) + v_0) ∧ ((l1_.length : Int) + v_0) ≤ 9223372036854775807)) (ck (0 ≤ ((l1_.length : Int) + v_0) ∧ ((l1_.length : Int) + v_0) ≤ 9223372036854775807) (if (((l1_.length : Int) + v_0) % 8 : Int) ≠ 0 then ck ((l1_).length + ([false]).length ≤ 140737488355328) ((Ch N v_0 v_1 n14) (l1_ ++ ([false]))) else (Db N v_0 v_1).bind fun r32 => ck ((l1_).length + (r32).length ≤ 140737488355328) ((BY N (l1_ ++ r32)).bind fun r41 => ck (([(byteI v_0)]).length + (r41).length ≤ 140737488355328) (some (([(byteI v_0)]) ++ r41)))))
def CO (N : Nat) (v_0 : Int) (v_1 : BitVec 128) : Option (List UInt8) := (Dy N v_0 v_1).bind fun r5 => if r5 = true then Ch N v_0 v_1 N ([]) else some ([(0 : UInt8)])
theorem NW (N v_0 v_1 r) (hM : CO N v_0 v_1 = some r) (ro : Ro) : Does prog 39 #[vA #[vI v_0, U (hi v_1), U (lo v_1)]] ro [] (p1 (fun s_ => s_) 5 encY r) := by
 unfold CO at hM
 refine Ac follows func39 rfl 30 rfl _ fz1 (fun base0_ => ?_)
 refine Ai <| rA rfl fun b2 => rz rfl <| Aa fun K3 hK3 => Ai <| rm 1 [0] rfl <| kB hM fun r5 hr6 hM => rc _ (cF ZR) (JY N v_0 v_1 _ hr6) <| rz rfl <| AB _ rfl (fun hc7 => ?_) (fun hc7 => ?_)
 ·replace hM := ifn (Bool.eq_false_iff.1 (EF hc7)) hM
  refine A_sc [(some 8, false)] (conG prog []) <| BF (cs0 := []) (Ls := [(BW b2 v_0 (hi v_1) (lo v_1))]) 5 encY [(0 : UInt8)] [Value.int .u8 0] [Value.int .u8 0] rfl rfl rfl rfl rfl rfl rfl (by kernel_rfl) (by kernel_rfl) rfl rfl rfl (fun s9 S10 H11 => ?_)
  refine rz rfl ?_
  cases hM
  refine Au (fun hn => AG (v0 := s9) H11 (Aw (Sub.pick [(BW b2 v_0 (hi v_1) (lo v_1)), S10] [1] rfl)) rfl (AV rfl))
 replace hM := ifp (EG hc7) hM
 refine Af <| hK3 _ _ ?_
 refine AZ rfl <| Aa fun K13 hK13 => Aj <| Be _ (Sub.pickE (Ls := [(BW b2 v_0 (hi v_1) (lo v_1)), []]) (Ls0 := [(BW b2 v_0 (hi v_1) (lo v_1))]) rfl [0, 1] rfl) <| AU (fun tt ll nn => ∃ (n14 : Nat) (l1_ : List Bool), (Ch N v_0 v_1 n14 l1_ = some r) ∧ ∃ (vl1_ : Value) (Sl1_ : List Bl), Sl 4 KG vl1_ l1_ Sl1_ ∧ Is [(1, vP b2 0), (3, vl1_)] (List.flatten [(BW b2 v_0 (hi v_1) (lo v_1)), Sl1_]) tt ll ∧ nn = n14 + 1) (N + 1) ?_ ?_
 ·exact ⟨N, [], hM, nS, [], Sl.nil, Ak rfl rfl, rfl⟩
 clear hM; rintro t l _ ⟨n14, l1_, hM, vl1_, Sl1_, hl1_, ⟨⟨T, rfl⟩, rfl⟩, rfl⟩
 rcases n14 with _ | n14
 ·exact absurd hM (by simp [Ch])
 rw [Ch] at hM
 refine Aa fun K15 hK15 => Ai <| rn 1 rfl <| rL (Sl.shp hl1_) rfl <| rm 2 [0] rfl <| kC hM fun ck17 hM => rX ck17 rfl <| kC hM fun ck18 hM => r_X (vI (((l1_.length : Int) + v_0) % 8)) rfl (UV ck18.1) rfl <| rz rfl <| aN hM rfl (fun hc19 hM => ?_) (fun hc19 hM => ?_)
 ·refine Af <| hK15 _ _ ?_
  refine Aj <| A_regC [(some 17, false), (some 18, true)] (conG prog []) <| rn 1 rfl <| BF (cs0 := []) (Ls := [(BW b2 v_0 (hi v_1) (lo v_1)), Sl1_]) 4 KG [false] [vB false] [vB false] rfl rfl rfl rfl rfl rfl rfl (by kernel_rfl) (by kernel_rfl) rfl rfl rfl (fun s20 S21 H22 => ?_)
  refine kC hM fun ck23 hM => Dg (cs0 := []) (Ls := [(BW b2 v_0 (hi v_1) (lo v_1)), Sl1_, S21]) 1 (En := KG) rfl rfl rfl rfl rfl hl1_ rfl (Ap H22 (Ad (Ls := [(BW b2 v_0 (hi v_1) (lo v_1)), Sl1_, S21]) (k := 2) rfl rfl)) rfl rfl rfl rfl rfl (Dk ck23 rfl) (Dj ck23 rfl) rfl (fun s24 S25 H26 => ?_)
  refine rz rfl <| fg _ (Sub.pick [(BW b2 v_0 (hi v_1) (lo v_1)), S25, S21] [0, 1] rfl) ?_
  exact ⟨n14 + 1, by omega, n14, (l1_ ++ ([false])), hM, s24, S25, H26, Ak rfl rfl, rfl⟩
 refine AS <| hK13 _ _ ?_
 refine A_sc [(some 22, false)] (conG prog []) <| rm 2 [0] rfl <| r_w (Value.int .u8 (((byteI v_0).toNat : Nat) : Int)) rfl rfl (GS v_0) (fun _ => rfl) <| BF (cs0 := []) (Ls := [(BW b2 v_0 (hi v_1) (lo v_1)), Sl1_]) 5 encY [(byteI v_0)] [Value.int .u8 (((byteI v_0).toNat : Nat) : Int)] [Value.int .u8 0] rfl rfl rfl rfl rfl rfl rfl (by kernel_rfl) (by kernel_rfl) rfl rfl rfl (fun s28 S29 H30 => ?_)
 refine rz rfl <| A_sc [(some 26, false), (some 27, true), (some 28, false), (some 29, true)] (conG prog [(26, fun _ _ v_ L_ U_ => ∀ u0_, Db N v_0 v_1 = some u0_ → (p1 (fun s_ => s_) 4 KG u0_) v_ L_ U_), (28, fun _ _ v_ L_ U_ => ∀ u0_, Db N v_0 v_1 = some u0_ → ∀ u1_, BY N (l1_ ++ u0_) = some u1_ → (p1 (fun s_ => s_) 5 encY u1_) v_ L_ U_)]) <| rm 3 [0] rfl <| kB hM fun r32 hr33 hM => AP (Ls := [(BW b2 v_0 (hi v_1) (lo v_1)), Sl1_, S29]) (fun s34 => s34) 4 KG r32 136 _ rfl rfl rfl (cF gu) (fun o w z_ => Ou N v_0 v_1 _ hr33 z_.view ) (Ao hr33) (fun s34 S35 H36 => ?_)
 refine kC hM fun ck37 hM => Dg (Ls := [(BW b2 v_0 (hi v_1) (lo v_1)), Sl1_, S29, S35]) 1 (En := KG) rfl rfl rfl rfl rfl hl1_ rfl (Ap H36 (Ad (Ls := [(BW b2 v_0 (hi v_1) (lo v_1)), Sl1_, S29, S35]) (k := 3) rfl rfl)) rfl rfl rfl rfl rfl (Dk ck37 rfl) (Dj ck37 rfl) rfl (fun s38 S39 H40 => ?_)
 refine kB hM fun r41 hr42 hM => AP (Ls := [(BW b2 v_0 (hi v_1) (lo v_1)), S39, S29, S35]) (fun s43 => s43) 5 encY r41 94 _ rfl rfl rfl (cF ZO) (fun o w z_ => Jf N (l1_ ++ r32) _ hr42 z_.view s38 ((Ap H40 (Ad (Ls := [(BW b2 v_0 (hi v_1) (lo v_1)), S39, S29, S35]) (k := 1) rfl rfl)) o w z_)) (fun _ _ v_ L_ U_ => ⟨fun h_ => h_ _ hr33 _ hr42, fun h_ => by intro _ e_; cases Option.some.inj (e_.symm.trans hr33); intro _ e_; cases Option.some.inj (e_.symm.trans hr42); exact h_⟩) (fun s43 S44 H45 => ?_)
 refine kC hM fun ck46 hM => Dg (Ls := [(BW b2 v_0 (hi v_1) (lo v_1)), S39, S29, S35, S44]) 2 (En := encY) rfl rfl rfl rfl rfl H30 rfl (Ap H45 (Ad (Ls := [(BW b2 v_0 (hi v_1) (lo v_1)), S39, S29, S35, S44]) (k := 4) rfl rfl)) rfl rfl rfl rfl rfl (Dk ck46 rfl) (Dj ck46 rfl) rfl (fun s47 S48 H49 => ?_)
 refine rz rfl ?_
 cases hM
 refine Au (fun hn => AG (v0 := s47) H49 (Aw (Sub.pick [(BW b2 v_0 (hi v_1) (lo v_1)), S39, S48, S35, S44] [2] rfl)) rfl (AV rfl))
def CS (N : Nat) (l' : List (Int × Int × Int × Int × BitVec 128)) (i2_ : Int) (rec_shunterref11_Code_l3 : List UInt8 → Int → Option (List UInt8)) (r16 : List (List UInt8 × Int × Int × Int × Int × Int × Int × Int × List UInt8)) (b6_ : List UInt8) : Option (List UInt8) := if ((r16[((l'[i2_.toNat]!).1).toNat]!).2.2.2.1 : Int) = 2 then ck (0 ≤ i2_ ∧ i2_ < (l'.length : Int)) ((BE N ((l'[i2_.toNat]!).2.2.1)).bind fun r38 => ck ((b6_).length + (r38).length ≤ 140737488355328) (ck (-9223372036854775808 ≤ (i2_ + 1) ∧ (i2_ + 1) ≤ 9223372036854775807) (rec_shunterref11_Code_l3 (b6_ ++ r38) (i2_ + 1)))) else ck (-9223372036854775808 ≤ (i2_ + 1) ∧ (i2_ + 1) ≤ 9223372036854775807) (rec_shunterref11_Code_l3 b6_ (i2_ + 1))
def CT (N : Nat) (l' : List (Int × Int × Int × Int × BitVec 128)) (i2_ : Int) (rec_shunterref11_Code_l3 : List UInt8 → Int → Option (List UInt8)) (r16 : List (List UInt8 × Int × Int × Int × Int × Int × Int × Int × List UInt8)) (b4_ : List UInt8) : Option (List UInt8) := if ((r16[((l'[i2_.toNat]!).1).toNat]!).2.2.2.1 : Int) ≥ 1 then ck (0 ≤ i2_ ∧ i2_ < (l'.length : Int)) ((BE N ((l'[i2_.toNat]!).2.1)).bind fun r52 => ck ((b4_).length + (r52).length ≤ 140737488355328) (CS N l' i2_ rec_shunterref11_Code_l3 r16 (b4_ ++ r52))) else CS N l' i2_ rec_shunterref11_Code_l3 r16 b4_
def Bn (N : Nat) (l' : List (Int × Int × Int × Int × BitVec 128)) : Nat → List UInt8 → Int → Option (List UInt8)
  | 0, _, _ => none
  | n10 + 1, b1_, i2_ => if i2_ < (l'.length : Int) then (Hr N ).bind fun r16 => ck (0 ≤ i2_ ∧ i2_ < (l'.length : Int)) (ck (0 ≤ (l'[i2_.toNat]!).1 ∧ (l'[i2_.toNat]!).1 < (r16.length : Int)) (ck (0 ≤ i2_ ∧ i2_ < (l'.length : Int)) ((BE N ((l'[i2_.toNat]!).1)).bind fun r26 => ck ((b1_).length + (r26).length ≤ 140737488355328) (if ((r16[((l'[i2_.toNat]!).1).toNat]!).1) = ([112, 117, 115, 104] : List UInt8) then ck (0 ≤ i2_ ∧ i2_ < (l'.length : Int)) ((CO N ((l'[i2_.toNat]!).2.2.2.1) ((l'[i2_.toNat]!).2.2.2.2)).bind fun r64 => ck (((b1_ ++ r26)).length + (r64).length ≤ 140737488355328) (CT N l' i2_ (Bn N l' n10) r16 ((b1_ ++ r26) ++ r64))) else CT N l' i2_ (Bn N l' n10) r16 (b1_ ++ r26))))) else some b1_
def CA (N : Nat) (l' : List (Int × Int × Int × Int × BitVec 128)) : Option (List UInt8) := (BE N (l'.length : Int)).bind fun r3 => Bn N l' N r3 0
theorem NH (N l' r) (hM : CA N l' = some r) (ro l'v) (hl' : Rd enc_56 ro l'v l') : Does prog 16 #[l'v] ro [] (p1 (fun s_ => s_) 5 encY r) := by
 unfold CA at hM
 refine Ac follows func16 rfl 65 rfl _ fz1 (fun base0_ => ?_)
 refine AZ rfl <| A_sc [(some 8, false)] (conG prog [(8, fun _ _ v_ L_ U_ => ∀ u0_, BE N (l'.length : Int) = some u0_ → (p1 (fun s_ => s_) 5 encY u0_) v_ L_ U_)]) <| rn 1 rfl <| rL (Rd.shp hl') rfl <| kB hM fun r3 hr4 hM => AP (Ls := []) (fun s5 => s5) 5 encY r3 26 _ rfl rfl rfl (cF Re) (fun o w z_ => Fp N (l'.length : Int) _ hr4 z_.view ) (Ao hr4) (fun s5 S6 H7 => ?_)
 refine rz rfl <| Aa fun K8 hK8 => AZ rfl <| Aj <| Be _ (Sub.pick [S6] [0] rfl) <| AU (fun tt ll nn => ∃ (n10 : Nat) (b1_ : List UInt8) (i2_ : Int), (Bn N l' n10 b1_ i2_ = some r) ∧ ∃ (vb1_ : Value) (Sb1_ : List Bl), Sl 5 encY vb1_ b1_ Sb1_ ∧ Is [(0, l'v), (3, vb1_), (4, vI i2_)] (List.flatten [Sb1_]) tt ll ∧ nn = n10 + 1) (N + 1) ?_ ?_
 ·exact ⟨N, r3, 0, hM, s5, S6, H7, Ak rfl rfl, rfl⟩
 clear hM; rintro t l _ ⟨n10, b1_, i2_, hM, vb1_, Sb1_, hb1_, ⟨⟨T, rfl⟩, rfl⟩, rfl⟩
 rcases n10 with _ | n10
 ·exact absurd hM (by simp [Bn])
 rw [Bn] at hM
 refine Aa fun K11 hK11 => Ai <| rn 2 rfl <| rL (Rd.shp hl') rfl <| rz rfl <| aD hM rfl (fun hc13 hM => ?_) (fun hc13 hM => ?_)
 ·refine Af <| hK11 _ _ ?_
  refine Aa fun K14 hK14 => Aj <| Aa fun K15 hK15 => BA [(some 15, false)] (conG prog [(15, fun _ _ v_ L_ U_ => ∀ u0_, Hr N  = some u0_ → (p1 (fun s_ => s_) 107 NC u0_) v_ L_ U_)]) [] (by decide +kernel) (fun hn => Ba) <| kB hM fun r16 hr17 hM => AP (Ls := [Sb1_]) (fun s18 => s18) 107 NC r16 37 _ rfl rfl rfl (cF ZS) (fun o w z_ => Uq N  _ hr17 z_.view ) (Ao hr17) (fun s18 S19 H20 => ?_)
  refine rn 2 rfl <| kC hM fun ck21 hM => rI (Rd.shp hl') ck21 rfl <| rF (Rd.shp hl') (Eh ck21) rfl <| rE (AA hl') ck21 0 rfl <| kC hM fun ck22 hM => rI (Sl.shp H20) ck22 rfl ?_
  refine rE (Ap H20 (Ad (Ls := [Sb1_, S19]) (k := 1) rfl rfl)) ck22 0 rfl ?_
  refine rA rfl fun b23 => kG (List.flatten [(CM b23 ((r16[((l'[i2_.toNat]!).1).toNat]!).1) ((r16[((l'[i2_.toNat]!).1).toNat]!).2.1) ((r16[((l'[i2_.toNat]!).1).toNat]!).2.2.1) ((r16[((l'[i2_.toNat]!).1).toNat]!).2.2.2.1) ((r16[((l'[i2_.toNat]!).1).toNat]!).2.2.2.2.1) ((r16[((l'[i2_.toNat]!).1).toNat]!).2.2.2.2.2.1) ((r16[((l'[i2_.toNat]!).1).toNat]!).2.2.2.2.2.2.1) ((r16[((l'[i2_.toNat]!).1).toNat]!).2.2.2.2.2.2.2.1) ((r16[((l'[i2_.toNat]!).1).toNat]!).2.2.2.2.2.2.2.2)), Sb1_, S19]) 0 _ _ _ (#[Value.string (⟨#[]⟩), vI 0, vI 0, vI 0, vI 0, vI 0, vI 0, vI 0, Value.string (⟨#[]⟩)]) (#[vS ((r16[((l'[i2_.toNat]!).1).toNat]!).1), vI ((r16[((l'[i2_.toNat]!).1).toNat]!).2.1), vI ((r16[((l'[i2_.toNat]!).1).toNat]!).2.2.1), vI ((r16[((l'[i2_.toNat]!).1).toNat]!).2.2.2.1), vI ((r16[((l'[i2_.toNat]!).1).toNat]!).2.2.2.2.1), vI ((r16[((l'[i2_.toNat]!).1).toNat]!).2.2.2.2.2.1), vI ((r16[((l'[i2_.toNat]!).1).toNat]!).2.2.2.2.2.2.1), vI ((r16[((l'[i2_.toNat]!).1).toNat]!).2.2.2.2.2.2.2.1), vS ((r16[((l'[i2_.toNat]!).1).toNat]!).2.2.2.2.2.2.2.2)]) (#[vS ((r16[((l'[i2_.toNat]!).1).toNat]!).1), vI ((r16[((l'[i2_.toNat]!).1).toNat]!).2.1), vI ((r16[((l'[i2_.toNat]!).1).toNat]!).2.2.1), vI ((r16[((l'[i2_.toNat]!).1).toNat]!).2.2.2.1), vI ((r16[((l'[i2_.toNat]!).1).toNat]!).2.2.2.2.1), vI ((r16[((l'[i2_.toNat]!).1).toNat]!).2.2.2.2.2.1), vI ((r16[((l'[i2_.toNat]!).1).toNat]!).2.2.2.2.2.2.1), vI ((r16[((l'[i2_.toNat]!).1).toNat]!).2.2.2.2.2.2.2.1), vS ((r16[((l'[i2_.toNat]!).1).toNat]!).2.2.2.2.2.2.2.2)]) rfl rfl rfl rfl rfl (.of rfl rfl) rfl rfl ?_
  refine As <| hK15 _ _ ?_
  refine A_sc [(some 29, false), (some 30, true)] (conG prog [(29, fun _ _ v_ L_ U_ => ∀ u0_, BE N ((l'[i2_.toNat]!).1) = some u0_ → (p1 (fun s_ => s_) 5 encY u0_) v_ L_ U_)]) <| rn 3 rfl <| kC hM fun ck25 hM => rI (Rd.shp hl') ck25 rfl <| rF (Rd.shp hl') (Eh ck25) rfl <| rE (AA hl') ck25 0 rfl <| kB hM fun r26 hr27 hM => AP (Ls := [(CM b23 ((r16[((l'[i2_.toNat]!).1).toNat]!).1) ((r16[((l'[i2_.toNat]!).1).toNat]!).2.1) ((r16[((l'[i2_.toNat]!).1).toNat]!).2.2.1) ((r16[((l'[i2_.toNat]!).1).toNat]!).2.2.2.1) ((r16[((l'[i2_.toNat]!).1).toNat]!).2.2.2.2.1) ((r16[((l'[i2_.toNat]!).1).toNat]!).2.2.2.2.2.1) ((r16[((l'[i2_.toNat]!).1).toNat]!).2.2.2.2.2.2.1) ((r16[((l'[i2_.toNat]!).1).toNat]!).2.2.2.2.2.2.2.1) ((r16[((l'[i2_.toNat]!).1).toNat]!).2.2.2.2.2.2.2.2)), Sb1_, S19]) (fun s28 => s28) 5 encY r26 26 _ rfl rfl rfl (cF Re) (fun o w z_ => Fp N ((l'[i2_.toNat]!).1) _ hr27 z_.view ) (Ao hr27) (fun s28 S29 H30 => ?_)
  refine kC hM fun ck31 hM => Dg (Ls := [(CM b23 ((r16[((l'[i2_.toNat]!).1).toNat]!).1) ((r16[((l'[i2_.toNat]!).1).toNat]!).2.1) ((r16[((l'[i2_.toNat]!).1).toNat]!).2.2.1) ((r16[((l'[i2_.toNat]!).1).toNat]!).2.2.2.1) ((r16[((l'[i2_.toNat]!).1).toNat]!).2.2.2.2.1) ((r16[((l'[i2_.toNat]!).1).toNat]!).2.2.2.2.2.1) ((r16[((l'[i2_.toNat]!).1).toNat]!).2.2.2.2.2.2.1) ((r16[((l'[i2_.toNat]!).1).toNat]!).2.2.2.2.2.2.2.1) ((r16[((l'[i2_.toNat]!).1).toNat]!).2.2.2.2.2.2.2.2)), Sb1_, S19, S29]) 1 (En := encY) rfl rfl rfl rfl rfl hb1_ rfl (Ap H30 (Ad (Ls := [(CM b23 ((r16[((l'[i2_.toNat]!).1).toNat]!).1) ((r16[((l'[i2_.toNat]!).1).toNat]!).2.1) ((r16[((l'[i2_.toNat]!).1).toNat]!).2.2.1) ((r16[((l'[i2_.toNat]!).1).toNat]!).2.2.2.1) ((r16[((l'[i2_.toNat]!).1).toNat]!).2.2.2.2.1) ((r16[((l'[i2_.toNat]!).1).toNat]!).2.2.2.2.2.1) ((r16[((l'[i2_.toNat]!).1).toNat]!).2.2.2.2.2.2.1) ((r16[((l'[i2_.toNat]!).1).toNat]!).2.2.2.2.2.2.2.1) ((r16[((l'[i2_.toNat]!).1).toNat]!).2.2.2.2.2.2.2.2)), Sb1_, S19, S29]) (k := 3) rfl rfl)) rfl rfl rfl rfl rfl (Dk ck31 rfl) (Dj ck31 rfl) rfl (fun s32 S33 H34 => ?_)
  refine rz rfl ?_
  refine Cr (fun tt ll => ∃ (b4_ : List UInt8), (CT N l' i2_ (Bn N l' n10) r16 b4_ = some r) ∧ ∃ (vb4_ : Value) (Sb4_ : List Bl), Sl 5 encY vb4_ b4_ Sb4_ ∧ Is [(0, l'v), (3, vb4_), (4, vI i2_), (5, vP b23 0)] (List.flatten [(CM b23 ((r16[((l'[i2_.toNat]!).1).toNat]!).1) ((r16[((l'[i2_.toNat]!).1).toNat]!).2.1) ((r16[((l'[i2_.toNat]!).1).toNat]!).2.2.1) ((r16[((l'[i2_.toNat]!).1).toNat]!).2.2.2.1) ((r16[((l'[i2_.toNat]!).1).toNat]!).2.2.2.2.1) ((r16[((l'[i2_.toNat]!).1).toNat]!).2.2.2.2.2.1) ((r16[((l'[i2_.toNat]!).1).toNat]!).2.2.2.2.2.2.1) ((r16[((l'[i2_.toNat]!).1).toNat]!).2.2.2.2.2.2.2.1) ((r16[((l'[i2_.toNat]!).1).toNat]!).2.2.2.2.2.2.2.2)), Sb4_]) tt ll) ?_ ?_
  ·refine Ai <| rm 2 [0] rfl <| r_W (vB (((r16[((l'[i2_.toNat]!).1).toNat]!).1) == ([112, 117, 115, 104] : List UInt8))) rfl (Ok rfl rfl) <| As <| aE hM rfl (fun hc62 hM => ?_) (fun hc62 hM => ?_)
   ·refine A_regC [(some 40, false), (some 41, true)] (conG prog [(40, fun _ _ v_ L_ U_ => ∀ u0_, CO N ((l'[i2_.toNat]!).2.2.2.1) ((l'[i2_.toNat]!).2.2.2.2) = some u0_ → (p1 (fun s_ => s_) 5 encY u0_) v_ L_ U_)]) <| rn 3 rfl <| kC hM fun ck63 hM => rI (Rd.shp hl') ck63 rfl <| rF (Rd.shp hl') (Eh ck63) rfl <| rE (AA hl') ck63 3 rfl <| kB hM fun r64 hr65 hM => AP (Ls := [(CM b23 ((r16[((l'[i2_.toNat]!).1).toNat]!).1) ((r16[((l'[i2_.toNat]!).1).toNat]!).2.1) ((r16[((l'[i2_.toNat]!).1).toNat]!).2.2.1) ((r16[((l'[i2_.toNat]!).1).toNat]!).2.2.2.1) ((r16[((l'[i2_.toNat]!).1).toNat]!).2.2.2.2.1) ((r16[((l'[i2_.toNat]!).1).toNat]!).2.2.2.2.2.1) ((r16[((l'[i2_.toNat]!).1).toNat]!).2.2.2.2.2.2.1) ((r16[((l'[i2_.toNat]!).1).toNat]!).2.2.2.2.2.2.2.1) ((r16[((l'[i2_.toNat]!).1).toNat]!).2.2.2.2.2.2.2.2)), S33, S19, S29]) (fun s66 => s66) 5 encY r64 39 _ rfl rfl rfl (cF jv) (fun o w z_ => NW N ((l'[i2_.toNat]!).2.2.2.1) ((l'[i2_.toNat]!).2.2.2.2) _ hr65 z_.view ) (Ao hr65) (fun s66 S67 H68 => ?_)
    refine kC hM fun ck69 hM => Dg (Ls := [(CM b23 ((r16[((l'[i2_.toNat]!).1).toNat]!).1) ((r16[((l'[i2_.toNat]!).1).toNat]!).2.1) ((r16[((l'[i2_.toNat]!).1).toNat]!).2.2.1) ((r16[((l'[i2_.toNat]!).1).toNat]!).2.2.2.1) ((r16[((l'[i2_.toNat]!).1).toNat]!).2.2.2.2.1) ((r16[((l'[i2_.toNat]!).1).toNat]!).2.2.2.2.2.1) ((r16[((l'[i2_.toNat]!).1).toNat]!).2.2.2.2.2.2.1) ((r16[((l'[i2_.toNat]!).1).toNat]!).2.2.2.2.2.2.2.1) ((r16[((l'[i2_.toNat]!).1).toNat]!).2.2.2.2.2.2.2.2)), S33, S19, S29, S67]) 1 (En := encY) rfl rfl rfl rfl rfl H34 rfl (Ap H68 (Ad (Ls := [(CM b23 ((r16[((l'[i2_.toNat]!).1).toNat]!).1) ((r16[((l'[i2_.toNat]!).1).toNat]!).2.1) ((r16[((l'[i2_.toNat]!).1).toNat]!).2.2.1) ((r16[((l'[i2_.toNat]!).1).toNat]!).2.2.2.1) ((r16[((l'[i2_.toNat]!).1).toNat]!).2.2.2.2.1) ((r16[((l'[i2_.toNat]!).1).toNat]!).2.2.2.2.2.1) ((r16[((l'[i2_.toNat]!).1).toNat]!).2.2.2.2.2.2.1) ((r16[((l'[i2_.toNat]!).1).toNat]!).2.2.2.2.2.2.2.1) ((r16[((l'[i2_.toNat]!).1).toNat]!).2.2.2.2.2.2.2.2)), S33, S19, S29, S67]) (k := 4) rfl rfl)) rfl rfl rfl rfl rfl (Dk ck69 rfl) (Dj ck69 rfl) rfl (fun s70 S71 H72 => ?_)
    refine rz rfl <| fg _ (Sub.pick [(CM b23 ((r16[((l'[i2_.toNat]!).1).toNat]!).1) ((r16[((l'[i2_.toNat]!).1).toNat]!).2.1) ((r16[((l'[i2_.toNat]!).1).toNat]!).2.2.1) ((r16[((l'[i2_.toNat]!).1).toNat]!).2.2.2.1) ((r16[((l'[i2_.toNat]!).1).toNat]!).2.2.2.2.1) ((r16[((l'[i2_.toNat]!).1).toNat]!).2.2.2.2.2.1) ((r16[((l'[i2_.toNat]!).1).toNat]!).2.2.2.2.2.2.1) ((r16[((l'[i2_.toNat]!).1).toNat]!).2.2.2.2.2.2.2.1) ((r16[((l'[i2_.toNat]!).1).toNat]!).2.2.2.2.2.2.2.2)), S71, S19, S29, S67] [0, 1] rfl) ?_
    exact ⟨((b1_ ++ r26) ++ r64), hM, s70, S71, H72, Ak rfl rfl⟩
   refine Af <| fg _ (Sub.pick [(CM b23 ((r16[((l'[i2_.toNat]!).1).toNat]!).1) ((r16[((l'[i2_.toNat]!).1).toNat]!).2.1) ((r16[((l'[i2_.toNat]!).1).toNat]!).2.2.1) ((r16[((l'[i2_.toNat]!).1).toNat]!).2.2.2.1) ((r16[((l'[i2_.toNat]!).1).toNat]!).2.2.2.2.1) ((r16[((l'[i2_.toNat]!).1).toNat]!).2.2.2.2.2.1) ((r16[((l'[i2_.toNat]!).1).toNat]!).2.2.2.2.2.2.1) ((r16[((l'[i2_.toNat]!).1).toNat]!).2.2.2.2.2.2.2.1) ((r16[((l'[i2_.toNat]!).1).toNat]!).2.2.2.2.2.2.2.2)), S33, S19, S29] [0, 1] rfl) ?_
   exact ⟨(b1_ ++ r26), hM, s32, S33, H34, Ak rfl rfl⟩
  clear hM; rintro t l ⟨b4_, hM, vb4_, Sb4_, hb4_, ⟨T, rfl⟩, rfl⟩
  unfold CT at hM
  refine Cr (fun tt ll => ∃ (b6_ : List UInt8), (CS N l' i2_ (Bn N l' n10) r16 b6_ = some r) ∧ ∃ (vb6_ : Value) (Sb6_ : List Bl), Sl 5 encY vb6_ b6_ Sb6_ ∧ Is [(0, l'v), (3, vb6_), (4, vI i2_), (5, vP b23 0)] (List.flatten [(CM b23 ((r16[((l'[i2_.toNat]!).1).toNat]!).1) ((r16[((l'[i2_.toNat]!).1).toNat]!).2.1) ((r16[((l'[i2_.toNat]!).1).toNat]!).2.2.1) ((r16[((l'[i2_.toNat]!).1).toNat]!).2.2.2.1) ((r16[((l'[i2_.toNat]!).1).toNat]!).2.2.2.2.1) ((r16[((l'[i2_.toNat]!).1).toNat]!).2.2.2.2.2.1) ((r16[((l'[i2_.toNat]!).1).toNat]!).2.2.2.2.2.2.1) ((r16[((l'[i2_.toNat]!).1).toNat]!).2.2.2.2.2.2.2.1) ((r16[((l'[i2_.toNat]!).1).toNat]!).2.2.2.2.2.2.2.2)), Sb6_]) tt ll) ?_ ?_
  ·refine AY [0] rfl <| aD hM rfl (fun hc50 hM => ?_) (fun hc50 hM => ?_)
   ·refine A_regC [(some 51, false), (some 52, true)] (conG prog [(51, fun _ _ v_ L_ U_ => ∀ u0_, BE N ((l'[i2_.toNat]!).2.1) = some u0_ → (p1 (fun s_ => s_) 5 encY u0_) v_ L_ U_)]) <| rn 3 rfl <| kC hM fun ck51 hM => rI (Rd.shp hl') ck51 rfl <| rF (Rd.shp hl') (Eh ck51) rfl <| rE (AA hl') ck51 1 rfl <| kB hM fun r52 hr53 hM => AP (Ls := [(CM b23 ((r16[((l'[i2_.toNat]!).1).toNat]!).1) ((r16[((l'[i2_.toNat]!).1).toNat]!).2.1) ((r16[((l'[i2_.toNat]!).1).toNat]!).2.2.1) ((r16[((l'[i2_.toNat]!).1).toNat]!).2.2.2.1) ((r16[((l'[i2_.toNat]!).1).toNat]!).2.2.2.2.1) ((r16[((l'[i2_.toNat]!).1).toNat]!).2.2.2.2.2.1) ((r16[((l'[i2_.toNat]!).1).toNat]!).2.2.2.2.2.2.1) ((r16[((l'[i2_.toNat]!).1).toNat]!).2.2.2.2.2.2.2.1) ((r16[((l'[i2_.toNat]!).1).toNat]!).2.2.2.2.2.2.2.2)), Sb4_]) (fun s54 => s54) 5 encY r52 26 _ rfl rfl rfl (cF Re) (fun o w z_ => Fp N ((l'[i2_.toNat]!).2.1) _ hr53 z_.view ) (Ao hr53) (fun s54 S55 H56 => ?_)
    refine kC hM fun ck57 hM => Dg (Ls := [(CM b23 ((r16[((l'[i2_.toNat]!).1).toNat]!).1) ((r16[((l'[i2_.toNat]!).1).toNat]!).2.1) ((r16[((l'[i2_.toNat]!).1).toNat]!).2.2.1) ((r16[((l'[i2_.toNat]!).1).toNat]!).2.2.2.1) ((r16[((l'[i2_.toNat]!).1).toNat]!).2.2.2.2.1) ((r16[((l'[i2_.toNat]!).1).toNat]!).2.2.2.2.2.1) ((r16[((l'[i2_.toNat]!).1).toNat]!).2.2.2.2.2.2.1) ((r16[((l'[i2_.toNat]!).1).toNat]!).2.2.2.2.2.2.2.1) ((r16[((l'[i2_.toNat]!).1).toNat]!).2.2.2.2.2.2.2.2)), Sb4_, S55]) 1 (En := encY) rfl rfl rfl rfl rfl hb4_ rfl (Ap H56 (Ad (Ls := [(CM b23 ((r16[((l'[i2_.toNat]!).1).toNat]!).1) ((r16[((l'[i2_.toNat]!).1).toNat]!).2.1) ((r16[((l'[i2_.toNat]!).1).toNat]!).2.2.1) ((r16[((l'[i2_.toNat]!).1).toNat]!).2.2.2.1) ((r16[((l'[i2_.toNat]!).1).toNat]!).2.2.2.2.1) ((r16[((l'[i2_.toNat]!).1).toNat]!).2.2.2.2.2.1) ((r16[((l'[i2_.toNat]!).1).toNat]!).2.2.2.2.2.2.1) ((r16[((l'[i2_.toNat]!).1).toNat]!).2.2.2.2.2.2.2.1) ((r16[((l'[i2_.toNat]!).1).toNat]!).2.2.2.2.2.2.2.2)), Sb4_, S55]) (k := 2) rfl rfl)) rfl rfl rfl rfl rfl (Dk ck57 rfl) (Dj ck57 rfl) rfl (fun s58 S59 H60 => ?_)
    refine rz rfl <| fg _ (Sub.pick [(CM b23 ((r16[((l'[i2_.toNat]!).1).toNat]!).1) ((r16[((l'[i2_.toNat]!).1).toNat]!).2.1) ((r16[((l'[i2_.toNat]!).1).toNat]!).2.2.1) ((r16[((l'[i2_.toNat]!).1).toNat]!).2.2.2.1) ((r16[((l'[i2_.toNat]!).1).toNat]!).2.2.2.2.1) ((r16[((l'[i2_.toNat]!).1).toNat]!).2.2.2.2.2.1) ((r16[((l'[i2_.toNat]!).1).toNat]!).2.2.2.2.2.2.1) ((r16[((l'[i2_.toNat]!).1).toNat]!).2.2.2.2.2.2.2.1) ((r16[((l'[i2_.toNat]!).1).toNat]!).2.2.2.2.2.2.2.2)), S59, S55] [0, 1] rfl) ?_
    exact ⟨(b4_ ++ r52), hM, s58, S59, H60, Ak rfl rfl⟩
   refine Af <| fg _ (Sub.pick [(CM b23 ((r16[((l'[i2_.toNat]!).1).toNat]!).1) ((r16[((l'[i2_.toNat]!).1).toNat]!).2.1) ((r16[((l'[i2_.toNat]!).1).toNat]!).2.2.1) ((r16[((l'[i2_.toNat]!).1).toNat]!).2.2.2.1) ((r16[((l'[i2_.toNat]!).1).toNat]!).2.2.2.2.1) ((r16[((l'[i2_.toNat]!).1).toNat]!).2.2.2.2.2.1) ((r16[((l'[i2_.toNat]!).1).toNat]!).2.2.2.2.2.2.1) ((r16[((l'[i2_.toNat]!).1).toNat]!).2.2.2.2.2.2.2.1) ((r16[((l'[i2_.toNat]!).1).toNat]!).2.2.2.2.2.2.2.2)), Sb4_] [0, 1] rfl) ?_
   exact ⟨b4_, hM, vb4_, Sb4_, hb4_, Ak rfl rfl⟩
  clear hM; rintro t l ⟨b6_, hM, vb6_, Sb6_, hb6_, ⟨T, rfl⟩, rfl⟩
  unfold CS at hM
  refine AY [0] rfl <| aE hM rfl (fun hc36 hM => ?_) (fun hc36 hM => ?_)
  ·refine A_regC [(some 62, false), (some 63, true)] (conG prog [(62, fun _ _ v_ L_ U_ => ∀ u0_, BE N ((l'[i2_.toNat]!).2.2.1) = some u0_ → (p1 (fun s_ => s_) 5 encY u0_) v_ L_ U_)]) <| rn 3 rfl <| kC hM fun ck37 hM => rI (Rd.shp hl') ck37 rfl <| rF (Rd.shp hl') (Eh ck37) rfl <| rE (AA hl') ck37 2 rfl <| kB hM fun r38 hr39 hM => AP (Ls := [(CM b23 ((r16[((l'[i2_.toNat]!).1).toNat]!).1) ((r16[((l'[i2_.toNat]!).1).toNat]!).2.1) ((r16[((l'[i2_.toNat]!).1).toNat]!).2.2.1) ((r16[((l'[i2_.toNat]!).1).toNat]!).2.2.2.1) ((r16[((l'[i2_.toNat]!).1).toNat]!).2.2.2.2.1) ((r16[((l'[i2_.toNat]!).1).toNat]!).2.2.2.2.2.1) ((r16[((l'[i2_.toNat]!).1).toNat]!).2.2.2.2.2.2.1) ((r16[((l'[i2_.toNat]!).1).toNat]!).2.2.2.2.2.2.2.1) ((r16[((l'[i2_.toNat]!).1).toNat]!).2.2.2.2.2.2.2.2)), Sb6_]) (fun s40 => s40) 5 encY r38 26 _ rfl rfl rfl (cF Re) (fun o w z_ => Fp N ((l'[i2_.toNat]!).2.2.1) _ hr39 z_.view ) (Ao hr39) (fun s40 S41 H42 => ?_)
   refine kC hM fun ck43 hM => Dg (Ls := [(CM b23 ((r16[((l'[i2_.toNat]!).1).toNat]!).1) ((r16[((l'[i2_.toNat]!).1).toNat]!).2.1) ((r16[((l'[i2_.toNat]!).1).toNat]!).2.2.1) ((r16[((l'[i2_.toNat]!).1).toNat]!).2.2.2.1) ((r16[((l'[i2_.toNat]!).1).toNat]!).2.2.2.2.1) ((r16[((l'[i2_.toNat]!).1).toNat]!).2.2.2.2.2.1) ((r16[((l'[i2_.toNat]!).1).toNat]!).2.2.2.2.2.2.1) ((r16[((l'[i2_.toNat]!).1).toNat]!).2.2.2.2.2.2.2.1) ((r16[((l'[i2_.toNat]!).1).toNat]!).2.2.2.2.2.2.2.2)), Sb6_, S41]) 1 (En := encY) rfl rfl rfl rfl rfl hb6_ rfl (Ap H42 (Ad (Ls := [(CM b23 ((r16[((l'[i2_.toNat]!).1).toNat]!).1) ((r16[((l'[i2_.toNat]!).1).toNat]!).2.1) ((r16[((l'[i2_.toNat]!).1).toNat]!).2.2.1) ((r16[((l'[i2_.toNat]!).1).toNat]!).2.2.2.1) ((r16[((l'[i2_.toNat]!).1).toNat]!).2.2.2.2.1) ((r16[((l'[i2_.toNat]!).1).toNat]!).2.2.2.2.2.1) ((r16[((l'[i2_.toNat]!).1).toNat]!).2.2.2.2.2.2.1) ((r16[((l'[i2_.toNat]!).1).toNat]!).2.2.2.2.2.2.2.1) ((r16[((l'[i2_.toNat]!).1).toNat]!).2.2.2.2.2.2.2.2)), Sb6_, S41]) (k := 2) rfl rfl)) rfl rfl rfl rfl rfl (Dk ck43 rfl) (Dj ck43 rfl) rfl (fun s44 S45 H46 => ?_)
   refine rz rfl <| hK14 _ _ ?_
   refine Ar <| rn 1 rfl <| kC hM fun ck47 hM => rX ck47 rfl <| rz rfl <| fg _ (Sub.pick [(CM b23 ((r16[((l'[i2_.toNat]!).1).toNat]!).1) ((r16[((l'[i2_.toNat]!).1).toNat]!).2.1) ((r16[((l'[i2_.toNat]!).1).toNat]!).2.2.1) ((r16[((l'[i2_.toNat]!).1).toNat]!).2.2.2.1) ((r16[((l'[i2_.toNat]!).1).toNat]!).2.2.2.2.1) ((r16[((l'[i2_.toNat]!).1).toNat]!).2.2.2.2.2.1) ((r16[((l'[i2_.toNat]!).1).toNat]!).2.2.2.2.2.2.1) ((r16[((l'[i2_.toNat]!).1).toNat]!).2.2.2.2.2.2.2.1) ((r16[((l'[i2_.toNat]!).1).toNat]!).2.2.2.2.2.2.2.2)), S45, S41] [1] rfl) ?_
   exact ⟨n10 + 1, by omega, n10, (b6_ ++ r38), (i2_ + 1), hM, s44, S45, H46, Ak rfl rfl, rfl⟩
  refine Af <| hK14 _ _ ?_
  refine Ar <| rn 1 rfl <| kC hM fun ck48 hM => rX ck48 rfl <| rz rfl <| fg _ (Sub.pick [(CM b23 ((r16[((l'[i2_.toNat]!).1).toNat]!).1) ((r16[((l'[i2_.toNat]!).1).toNat]!).2.1) ((r16[((l'[i2_.toNat]!).1).toNat]!).2.2.1) ((r16[((l'[i2_.toNat]!).1).toNat]!).2.2.2.1) ((r16[((l'[i2_.toNat]!).1).toNat]!).2.2.2.2.1) ((r16[((l'[i2_.toNat]!).1).toNat]!).2.2.2.2.2.1) ((r16[((l'[i2_.toNat]!).1).toNat]!).2.2.2.2.2.2.1) ((r16[((l'[i2_.toNat]!).1).toNat]!).2.2.2.2.2.2.2.1) ((r16[((l'[i2_.toNat]!).1).toNat]!).2.2.2.2.2.2.2.2)), Sb6_] [1] rfl) ?_
  exact ⟨n10 + 1, by omega, n10, b6_, (i2_ + 1), hM, vb6_, Sb6_, hb6_, Ak rfl rfl, rfl⟩
 refine AS <| hK8 _ _ ?_
 refine AZ rfl ?_
 cases hM
 refine Au (fun hn => AG (v0 := vb1_) hb1_ (Aw (Sub.pick [Sb1_] [0] rfl)) rfl (AV rfl))
def Hu (N : Nat) (b : List UInt8) (l' : List (Int × Int × Int × Int × BitVec 128)) : Option (List UInt8) := (Bm N l').bind fun r3 => (AF N ([b, r3])).bind fun r11 => some r11
theorem WB (N b l' r) (hM : Hu N b l' = some r) (ro bv) (hb : Rd encY ro bv b) (l'v) (hl' : Rd enc_56 ro l'v l') : Does prog 17 #[bv, l'v] ro [] (p1 (fun s_ => s_) 5 encY r) := by
 unfold Hu at hM
 refine Ac follows func17 rfl 10 rfl _ fz2 (fun base0_ => ?_)
 refine AZ rfl <| A_sc [(some 7, false), (some 8, false), (some 9, false)] (conG prog [(7, fun _ _ v_ L_ U_ => ∀ u0_, Bm N l' = some u0_ → (p1 (fun s_ => s_) 5 encY u0_) v_ L_ U_), (9, fun _ _ v_ L_ U_ => ∀ u0_, Bm N l' = some u0_ → ∀ u1_, AF N ([b, u0_]) = some u1_ → (p1 (fun s_ => s_) 5 encY u1_) v_ L_ U_)]) <| rn 2 rfl <| kB hM fun r3 hr4 hM => AP (Ls := []) (fun s5 => s5) 5 encY r3 41 _ rfl rfl rfl (cF VW) (fun o w z_ => GD N l' _ hr4 z_.view l'v ((AA hl') o w z_)) (Ao hr4) (fun s5 S6 H7 => ?_)
 refine BF (Ls := [S6]) 38 (VR 1 Nat.one_pos) [⟨[bv], rfl, Ab (Shp.one (Rd.shp hb)) Bh⟩, ⟨[s5], rfl, Ab (Shp.one (Sl.shp H7)) Bh⟩] [bv, s5] [nS, nS] rfl rfl rfl rfl rfl rfl rfl (by kernel_rfl) ((CN _ _ _ _ (Bj (AI rfl (Rd.shp hb)) (Bj (AI rfl (Sl.shp H7)) Ei))).trans (by kernel_rfl)) rfl rfl rfl (fun s8 S9 H10 => ?_)
 refine kB hM fun r11 hr12 hM => AP (Ls := [S6, S9]) (fun s13 => s13) 5 encY r11 40 _ rfl rfl rfl (cF Mq) (fun o w z_ => BS N ([b, r3]) _ hr12 z_.view s8 (iy (E := DH) (Ap H10 (Ad (Ls := [S6, S9]) (k := 1) rfl rfl) o w z_) ⟨⟨_, (AA hb) o w z_, rfl⟩, ⟨_, (Ap H7 (Ad (Ls := [S6, S9]) (k := 0) rfl rfl)) o w z_, rfl⟩, trivial⟩)) (fun _ _ v_ L_ U_ => ⟨fun h_ => h_ _ hr4 _ hr12, fun h_ => by intro _ e_; cases Option.some.inj (e_.symm.trans hr4); intro _ e_; cases Option.some.inj (e_.symm.trans hr12); exact h_⟩) (fun s13 S14 H15 => ?_)
 refine rz rfl ?_
 cases hM
 refine Au (fun hn => AG (v0 := s13) H15 (Aw (Sub.pick [S6, S9, S14] [2] rfl)) rfl (AV rfl))
end Go.Proofs.YthafnifhhblkbaaGreatDoor
