import Derived.Test.YthafnifhhblkbaaGreatDoorBj
import Derived.Test.YthafnifhhblkbaaGreatDoorQa
namespace Go.Proofs.YthafnifhhblkbaaGreatDoor
open Go Go.RowKit Go.Eng _root_.Go.Proofs.Tryz
set_option maxRecDepth 100000
set_option maxHeartbeats 8000000
def By (N : Nat) (b : List UInt8) (l' : List (Int × Int × Int × Int × BitVec 128)) (want5_ : List UInt8) : Option Bool := (Hu N b l').bind fun r20 => if r20 = want5_ then if b = b then (BO N ).bind fun r27 => some r27 else some false else some false
def Br (N : Nat) (b : List UInt8) (l' : List (Int × Int × Int × Int × BitVec 128)) : Nat → Bool → Int → Option Bool
  | 0, _, _ => none
  | n6 + 1, may2_, i3_ => if i3_ < (l'.length : Int) then if may2_ = true then ck (0 ≤ i3_ ∧ i3_ < (l'.length : Int)) ((OC N ((l'[i3_.toNat]!).1) ((l'[i3_.toNat]!).2.1) ((l'[i3_.toNat]!).2.2.1) ((l'[i3_.toNat]!).2.2.2.1) ((l'[i3_.toNat]!).2.2.2.2)).bind fun r14 => ck (-9223372036854775808 ≤ (i3_ + 1) ∧ (i3_ + 1) ≤ 9223372036854775807) ((Br N b l' n6) (r14 == 0) (i3_ + 1))) else ck (-9223372036854775808 ≤ (i3_ + 1) ∧ (i3_ + 1) ≤ 9223372036854775807) ((Br N b l' n6) false (i3_ + 1)) else ck ((b.length : Int) + ((([0] : List UInt8)).length : Int) ≤ 9223372036854775807) (if may2_ = true then (CA N l').bind fun r31 => ck ((b.length : Int) + (r31.length : Int) ≤ 9223372036854775807) (By N b l' (b ++ r31)) else By N b l' (b ++ ([0] : List UInt8)))
def Dn (N : Nat) (b : List UInt8) (l' : List (Int × Int × Int × Int × BitVec 128)) : Option Bool := Br N b l' N (decide ((l'.length : Int) ≤ 64)) 0
def DB (N : Nat) (b : List UInt8) (l' : List (Int × Int × Int × Int × BitVec 128)) : Option Bool := if (b.length : Int) > 500 then (BO N ).bind fun r44 => some r44 else if (l'.length : Int) > 200 then (BO N ).bind fun r41 => some r41 else Dn N b l' 
theorem Lk (N b l' r) (hM : DB N b l' = some r) (ro bv) (hb : Rd encY ro bv b) (l'v) (hl' : Rd enc_56 ro l'v l') : DoesI prog 5 #[bv, l'v] Ej ro [] (pV (vB r)) := by
 unfold DB at hM
 refine AQ follows func5 rfl 61 rfl _ fz2 AW (fun base0_ => ?_)
 refine AZ rfl <| Cr (fun tt ll => (Dn N b l'  = some r) ∧ Is [(0, bv), (1, l'v)] [] tt ll) ?_ ?_
 ·refine Aa fun K37 hK37 => Ar <| rn 1 rfl <| rL (Rd.shp hb) rfl <| rn 2 rfl ?_
  rcases hg38 : (decide ((b.length : Int) > 500)) with _ | _
  ·replace hM := iF hg38 hM
   refine rn 1 rfl <| r_y rfl <| rL (Rd.shp hl') rfl <| rz rfl <| hK37 _ _ ?_
   refine aD hM rfl (fun hc39 hM => ?_) (fun hc39 hM => ?_)
   ·refine A_sc [(some 17, false)] (conG prog [(17, cV (BO N ) fun u0_ => vB u0_)]) <| kB hM fun r41 hr42 hM => rg _ (cF YX) (fun o w z_ => FA N  _ hr42 z_.view ) (Ao hr42) <| rz rfl ?_
    cases hM
    exact aR eV1
   refine Af <| fg _ (Sub.of suN) ?_
   exact ⟨hM, Ak rfl rfl⟩
  replace hM := iD hg38 hM
  refine rz rfl <| hK37 _ _ ?_
  refine AB true rfl (fun _ => ?_) (fun h_ => nomatch h_)
  refine A_sc [(some 17, false)] (conG prog [(17, cV (BO N ) fun u0_ => vB u0_)]) <| kB hM fun r44 hr45 hM => rg _ (cF YX) (fun o w z_ => FA N  _ hr45 z_.view ) (Ao hr45) <| rz rfl ?_
  cases hM
  exact aR eV1
 clear hM; rintro t l ⟨hM, ⟨T, rfl⟩, rfl⟩
 unfold Dn at hM
 refine Ai <| rn 1 rfl <| Ww (e := 5) b rfl rfl rfl rfl rfl (AA hb) <| rz rfl <| Ai <| rn 1 rfl <| rL (Rd.shp hl') rfl <| rz rfl <| Aa fun K4 hK4 => AZ rfl <| Aj <| AU (fun tt ll nn => ∃ (n6 : Nat) (may2_ : Bool) (i3_ : Int), (Br N b l' n6 may2_ i3_ = some r) ∧ Is [(0, bv), (1, l'v), (5, vS b), (6, vB may2_), (7, vI i3_)] [] tt ll ∧ nn = n6 + 1) (N + 1) ?_ ?_
 ·exact ⟨N, decide ((l'.length : Int) ≤ 64), 0, hM, Ak rfl rfl, rfl⟩
 clear hM; rintro t l _ ⟨n6, may2_, i3_, hM, ⟨⟨T, rfl⟩, rfl⟩, rfl⟩
 rcases n6 with _ | n6
 ·exact absurd hM (by simp [Br])
 rw [Br] at hM
 refine Aa fun K7 hK7 => Ai <| rn 2 rfl <| rL (Rd.shp hl') rfl <| rz rfl <| aD hM rfl (fun hc9 hM => ?_) (fun hc9 hM => ?_)
 ·refine Af <| hK7 _ _ ?_
  refine Aa fun K10 hK10 => Aj <| Ar <| rn 2 rfl ?_
  rcases hg11 : may2_ with _ | _
  ·replace hM := iB hg11 hM
   refine rz rfl <| hK10 _ _ ?_
   refine Ar <| rn 1 rfl <| kC hM fun ck12 hM => rX ck12 rfl <| rz rfl <| fg _ (Sub.of suN) ?_
   exact ⟨n6 + 1, by omega, n6, false, (i3_ + 1), hM, Ak (by first | rfl | (simp only [hg11]; done) | (simp only [hg11]; rfl) | (simp only [CZ]; rfl)) rfl, rfl⟩
  replace hM := ifp hg11 hM
  refine rn 2 rfl <| r_y rfl <| kC hM fun ck13 hM => rI (Rd.shp hl') ck13 rfl <| r_y rfl <| rE (AA hl') ck13 0 rfl <| r_y rfl <| kB hM fun r14 hr15 hM => rc _ (cF jC) (iw N ((l'[i3_.toNat]!).1) ((l'[i3_.toNat]!).2.1) ((l'[i3_.toNat]!).2.2.1) ((l'[i3_.toNat]!).2.2.2.1) ((l'[i3_.toNat]!).2.2.2.2) _ hr15) <| rz rfl <| hK10 _ _ ?_
  refine Ar <| rn 1 rfl <| kC hM fun ck16 hM => rX ck16 rfl <| rz rfl <| fg _ (Sub.of suN) ?_
  exact ⟨n6 + 1, by omega, n6, (r14 == 0), (i3_ + 1), hM, Ak (by first | rfl | (simp only [hg11]; done) | (simp only [hg11]; rfl) | (simp only [CZ]; rfl)) rfl, rfl⟩
 refine AS <| hK4 _ _ ?_
 refine Ai <| rn 1 rfl <| kC hM fun ck18 hM => r_W (vS (b ++ ([0] : List UInt8))) rfl (ZK ck18 rfl rfl) <| rz rfl <| Cr (fun tt ll => ∃ (want5_ : List UInt8), (By N b l' want5_ = some r) ∧ Is [(0, bv), (1, l'v), (5, vS b), (8, vS want5_)] [] tt ll) ?_ ?_
 ·refine AZ rfl <| aB hM rfl (fun hc30 hM => ?_) (fun hc30 hM => ?_)
  ·refine A_regC [(some 43, false)] (conG prog [(43, fun _ _ v_ L_ U_ => ∀ u0_, CA N l' = some u0_ → (p1 (fun s_ => s_) 5 encY u0_) v_ L_ U_)]) <| rn 2 rfl <| kB hM fun r31 hr32 hM => AP (Ls := []) (fun s33 => s33) 5 encY r31 16 _ rfl rfl rfl (cF jB) (fun o w z_ => (Does.inv (NH N l' _ hr32 z_.view l'v ((AA hl') o w z_)) _)) (Ao hr32) (fun s33 S34 H35 => ?_)
   refine Ww (e := 5) r31 rfl rfl rfl rfl rfl (Ap H35 (Ad (Ls := [S34]) (k := 0) rfl rfl)) <| kC hM fun ck36 hM => r_W (vS (b ++ r31)) rfl (ZK ck36 rfl rfl) <| rz rfl <| fg _ (Sub.pick [S34] [] rfl) ?_
   exact ⟨b ++ r31, hM, Ak rfl rfl⟩
  refine Af <| fg _ (Sub.of suN) ?_
  exact ⟨b ++ ([0] : List UInt8), hM, Ak rfl rfl⟩
 clear hM; rintro t l ⟨want5_, hM, ⟨T, rfl⟩, rfl⟩
 unfold By at hM
 refine Aa fun K19 hK19 => A_regC [(some 48, false), (some 59, false)] (conG prog [(48, fun _ _ v_ L_ U_ => ∀ u0_, Hu N b l' = some u0_ → (p1 (fun s_ => s_) 5 encY u0_) v_ L_ U_), (59, cV (BO N ) fun u0_ => vB u0_)]) <| rn 2 rfl <| kB hM fun r20 hr21 hM => AP (Ls := []) (fun s22 => s22) 5 encY r20 17 _ rfl rfl rfl (cF jA) (fun o w z_ => (Does.inv (WB N b l' _ hr21 z_.view bv (z_.r hb) l'v ((AA hl') o w z_)) _)) (Ao hr21) (fun s22 S23 H24 => ?_)
 refine Ww (e := 5) r20 rfl rfl rfl rfl rfl (Ap H24 (Ad (Ls := [S23]) (k := 0) rfl rfl)) <| rn 1 rfl <| r_W (vB (r20 == want5_)) rfl (Ok rfl rfl) <| rn 1 rfl ?_
 rcases hg25 : (r20 == want5_) with _ | _
 ·replace hM := iG hg25 hM
  refine rz rfl <| hK19 _ _ ?_
  cases hM
  exact aR eV1
 replace hM := iE hg25 hM
 refine rn 1 rfl <| r_y rfl <| Ww (e := 5) b rfl rfl rfl rfl rfl (AA hb) <| rn 1 rfl <| r_y rfl <| r_W (vB (b == b)) rfl (Ok rfl rfl) <| rn 2 rfl ?_
 rcases hg26 : (b == b) with _ | _
 ·replace hM := iG hg26 hM
  refine rz rfl <| hK19 _ _ ?_
  cases hM
  exact aR eV1
 replace hM := iE hg26 hM
 refine r_y rfl <| kB hM fun r27 hr28 hM => rg _ (cF YX) (fun o w z_ => FA N  _ hr28 z_.view ) (Ao hr28) <| rz rfl <| hK19 _ _ ?_
 cases hM
 exact aR eV1
end Go.Proofs.YthafnifhhblkbaaGreatDoor
namespace Go.Proofs.YthafnifhhblkbaaGreatDoor
open Go Go.RowKit Go.Eng
theorem Vo : BO 1000 = some true := by decide +kernel
def okI (x : I9) : Bool := decide (Hv x = 0)
theorem iJ (b : List UInt8) (l : List I9) (hl : l.length ≤ 200) (F : Bool → Option Bool) (hF : ∀ m, F m = ck ((b.length : Int) + ((([0] : List UInt8)).length : Int) ≤ 9223372036854775807) (if m = true then (CA 1000 l).bind fun r31 => ck ((b.length : Int) + (r31.length : Int) ≤ 9223372036854775807) (By 1000 b l (b ++ r31)) else By 1000 b l (b ++ ([0] : List UInt8)))) :
  ∀ (k f i : Nat) (m : Bool), i + k = l.length → k < f → Br 1000 b l f m (i : Int) = F (m && (l.drop i).all okI) := by
 intro k
 induction k with
 | zero =>
  intro f i m hi hf
  obtain ⟨f, rfl⟩ : ∃ n, f = n + 1 := ⟨f - 1, by omega⟩
  rw [Br, if_neg (by omega), List.drop_of_length_le (by omega), List.all_nil, Bool.and_true, hF]
 | succ k ih =>
  intro f i m hi hf
  obtain ⟨f, rfl⟩ : ∃ n, f = n + 1 := ⟨f - 1, by omega⟩
  rw [Br, if_pos (by omega), LN l i (by omega), List.all_cons]
  cases m
  ·rw [if_neg (by decide), AR _ (by omega), show (i : Int) + 1 = ((i + 1 : Nat) : Int) from by omega, ih f (i + 1) _ (by omega) (by omega), Bool.false_and, Bool.false_and]
  ·rw [if_pos rfl, AR _ (by omega), Int.toNat_natCast, ak, Option.bind_some, AR _ (by omega), show (i : Int) + 1 = ((i + 1 : Nat) : Int) from by omega, ih f (i + 1) _ (by omega) (by omega), Bool.true_and]
   rfl
theorem RA (b : List UInt8) (l : List I9) : DB 1000 b l = some true := by
 unfold DB
 by_cases hb : (b.length : Int) > 500
 ·rw [if_pos hb, Vo]; rfl
 rw [if_neg hb]
 by_cases hl : (l.length : Int) > 200
 ·rw [if_pos hl, Vo]; rfl
 rw [if_neg hl]
 unfold Dn
 have := iJ b l (by omega) _ (fun _ => rfl) l.length 1000 0 (decide ((l.length : Int) ≤ 64)) (by omega) (by omega)
 rw [show (0 : Int) = ((0 : Nat) : Int) from rfl, this, List.drop_zero]
 have hok : (decide ((l.length : Int) ≤ 64) && l.all okI) = okB l := by
  unfold okB okI
  congr 1
  exact decide_eq_decide.2 (by omega)
 rw [hok, AR _ (by simp; omega)]
 have hp := iI (N := 1000) (by decide) b (by omega) l (by omega)
 have hcl := UE l
 have fin : ∀ w, w = b ++ NR l → By 1000 b l w = some true := by
  intro w hw
  unfold By
  rw [hp, Option.bind_some, if_pos hw.symm, if_pos rfl, Vo]; rfl
 cases h : okB l
 ·rw [if_neg (by decide)]
  exact fin _ (by unfold NR; rw [h]; rfl)
 ·obtain ⟨h1, h2⟩ := (OJ l).1 h
  have e : NR l = codeB l := by unfold NR; rw [h]; rfl
  rw [if_pos rfl, al (by decide) l (by omega) h2, Option.bind_some, AR _ (by rw [← e]; omega)]
  exact fin _ (by rw [e])
end Go.Proofs.YthafnifhhblkbaaGreatDoor
