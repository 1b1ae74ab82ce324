import Derived.Test.YtjnanfkpdhmnpaaGreatDoorLz
import Derived.Test.YtjnanfkpdhmnpaaGreatDoorWx
import Derived.Test.YtjnanfkpdhmnpaaGreatDoorRows
import Derived.SizedLaws
namespace Go.Proofs.YtjnanfkpdhmnpaaGreatDoor
open Go Go.RowKit Go.Eng _root_.Go.Proofs.Tryz
set_option linter.unusedSimpArgs false
set_option linter.unusedVariables false
set_option maxRecDepth 100000
set_option maxHeartbeats 80000000
abbrev Aw(b:Nat)(x0 x1:W4):Y0 Bl:=[(b,37, #[U x0,U x1])]
abbrev Av(b:Nat)(x0 x1:Y2)(x2:W4)(x3:Int):Y0 Bl:=[(b,44, #[x0,x1,U x2,vI x3])]
abbrev Bj(b:Nat)(x0 x1 x2 x3:Int):Y0 Bl:=[(b,58, #[vI x0,vI x1,vI x2,vI x3])]
abbrev Bi(b:Nat)(x0 x1 x2:Int):Y0 Bl:=[(b,80, #[vI x0,vI x1,vI x2])]
def CC(N:Nat)(a:Y3):Y1 Y3:=if a=true then(BE N).bind λb=>some b else some false
def Gr(N:Nat)(m:Ao)(a:Y3)(n:W3):Y1 Y3:=(Gk N m).bind λr=>if r=true then(BM N m a (hi n)).bind λf=>Aa0.on f.2.2.2.2 ((BM N m a (hi n|||lo n)).bind λc=>Aa0.on c.2.2.2.2 ((IQ N f.2.2.1 c.2.2.1).bind λq=>if q=true then CC N (f.2.2.2.1==c.2.2.2.1)else CC N false) (λ_ _ _ _=>some false) (λ_ _ _=>some false)) (λ_ _ _ _=>(BM N m a (hi n|||lo n)).bind λd=>Aa0.on d.2.2.2.2 ((BE N).bind λe=>some e) (λj k o g=>(BE N).bind λb=>some b) (λi h l=>(BE N).bind λb=>some b)) (λ_ _ _=>(BM N m a (hi n|||lo n)).bind λd=>Aa0.on d.2.2.2.2 ((BE N).bind λe=>some e) (λj k o g=>(BE N).bind λb=>some b) (λi h l=>(BE N).bind λb=>some b))else(BE N).bind λp=>some p
theorem NG(N m egress n r)(hM:Gr N m egress n=some r)(ro)(mv:AC)(hm:Aa2 ro mv m):DoesI prog 3 #[vA (Ab m mv),vB egress,vA #[U (hi n),U (lo n)]] Gt ro [] (pV (vB r)):=by
 unfold Gr at hM
 refine Bq follows func3 Z 56 Z _ fz3 Bm (λbase0_=> ?_)
 refine Ad<|rA Z λb2=>rA Z λb3=>rz Z<|Aa λK4 hK4=>Ad<|rm 1 [1] Z<|kB hM λr6 hr7 hM=>gV _ (cF xd) (λo w z_=>(V3 (PA N m _ hr7 z_.view mv (Aa2.mono z_.ro_cell hm)) _))<|rz Z<|BS _ Z (λhc8=> ?_) (λhc8=> ?_)
 ·replace hM:=ifn (Bool.eq_false_iff.1 (DG hc8)) hM
  refine Ad<|kB hM λr10 hr11 hM=>gV _ (cF RF) (λo w z_=>Du N  _ hr11 z_.view)<|rz Z ?_
  cases hM
  exact aR eV1
 replace hM:=ifp (DH hc8) hM
 refine Ac<|hK4 _ _ ?_
 refine Aa λK12 hK12=>Ah<|rm 4 [1,0] Z<|kB hM λr13 hr14 hM=>gM (Ls:=[(Aw b3 (hi n) (lo n)),[(b2,35,(Ab m mv))]]) (FL:=[]) [] (cF Xi) (λo w hn_ z_=>Ik N m egress (hi n) _ hr14 _ mv (Aa2.mono (Fw (Ls:=[(Aw b3 (hi n) (lo n)),[(b2,35,(Ab m mv))]]) (is:=[]) Z z_) hm)) ?_
 rcases Aa0.cases r13.2.2.2.2 with hx21|⟨x22_0,x23_1,x24_2,x25_3,hx21⟩|⟨x26_0,x27_1,x28_2,hx21⟩
 ·rintro _ _ ⟨s18,S19,_,H20,⟨s15,S16,_,H17,hp_,rfl⟩,rfl⟩
  obtain⟨rfl,rfl⟩:=Aa0.onP_nil hx21 hp_
  replace hM:=Aa0.on_nil hx21 hM
  refine AK (Ls:=[(Aw b3 (hi n) (lo n)),[(b2,35,(Ab m mv))],S19,S16]) (Ls':=[(Aw b3 (hi n) (lo n)),[(b2,35,(Ab m mv))],S19,S16]) [0,1,2,3] Z Z<|rn 3 Z<|rA Z λb29=>r_s (V2 [(Av b29 s18 s15 r13.2.2.1 r13.2.2.2.1),(Aw b3 (hi n) (lo n)),[(b2,35,(Ab m mv))],S19,S16]) 0 _ _ _ _ _ (#[s18,s15,U r13.2.2.1,vI r13.2.2.2.1]) Z Z Z Z (.ofS Z Z (sS H20 (sS H17 (Ae Z (Ae Z AD))))) Z Z<|rz Z<|hK12 _ _ ?_
  refine Aa λK30 hK30=>Ah<|rm 6 [2,1,1] Z<|r_X (U (hi n|||lo n)) Z (uR (hi n) (lo n)) Z<|kB hM λr31 hr32 hM=>gM (Ls:=[(Av b29 s18 s15 r13.2.2.1 r13.2.2.2.1),(Aw b3 (hi n) (lo n)),[(b2,35,(Ab m mv))],S19,S16]) (FL:=[]) [] (cF Xi) (λo w hn_ z_=>Ik N m egress _ _ hr32 _ mv (Aa2.mono (Fw (Ls:=[(Av b29 s18 s15 r13.2.2.1 r13.2.2.2.1),(Aw b3 (hi n) (lo n)),[(b2,35,(Ab m mv))],S19,S16]) (is:=[]) Z z_) hm)) ?_
  rcases Aa0.cases r31.2.2.2.2 with hx39|⟨x40_0,x41_1,x42_2,x43_3,hx39⟩|⟨x44_0,x45_1,x46_2,hx39⟩
  ·rintro _ _ ⟨s36,S37,_,H38,⟨s33,S34,_,H35,hp_,rfl⟩,rfl⟩
   obtain⟨rfl,rfl⟩:=Aa0.onP_nil hx39 hp_
   replace hM:=Aa0.on_nil hx39 hM
   refine AK (Ls:=[(Av b29 s18 s15 r13.2.2.1 r13.2.2.2.1),(Aw b3 (hi n) (lo n)),[(b2,35,(Ab m mv))],S19,S16,S37,S34]) (Ls':=[(Av b29 s18 s15 r13.2.2.1 r13.2.2.2.1),(Aw b3 (hi n) (lo n)),[(b2,35,(Ab m mv))],S19,S16,S37,S34]) [0,1,2,3,4,5,6] Z Z<|rn 3 Z<|rA Z λb47=>r_s (V2 [(Av b47 s36 s33 r31.2.2.1 r31.2.2.2.1),(Av b29 s18 s15 r13.2.2.1 r13.2.2.2.1),(Aw b3 (hi n) (lo n)),[(b2,35,(Ab m mv))],S19,S16,S37,S34]) 0 _ _ _ _ _ (#[s36,s33,U r31.2.2.1,vI r31.2.2.2.1]) Z Z Z Z (.ofS Z Z (sS H38 (sS H35 (Ae Z (Ae Z AD))))) Z Z<|rz Z<|hK30 _ _ ?_
   refine CJ [(7,vP b29 0),(8,V6),(9,vP b47 0),(10,V6)] Z (λT=> ?_)
   refine Aa λK48 hK48=>AZ Z<|Ch Z ?_
   refine Ac<|hK48 _ _ ?_
   refine Aa λK50 hK50=>Ah<|rn 4 Z<|r_y Z<|rm 2 [1] Z<|r_y Z<|rm 1 [0] Z<|r_y Z<|kB hM λr51 hr52 hM=>rc _ (cF xc) (Tv N _ _ _ hr52)<|rn 2 Z<|AS 6 52 [] vB (λb_=>CC N b_=some r) (λb53 hM T=> ?_) (λHJ=> ?_)
   ·unfold CC at hM
    refine rn 1 Z ?_
    rcases hg54:b53 with _|_
    ·replace hM:=iB hg54 hM
     refine rz Z<|hK50 _ _ ?_
     cases hM
     exact aR eV1
    replace hM:=ifp hg54 hM
    refine r_y Z<|kB hM λr55 hr56 hM=>gV _ (cF RF) (λo w z_=>Du N  _ hr56 z_.view)<|rz Z<|hK50 _ _ ?_
    cases hM
    exact aR eV1
   rcases hg57:r51 with _|_
   ·replace hM:=iB hg57 hM
    refine rn 6 Z ?_
    exact HJ _ _ hM Z Z
   replace hM:=ifp hg57 hM
   refine rn 1 Z<|r_y Z<|rm 2 [1] Z<|r_y Z<|rm 3 [0] Z ?_
   exact HJ _ _ hM Z Z
  ·rintro _ _ ⟨s36,S37,_,H38,⟨s33,S34,_,H35,hp_,rfl⟩,rfl⟩
   obtain⟨b47,_,⟨rfl,rfl⟩,rfl⟩:=Aa0.onP_t56 hx39 hp_
   replace hM:=Aa0.on_t56 hx39 hM
   refine AK (Ls:=[(Av b29 s18 s15 r13.2.2.1 r13.2.2.2.1),(Aw b3 (hi n) (lo n)),[(b2,35,(Ab m mv))],S19,S16,S37,S34,(Bj b47 x40_0 x41_1 x42_2 x43_3)]) (Ls':=[(Av b29 s18 s15 r13.2.2.1 r13.2.2.2.1),(Aw b3 (hi n) (lo n)),[(b2,35,(Ab m mv))],(Bj b47 x40_0 x41_1 x42_2 x43_3),S19,S16,S37,S34]) [0,1,2,7,3,4,5,6] Z Z<|rn 3 Z<|rA Z λb48=>r_s (V2 [(Av b48 s36 s33 r31.2.2.1 r31.2.2.2.1),(Av b29 s18 s15 r13.2.2.1 r13.2.2.2.1),(Aw b3 (hi n) (lo n)),[(b2,35,(Ab m mv))],(Bj b47 x40_0 x41_1 x42_2 x43_3),S19,S16,S37,S34]) 0 _ _ _ _ _ (#[s36,s33,U r31.2.2.1,vI r31.2.2.2.1]) Z Z Z Z (.ofS Z Z (sS H38 (sS H35 (Ae Z (Ae Z AD))))) Z Z<|rz Z<|hK30 _ _ ?_
   refine CJ [(7,vP b29 0),(8,V6),(9,vP b48 0),(10,V5 56 (vP b47 0))] Z (λT=> ?_)
   refine Aa λK49 hK49=>AZ Z<|Ch Z ?_
   refine Ac<|hK49 _ _ ?_
   refine AZ Z ?_
   cases hM
   exact aR eV1
  rintro _ _ ⟨s36,S37,_,H38,⟨s33,S34,_,H35,hp_,rfl⟩,rfl⟩
  obtain⟨b47,_,⟨rfl,rfl⟩,rfl⟩:=Aa0.onP_t78 hx39 hp_
  replace hM:=Aa0.on_t78 hx39 hM
  refine AK (Ls:=[(Av b29 s18 s15 r13.2.2.1 r13.2.2.2.1),(Aw b3 (hi n) (lo n)),[(b2,35,(Ab m mv))],S19,S16,S37,S34,(Bi b47 x44_0 x45_1 x46_2)]) (Ls':=[(Av b29 s18 s15 r13.2.2.1 r13.2.2.2.1),(Aw b3 (hi n) (lo n)),[(b2,35,(Ab m mv))],(Bi b47 x44_0 x45_1 x46_2),S19,S16,S37,S34]) [0,1,2,7,3,4,5,6] Z Z<|rn 3 Z<|rA Z λb48=>r_s (V2 [(Av b48 s36 s33 r31.2.2.1 r31.2.2.2.1),(Av b29 s18 s15 r13.2.2.1 r13.2.2.2.1),(Aw b3 (hi n) (lo n)),[(b2,35,(Ab m mv))],(Bi b47 x44_0 x45_1 x46_2),S19,S16,S37,S34]) 0 _ _ _ _ _ (#[s36,s33,U r31.2.2.1,vI r31.2.2.2.1]) Z Z Z Z (.ofS Z Z (sS H38 (sS H35 (Ae Z (Ae Z AD))))) Z Z<|rz Z<|hK30 _ _ ?_
  refine CJ [(7,vP b29 0),(8,V6),(9,vP b48 0),(10,V5 78 (vP b47 0))] Z (λT=> ?_)
  refine Aa λK49 hK49=>AZ Z<|Ch Z ?_
  refine Ac<|hK49 _ _ ?_
  refine AZ Z ?_
  cases hM
  exact aR eV1
 ·rintro _ _ ⟨s18,S19,_,H20,⟨s15,S16,_,H17,hp_,rfl⟩,rfl⟩
  obtain⟨b29,_,⟨rfl,rfl⟩,rfl⟩:=Aa0.onP_t56 hx21 hp_
  replace hM:=Aa0.on_t56 hx21 hM
  refine AK (Ls:=[(Aw b3 (hi n) (lo n)),[(b2,35,(Ab m mv))],S19,S16,(Bj b29 x22_0 x23_1 x24_2 x25_3)]) (Ls':=[(Aw b3 (hi n) (lo n)),[(b2,35,(Ab m mv))],(Bj b29 x22_0 x23_1 x24_2 x25_3),S19,S16]) [0,1,4,2,3] Z Z<|rn 3 Z<|rA Z λb30=>r_s (V2 [(Av b30 s18 s15 r13.2.2.1 r13.2.2.2.1),(Aw b3 (hi n) (lo n)),[(b2,35,(Ab m mv))],(Bj b29 x22_0 x23_1 x24_2 x25_3),S19,S16]) 0 _ _ _ _ _ (#[s18,s15,U r13.2.2.1,vI r13.2.2.2.1]) Z Z Z Z (.ofS Z Z (sS H20 (sS H17 (Ae Z (Ae Z AD))))) Z Z<|rz Z<|hK12 _ _ ?_
  refine Aa λK31 hK31=>Ah<|rm 6 [2,1,1] Z<|r_X (U (hi n|||lo n)) Z (uR (hi n) (lo n)) Z<|kB hM λr32 hr33 hM=>gM (Ls:=[(Av b30 s18 s15 r13.2.2.1 r13.2.2.2.1),(Aw b3 (hi n) (lo n)),[(b2,35,(Ab m mv))],(Bj b29 x22_0 x23_1 x24_2 x25_3),S19,S16]) (FL:=[]) [] (cF Xi) (λo w hn_ z_=>Ik N m egress _ _ hr33 _ mv (Aa2.mono (Fw (Ls:=[(Av b30 s18 s15 r13.2.2.1 r13.2.2.2.1),(Aw b3 (hi n) (lo n)),[(b2,35,(Ab m mv))],(Bj b29 x22_0 x23_1 x24_2 x25_3),S19,S16]) (is:=[]) Z z_) hm)) ?_
  rcases Aa0.cases r32.2.2.2.2 with hx40|⟨x41_0,x42_1,x43_2,x44_3,hx40⟩|⟨x45_0,x46_1,x47_2,hx40⟩
  ·rintro _ _ ⟨s37,S38,_,H39,⟨s34,S35,_,H36,hp_,rfl⟩,rfl⟩
   obtain⟨rfl,rfl⟩:=Aa0.onP_nil hx40 hp_
   replace hM:=Aa0.on_nil hx40 hM
   refine AK (Ls:=[(Av b30 s18 s15 r13.2.2.1 r13.2.2.2.1),(Aw b3 (hi n) (lo n)),[(b2,35,(Ab m mv))],(Bj b29 x22_0 x23_1 x24_2 x25_3),S19,S16,S38,S35]) (Ls':=[(Av b30 s18 s15 r13.2.2.1 r13.2.2.2.1),(Aw b3 (hi n) (lo n)),[(b2,35,(Ab m mv))],(Bj b29 x22_0 x23_1 x24_2 x25_3),S19,S16,S38,S35]) [0,1,2,3,4,5,6,7] Z Z<|rn 3 Z<|rA Z λb48=>r_s (V2 [(Av b48 s37 s34 r32.2.2.1 r32.2.2.2.1),(Av b30 s18 s15 r13.2.2.1 r13.2.2.2.1),(Aw b3 (hi n) (lo n)),[(b2,35,(Ab m mv))],(Bj b29 x22_0 x23_1 x24_2 x25_3),S19,S16,S38,S35]) 0 _ _ _ _ _ (#[s37,s34,U r32.2.2.1,vI r32.2.2.2.1]) Z Z Z Z (.ofS Z Z (sS H39 (sS H36 (Ae Z (Ae Z AD))))) Z Z<|rz Z<|hK31 _ _ ?_
   refine CJ [(7,vP b30 0),(8,V5 56 (vP b29 0)),(9,vP b48 0),(10,V6)] Z (λT=> ?_)
   refine Aa λK49 hK49=>AZ Z<|JO Z ?_
   refine Ad<|kB hM λr52 hr53 hM=>gV _ (cF RF) (λo w z_=>Du N  _ hr53 z_.view)<|rz Z ?_
   cases hM
   exact aR eV1
  ·rintro _ _ ⟨s37,S38,_,H39,⟨s34,S35,_,H36,hp_,rfl⟩,rfl⟩
   obtain⟨b48,_,⟨rfl,rfl⟩,rfl⟩:=Aa0.onP_t56 hx40 hp_
   replace hM:=Aa0.on_t56 hx40 hM
   refine AK (Ls:=[(Av b30 s18 s15 r13.2.2.1 r13.2.2.2.1),(Aw b3 (hi n) (lo n)),[(b2,35,(Ab m mv))],(Bj b29 x22_0 x23_1 x24_2 x25_3),S19,S16,S38,S35,(Bj b48 x41_0 x42_1 x43_2 x44_3)]) (Ls':=[(Av b30 s18 s15 r13.2.2.1 r13.2.2.2.1),(Aw b3 (hi n) (lo n)),[(b2,35,(Ab m mv))],(Bj b29 x22_0 x23_1 x24_2 x25_3),(Bj b48 x41_0 x42_1 x43_2 x44_3),S19,S16,S38,S35]) [0,1,2,3,8,4,5,6,7] Z Z ?_
   refine rn 3 Z<|rA Z λb49=>r_s (V2 [(Av b49 s37 s34 r32.2.2.1 r32.2.2.2.1),(Av b30 s18 s15 r13.2.2.1 r13.2.2.2.1),(Aw b3 (hi n) (lo n)),[(b2,35,(Ab m mv))],(Bj b29 x22_0 x23_1 x24_2 x25_3),(Bj b48 x41_0 x42_1 x43_2 x44_3),S19,S16,S38,S35]) 0 _ _ _ _ _ (#[s37,s34,U r32.2.2.1,vI r32.2.2.2.1]) Z Z Z Z (.ofS Z Z (sS H39 (sS H36 (Ae Z (Ae Z AD))))) Z Z<|rz Z<|hK31 _ _ ?_
   refine CJ [(7,vP b30 0),(8,V5 56 (vP b29 0)),(9,vP b49 0),(10,V5 56 (vP b48 0))] Z (λT=> ?_)
   refine Aa λK50 hK50=>AZ Z<|JO Z ?_
   refine Ad<|kB hM λr53 hr54 hM=>gV _ (cF RF) (λo w z_=>Du N  _ hr54 z_.view)<|rz Z ?_
   cases hM
   exact aR eV1
  rintro _ _ ⟨s37,S38,_,H39,⟨s34,S35,_,H36,hp_,rfl⟩,rfl⟩
  obtain⟨b48,_,⟨rfl,rfl⟩,rfl⟩:=Aa0.onP_t78 hx40 hp_
  replace hM:=Aa0.on_t78 hx40 hM
  refine AK (Ls:=[(Av b30 s18 s15 r13.2.2.1 r13.2.2.2.1),(Aw b3 (hi n) (lo n)),[(b2,35,(Ab m mv))],(Bj b29 x22_0 x23_1 x24_2 x25_3),S19,S16,S38,S35,(Bi b48 x45_0 x46_1 x47_2)]) (Ls':=[(Av b30 s18 s15 r13.2.2.1 r13.2.2.2.1),(Aw b3 (hi n) (lo n)),[(b2,35,(Ab m mv))],(Bj b29 x22_0 x23_1 x24_2 x25_3),(Bi b48 x45_0 x46_1 x47_2),S19,S16,S38,S35]) [0,1,2,3,8,4,5,6,7] Z Z ?_
  refine rn 3 Z<|rA Z λb49=>r_s (V2 [(Av b49 s37 s34 r32.2.2.1 r32.2.2.2.1),(Av b30 s18 s15 r13.2.2.1 r13.2.2.2.1),(Aw b3 (hi n) (lo n)),[(b2,35,(Ab m mv))],(Bj b29 x22_0 x23_1 x24_2 x25_3),(Bi b48 x45_0 x46_1 x47_2),S19,S16,S38,S35]) 0 _ _ _ _ _ (#[s37,s34,U r32.2.2.1,vI r32.2.2.2.1]) Z Z Z Z (.ofS Z Z (sS H39 (sS H36 (Ae Z (Ae Z AD))))) Z Z<|rz Z<|hK31 _ _ ?_
  refine CJ [(7,vP b30 0),(8,V5 56 (vP b29 0)),(9,vP b49 0),(10,V5 78 (vP b48 0))] Z (λT=> ?_)
  refine Aa λK50 hK50=>AZ Z<|JO Z ?_
  refine Ad<|kB hM λr53 hr54 hM=>gV _ (cF RF) (λo w z_=>Du N  _ hr54 z_.view)<|rz Z ?_
  cases hM
  exact aR eV1
 rintro _ _ ⟨s18,S19,_,H20,⟨s15,S16,_,H17,hp_,rfl⟩,rfl⟩
 obtain⟨b29,_,⟨rfl,rfl⟩,rfl⟩:=Aa0.onP_t78 hx21 hp_
 replace hM:=Aa0.on_t78 hx21 hM
 refine AK (Ls:=[(Aw b3 (hi n) (lo n)),[(b2,35,(Ab m mv))],S19,S16,(Bi b29 x26_0 x27_1 x28_2)]) (Ls':=[(Aw b3 (hi n) (lo n)),[(b2,35,(Ab m mv))],(Bi b29 x26_0 x27_1 x28_2),S19,S16]) [0,1,4,2,3] Z Z<|rn 3 Z<|rA Z λb30=>r_s (V2 [(Av b30 s18 s15 r13.2.2.1 r13.2.2.2.1),(Aw b3 (hi n) (lo n)),[(b2,35,(Ab m mv))],(Bi b29 x26_0 x27_1 x28_2),S19,S16]) 0 _ _ _ _ _ (#[s18,s15,U r13.2.2.1,vI r13.2.2.2.1]) Z Z Z Z (.ofS Z Z (sS H20 (sS H17 (Ae Z (Ae Z AD))))) Z Z<|rz Z<|hK12 _ _ ?_
 refine Aa λK31 hK31=>Ah<|rm 6 [2,1,1] Z<|r_X (U (hi n|||lo n)) Z (uR (hi n) (lo n)) Z<|kB hM λr32 hr33 hM=>gM (Ls:=[(Av b30 s18 s15 r13.2.2.1 r13.2.2.2.1),(Aw b3 (hi n) (lo n)),[(b2,35,(Ab m mv))],(Bi b29 x26_0 x27_1 x28_2),S19,S16]) (FL:=[]) [] (cF Xi) (λo w hn_ z_=>Ik N m egress _ _ hr33 _ mv (Aa2.mono (Fw (Ls:=[(Av b30 s18 s15 r13.2.2.1 r13.2.2.2.1),(Aw b3 (hi n) (lo n)),[(b2,35,(Ab m mv))],(Bi b29 x26_0 x27_1 x28_2),S19,S16]) (is:=[]) Z z_) hm)) ?_
 rcases Aa0.cases r32.2.2.2.2 with hx40|⟨x41_0,x42_1,x43_2,x44_3,hx40⟩|⟨x45_0,x46_1,x47_2,hx40⟩
 ·rintro _ _ ⟨s37,S38,_,H39,⟨s34,S35,_,H36,hp_,rfl⟩,rfl⟩
  obtain⟨rfl,rfl⟩:=Aa0.onP_nil hx40 hp_
  replace hM:=Aa0.on_nil hx40 hM
  refine AK (Ls:=[(Av b30 s18 s15 r13.2.2.1 r13.2.2.2.1),(Aw b3 (hi n) (lo n)),[(b2,35,(Ab m mv))],(Bi b29 x26_0 x27_1 x28_2),S19,S16,S38,S35]) (Ls':=[(Av b30 s18 s15 r13.2.2.1 r13.2.2.2.1),(Aw b3 (hi n) (lo n)),[(b2,35,(Ab m mv))],(Bi b29 x26_0 x27_1 x28_2),S19,S16,S38,S35]) [0,1,2,3,4,5,6,7] Z Z<|rn 3 Z<|rA Z λb48=>r_s (V2 [(Av b48 s37 s34 r32.2.2.1 r32.2.2.2.1),(Av b30 s18 s15 r13.2.2.1 r13.2.2.2.1),(Aw b3 (hi n) (lo n)),[(b2,35,(Ab m mv))],(Bi b29 x26_0 x27_1 x28_2),S19,S16,S38,S35]) 0 _ _ _ _ _ (#[s37,s34,U r32.2.2.1,vI r32.2.2.2.1]) Z Z Z Z (.ofS Z Z (sS H39 (sS H36 (Ae Z (Ae Z AD))))) Z Z<|rz Z<|hK31 _ _ ?_
  refine CJ [(7,vP b30 0),(8,V5 78 (vP b29 0)),(9,vP b48 0),(10,V6)] Z (λT=> ?_)
  refine Aa λK49 hK49=>AZ Z<|JO Z ?_
  refine Ad<|kB hM λr52 hr53 hM=>gV _ (cF RF) (λo w z_=>Du N  _ hr53 z_.view)<|rz Z ?_
  cases hM
  exact aR eV1
 ·rintro _ _ ⟨s37,S38,_,H39,⟨s34,S35,_,H36,hp_,rfl⟩,rfl⟩
  obtain⟨b48,_,⟨rfl,rfl⟩,rfl⟩:=Aa0.onP_t56 hx40 hp_
  replace hM:=Aa0.on_t56 hx40 hM
  refine AK (Ls:=[(Av b30 s18 s15 r13.2.2.1 r13.2.2.2.1),(Aw b3 (hi n) (lo n)),[(b2,35,(Ab m mv))],(Bi b29 x26_0 x27_1 x28_2),S19,S16,S38,S35,(Bj b48 x41_0 x42_1 x43_2 x44_3)]) (Ls':=[(Av b30 s18 s15 r13.2.2.1 r13.2.2.2.1),(Aw b3 (hi n) (lo n)),[(b2,35,(Ab m mv))],(Bi b29 x26_0 x27_1 x28_2),(Bj b48 x41_0 x42_1 x43_2 x44_3),S19,S16,S38,S35]) [0,1,2,3,8,4,5,6,7] Z Z ?_
  refine rn 3 Z<|rA Z λb49=>r_s (V2 [(Av b49 s37 s34 r32.2.2.1 r32.2.2.2.1),(Av b30 s18 s15 r13.2.2.1 r13.2.2.2.1),(Aw b3 (hi n) (lo n)),[(b2,35,(Ab m mv))],(Bi b29 x26_0 x27_1 x28_2),(Bj b48 x41_0 x42_1 x43_2 x44_3),S19,S16,S38,S35]) 0 _ _ _ _ _ (#[s37,s34,U r32.2.2.1,vI r32.2.2.2.1]) Z Z Z Z (.ofS Z Z (sS H39 (sS H36 (Ae Z (Ae Z AD))))) Z Z<|rz Z<|hK31 _ _ ?_
  refine CJ [(7,vP b30 0),(8,V5 78 (vP b29 0)),(9,vP b49 0),(10,V5 56 (vP b48 0))] Z (λT=> ?_)
  refine Aa λK50 hK50=>AZ Z<|JO Z ?_
  refine Ad<|kB hM λr53 hr54 hM=>gV _ (cF RF) (λo w z_=>Du N  _ hr54 z_.view)<|rz Z ?_
  cases hM
  exact aR eV1
 rintro _ _ ⟨s37,S38,_,H39,⟨s34,S35,_,H36,hp_,rfl⟩,rfl⟩
 obtain⟨b48,_,⟨rfl,rfl⟩,rfl⟩:=Aa0.onP_t78 hx40 hp_
 replace hM:=Aa0.on_t78 hx40 hM
 refine AK (Ls:=[(Av b30 s18 s15 r13.2.2.1 r13.2.2.2.1),(Aw b3 (hi n) (lo n)),[(b2,35,(Ab m mv))],(Bi b29 x26_0 x27_1 x28_2),S19,S16,S38,S35,(Bi b48 x45_0 x46_1 x47_2)]) (Ls':=[(Av b30 s18 s15 r13.2.2.1 r13.2.2.2.1),(Aw b3 (hi n) (lo n)),[(b2,35,(Ab m mv))],(Bi b29 x26_0 x27_1 x28_2),(Bi b48 x45_0 x46_1 x47_2),S19,S16,S38,S35]) [0,1,2,3,8,4,5,6,7] Z Z<|rn 3 Z ?_
 refine rA Z λb49=>r_s (V2 [(Av b49 s37 s34 r32.2.2.1 r32.2.2.2.1),(Av b30 s18 s15 r13.2.2.1 r13.2.2.2.1),(Aw b3 (hi n) (lo n)),[(b2,35,(Ab m mv))],(Bi b29 x26_0 x27_1 x28_2),(Bi b48 x45_0 x46_1 x47_2),S19,S16,S38,S35]) 0 _ _ _ _ _ (#[s37,s34,U r32.2.2.1,vI r32.2.2.2.1]) Z Z Z Z (.ofS Z Z (sS H39 (sS H36 (Ae Z (Ae Z AD))))) Z Z<|rz Z<|hK31 _ _ ?_
 refine CJ [(7,vP b30 0),(8,V5 78 (vP b29 0)),(9,vP b49 0),(10,V5 78 (vP b48 0))] Z (λT=> ?_)
 refine Aa λK50 hK50=>AZ Z<|JO Z ?_
 refine Ad<|kB hM λr53 hr54 hM=>gV _ (cF RF) (λo w z_=>Du N  _ hr54 z_.view)<|rz Z ?_
 cases hM
 exact aR eV1
end Go.Proofs.YtjnanfkpdhmnpaaGreatDoor
set_option linter.unusedSimpArgs false
set_option linter.unusedVariables false
namespace Go.Proofs.YtjnanfkpdhmnpaaGreatDoor
open Go Go.RowKit Go.Eng
theorem jK{N:Nat}{m:Ao}(hN:20000000<N)(hL:Lit m)(hR:Rg m):Tot (Gk N m):=by
 have h1:m.2.1.length<=1048576:=by have:=(hL.ti 1 (by omega)).2;simpa [BJ] using this
 have h4:m.2.2.2.2.1.length<=1048576:=by have:=(hL.ti 4 (by omega)).2;simpa [BJ] using this
 have h5:m.2.2.2.2.2.1.length<=1048576:=by have:=(hL.ti 5 (by omega)).2;simpa [BJ] using this
 have h6:m.2.2.2.2.2.2.1.length<=1048576:=by have:=(hL.ti 6 (by omega)).2;simpa [BJ] using this
 have il:=hL.il
 unfold Gk
 refine Tot.ck (by omega) (Tot.ck (by omega) (Tot.ck (by omega) (Tot.ck (by omega) (Tot.ck (by omega) (Tot.ck (by omega) (Tot.ite (λ_=>Tot.it _) (λ_=>(lJ hN hL hR).bind λ_ _=>Tot.it _)))))))
set_option maxRecDepth 100000 in
theorem RK:BE 20000001=some true:=by decide+kernel
theorem VX{m:Ao}(hL:Lit m)(hR:Rg m)(eg:Y3)(n:W3):Gr 20000001 m eg n=some true:=by
 have hN:20000000<20000001:=by decide
 obtain⟨q,e⟩:=jK hN hL hR
 obtain⟨r,r',e1,e2,h⟩:=kE (N:=20000001) hN hL hR eg (Sub.orl (hi n) (lo n))
 rw [Gr,e,q0]
 cases q with
 |false=>rw [V9 (by decide),RK];rfl
 |true=>
  rw [V8 Z,e1,q0]
  obtain⟨a,b,o,st,er⟩:=r
  obtain⟨a',b',o',st',er'⟩:=r'
  cases er with
  |nil=>
   obtain⟨p1,p2,p3⟩:=h Z
   have p1:er'= .nil:=p1
   have p2:Sub o o':=p2
   have p3:st=st':=p3
   subst p1 p3
   show(BM 20000001 m eg (hi n|||lo n)).bind _=some true
   rw [e2,q0]
   rw [Aa0.at_nil]
   show(IQ 20000001 o o').bind _=some true
   rw [IQ,Cr,q0,q0,p2.within,V8 Z]
   show CC 20000001 (st==st)=some true
   rw [beq_self_eq_true,CC,V8 Z,RK];rfl
  |t56 _ _ _ _=>
   show(BM 20000001 m eg (hi n|||lo n)).bind _=some true
   rw [e2,q0]
   cases er'<;>(show(BE 20000001).bind _=some true;rw [RK];rfl)
  |t78 _ _ _=>
   show(BM 20000001 m eg (hi n|||lo n)).bind _=some true
   rw [e2,q0]
   cases er'<;>(show(BE 20000001).bind _=some true;rw [RK];rfl)
end Go.Proofs.YtjnanfkpdhmnpaaGreatDoor
namespace Go.Eng
open Go Go.RowKit Go.ChangeShapes Go.WideShapes Go.ChangeAt Go.Joins Go.Deep Go.Proofs.YtjnanfkpdhmnpaaGreatDoor
section
variable {H:Type} {enc:TypeId×Y2->H} {P:Program} {W:World} {base:Nat} {held:Y3} {r:Reach} {b0:Nat} {t e:TypeId} {v:Y2} {d:DataW H} {p:Y0 MemPlace}
theorem qT(d:DataW H):1<=Rows.uptoBulk d:=by
 cases d with
 |lit l=>cases l<;>simp [Rows.uptoBulk]
 |nil=>simp [Rows.uptoBulk]
 |ptr d=>simp [Rows.uptoBulk]
 |slice elems spare=>simp [Rows.uptoBulk]
 |agg parts=>simp [Rows.uptoBulk]
 |iface t d=>simp [Rows.uptoBulk]
 |map entries=>simp [Rows.uptoBulk]
 |held h=>simp [Rows.uptoBulk]
theorem TK{l:Y0 (DataW H)}(h:d∈l):Rows.uptoBulk d<=Rows.uptoBulkAll l:=by
 induction l with
 |nil=>cases h
 |cons x r ih=>
  simp only [Rows.uptoBulkAll]
  rcases List.mem_cons.1 h with e|e
  ·subst e;omega
  ·have:=ih e;omega
theorem eP: ∀l:Y0 (DataW H),l.length<=Rows.uptoBulkAll l
 | []=>Nat.zero_le _
 |x::l=>by have:=eP l;have:=qT x;simp only [Rows.uptoBulkAll,zg];omega
theorem qU(l r:Y0 (DataW H)):Rows.uptoBulkAll (l++r)=Rows.uptoBulkAll l+Rows.uptoBulkAll r:=by
 induction l with
 |nil=>simp [Rows.uptoBulkAll]
 |cons x l ih=>simp only [List.cons_append,Rows.uptoBulkAll,ih];omega
def SdU(d:DataW H):Prop:=Rows.uptoBulk d<=1048576
theorem gU{ds gs:Y0 (DataW H)}(h:Rows.uptoBulkAll (ds++gs)<=1048576){j:Nat}(hd:ds[j]? =some d):SdU d:=by
 have h1:=TK (List.mem_of_getElem? hd)
 rw [qU] at h
 unfold SdU;omega
theorem rG{b:W2}(h:SdU (.lit (.string b):DataW H)):b.length<=1048576:=by
 unfold SdU at h;rw [Rows.uptoBulk] at h;omega
theorem rH{parts:Y0 (DataW H)}(h:SdU (.agg parts))(hm:d∈parts):SdU d:=by
 have h1:=TK hm
 unfold SdU at h ⊢;rw [Rows.uptoBulk] at h;omega
theorem fzU{enc:TypeId×Y2->H}{W:World}{fs:Array Field}{f:Field}{R:Prop}{n:Nat}{cs:Y0 Y2}{xs:Y0 (DataW H×Y0 MemPlace)}(hz:SdU (.agg (xs.map (·.1))))(hlen:xs.length=fs.size)(hf: ∀(i:Nat) (f:Field),fs[i]? =some f->DataW.trod enc P W 0 (λ_=>true) true n f.type ((cs.drop f.offset).take (P.cellsOf f.type))=xs[i]?)(i:Nat)(cs':Y0 Y2){m:Nat}(hi:fs[i]? =some f)(hc:P.cellsOf f.type=m)(hcs:(cs.drop f.offset).take m=cs')(O: ∀{y:DataW H×Y0 MemPlace},DataW.trod enc P W 0 (λ_=>true) true n f.type cs'=some y->SdU y.1->R):R:=by
 have h1:i<xs.length:=by rw [hlen];exact(Array.getElem?_eq_some_iff.1 hi).1
 have h2:=hf i f hi
 rw [hc,hcs,zv h1] at h2
 exact O h2 (rH hz (List.mem_map.2 ⟨_,List.getElem_mem h1,Z⟩))
theorem Sf{α:Type}[Inhabited α]{sz:Nat}(hsz:0<sz)(R:α->Y0 Y2->Prop)(ht:P.underlying t=some (.slice e))(hc:P.cellsOf e=sz)
  (hO: ∀n cs y,DataW.trod enc P W base (λ_=>true) held n e cs=some y->SdU y.1-> ∃x,R x cs) {fuel:Nat} {cs:Y0 Y2} {x:DataW H×Y0 MemPlace} (h:DataW.trod enc P W base (λ_=>true) held fuel t cs=some x) (hz:SdU x.1):
  ∃(s:Y2) (xs:Y0 α),cs=[s]/\xs.length<=1048576/\((s= .slice none 0 0/\xs=[])\/ ∃a cap,s= .slice (some a) xs.length cap/\(0<cap->a.spot=none)/\xs.length<=cap/\
   ∀i y,xs[i]? =some y-> ∃vs,R y vs/\vs.length=sz/\ ∀j u,vs[j]? =some u->W.cell? ⟨a.block,a.off+(i*sz+j),none⟩=some u):=by
 rcases open_slice ht h with⟨rfl,_⟩|⟨a,len,cap,m,n,D,Pl,rfl,hb,hl,hm,hmm,hxx,hx⟩
 ·exact⟨_,[],Z,Nat.zero_le _, .inl ⟨Z,Z⟩⟩
 ·have hmm':m=cap:=by simpa using hmm
  subst hmm'
  have hlm:len<=m:=by simpa using hl
  have hzz:Rows.uptoBulkAll ((List.range len).map D)+Rows.uptoBulkAll ((List.range (m - len)).map λj=>D (len+j))+1<=1048576:=by
   have h0:=hz
   unfold SdU at h0
   rw [hxx,Rows.uptoBulk] at h0
   exact h0
  have hel: ∀i,i<m->SdU (D i):=λi hi=>by
   unfold SdU
   by_cases h1:i<len
   ·have:=TK (List.mem_map.2 ⟨i,List.mem_range.2 h1,Z⟩:D i∈(List.range len).map D)
    omega
   ·have:=TK (List.mem_map.2 ⟨i - len,List.mem_range.2 (by omega),by rw [Nat.add_sub_cancel' (by omega)]⟩:D i∈(List.range (m - len)).map λj=>D (len+j))
    omega
  have hsp:0<m->a.spot=none:=λh0=>by
   obtain⟨cs',h1,_⟩:=hx 0 h0
   obtain⟨_,h2,h3⟩:=World.cells?_some h1
   rw [hc] at h2 h3
   have:=h3 0 hsz
   rw [Nat.zero_mul] at this
   have e1:(a.add 0).add 0=a:=by simp [Addr.add]
   rw [e1,zv (by omega)] at this
   exact kL this
  obtain⟨F,hF⟩:=choose_lt (α:=α) (n:=m) (p:=λi y=> ∃vs,R y vs/\vs.length=sz/\ ∀j u,vs[j]? =some u->W.cell? ⟨a.block,a.off+(i*sz+j),none⟩=some u) (λi hi=>by
   obtain⟨cs',h1,h2⟩:=hx i hi
   obtain⟨y,hy⟩:=hO n cs' _ h2 (hel i hi)
   obtain⟨_,h4,h3⟩:=World.cells?_some h1
   rw [hc] at h3 h4
   refine⟨y,cs',hy,h4,λj u hj=> ?_⟩
   have hj':j<sz:=by rw [<-h4];exact(List.getElem?_eq_some_iff.1 hj).1
   have h5:=h3 j hj'
   rw [add_add,Hj (hsp (by omega)),hj] at h5
   exact h5)
  refine⟨_,(List.range len).map F,Z, ?_, .inr ⟨a,m,by simp,hsp,by simpa using hl,λi y hy=> ?_⟩⟩
  ·rw [q9,List.length_range]
   have:=eP ((List.range len).map D)
   rw [q9,List.length_range] at this
   omega
  have hi:i<len:=by
   have:=(List.getElem?_eq_some_iff.1 hy).1
   simpa using this
  have:y=F i:=by
   simp [hi] at hy
   exact hy.symm
  subst this
  exact hF i (by omega)
theorem GR{α:Type}[Inhabited α](E:Enc α)(q:α->Prop)(ht:P.underlying t=some (.slice e))(hc:P.cellsOf e=E.sz) 
  (hO: ∀n cs y,DataW.trod enc P W base (λ_=>true) held n e cs=some y->SdU y.1-> ∃x,q x/\cs=E.f x) {fuel:Nat} {cs:Y0 Y2} {x:DataW H×Y0 MemPlace} (h:DataW.trod enc P W base (λ_=>true) held fuel t cs=some x) (hz:SdU x.1):
  ∃(s:Y2) (xs:Y0 α),cs=[s]/\(xs.length<=1048576/\ ∀x∈xs,q x)/\Rd E (λa=>W.cell? a) s xs:=by
 obtain⟨s,xs,h1,hl,h2⟩:=Sf (sz:=E.sz) E.pos (λx cs=>q x/\cs=E.f x) ht hc hO h hz
 refine⟨s,xs,h1,⟨hl, ?_⟩, ?_⟩
 ·rcases h2 with h2|⟨a,cap,h2,h3,h4,h5⟩
  ·rw [h2.2];intro x hx;cases hx
  ·intro x hx
   obtain⟨i,hi⟩:=List.getElem?_of_mem hx
   obtain⟨_,h6,_⟩:=h5 i x hi
   exact h6.1
 rcases h2 with h2|⟨a,cap,h2,h3,h4,h5⟩
 ·exact .inl h2
 ·refine .inr ⟨a,cap,h2,h3,h4,λk u hk=> ?_⟩
  have hk2:k<xs.length*E.sz:=by rw [<-E.all_len];exact(List.getElem?_eq_some_iff.1 hk).1
  have hi:k / E.sz<xs.length:=Nat.div_lt_of_lt_mul (by rw [Nat.mul_comm];exact hk2)
  obtain⟨vs,⟨_,h6⟩,_,h7⟩:=h5 (k / E.sz) _ (zv hi)
  subst h6
  have hj:k%E.sz<(E.f xs[k / E.sz]).length:=by rw [E.len];exact Nat.mod_lt _ E.pos
  have h8:=E.all_get (zv hi) (k%E.sz) _ (zv hj)
  have e1:k / E.sz*E.sz+k%E.sz=k:=by rw [Nat.mul_comm];exact Nat.div_add_mod k E.sz
  have h9:=h7 (k%E.sz) _ (zv hj)
  rw [e1] at h8 h9
  rw [h8] at hk
  cases hk
  exact h9
theorem Mj{α:Type}[Inhabited α](E:QT α)(q:α->Prop)(ht:P.underlying t=some (.slice e))(hc:P.cellsOf e=E.sz) 
  (hO: ∀n cs y,DataW.trod enc P W base (λ_=>true) held n e cs=some y->SdU y.1-> ∃x,q x/\E.R (λa=>W.cell? a) x cs) {fuel:Nat} {cs:Y0 Y2} {x:DataW H×Y0 MemPlace} (h:DataW.trod enc P W base (λ_=>true) held fuel t cs=some x) (hz:SdU x.1):
  ∃(s:Y2) (xs:Y0 α),cs=[s]/\(xs.length<=1048576/\ ∀x∈xs,q x)/\RdN E (λa=>W.cell? a) s xs:=by
 obtain⟨s,xs,h1,hl,h2⟩:=Sf (sz:=E.sz) E.pos (λx cs=>q x/\E.R (λa=>W.cell? a) x cs) ht hc hO h hz
 refine⟨s,xs,h1,⟨hl, ?_⟩, ?_⟩
 ·rcases h2 with h2|⟨a,cap,h2,h3,h4,h5⟩
  ·rw [h2.2];intro x hx;cases hx
  ·intro x hx
   obtain⟨i,hi⟩:=List.getElem?_of_mem hx
   obtain⟨_,h6,_⟩:=h5 i x hi
   exact h6.1
 rcases h2 with h2|⟨a,cap,h2,h3,h4,h5⟩
 ·exact .inl h2
 ·exact .inr ⟨a,cap,h2,h3,h4,λi y hy=>by obtain⟨vs,h6,_,h7⟩:=h5 i y hy;exact⟨vs,h6.2,h7⟩⟩
theorem eQ{fs:Array Field}{Q:Y0 Y2->Prop}(ht:P.underlying t=some (.struct fs))(hv:Value.okWide P W r b0 t v)(h:DataW.Trod enc P W base (λ_=>true) held t v d p)(hz:SdU d)(hq: ∀fuel cs y,DataW.trod enc P W base (λ_=>true) held fuel t cs=some y->SdU y.1->Q cs): ∃cs:Y0 Y2,v= .agg ⟨cs⟩/\Q cs:=by
 have hv':=hv
 simp only [Value.okWide,ht] at hv'
 obtain⟨cs,rfl,_,_⟩:=hv'
 obtain⟨fuel,hf⟩:=h
 exact⟨cs.toList,Z,hq fuel _ _ hf hz⟩
theorem gz{n:Nat}{Q:Y0 Y2->Prop}(ht:P.underlying t=some (.array n e))(hv:Value.okWide P W r b0 t v)(h:DataW.Trod enc P W base (λ_=>true) held t v d p)(hz:SdU d)(hq: ∀fuel cs y,DataW.trod enc P W base (λ_=>true) held fuel t cs=some y->SdU y.1->Q cs): ∃cs:Y0 Y2,v= .agg ⟨cs⟩/\Q cs:=by
 have hv':=hv
 simp only [Value.okWide,ht] at hv'
 obtain⟨cs,rfl,_,_⟩:=hv'
 obtain⟨fuel,hf⟩:=h
 exact⟨cs.toList,Z,hq fuel _ _ hf hz⟩
end
end Go.Eng
