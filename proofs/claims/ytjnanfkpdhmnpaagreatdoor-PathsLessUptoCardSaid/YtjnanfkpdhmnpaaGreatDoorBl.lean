import Derived.Test.YtjnanfkpdhmnpaaGreatDoorBk
namespace Go.Proofs.YtjnanfkpdhmnpaaGreatDoor
open Go Go.RowKit Go.Eng _root_.Go.Proofs.Tryz
set_option linter.unusedSimpArgs false
set_option linter.unusedVariables false
set_option maxRecDepth 100000
set_option maxHeartbeats 80000000
abbrev DK(b:Nat)(x0 x1 x2 x3:Int):Y0 Bl:=[(b,58, #[vI x0,vI x1,vI x2,vI x3])]
abbrev DJ(b:Nat)(x0 x1 x2:Int):Y0 Bl:=[(b,80, #[vI x0,vI x1,vI x2])]
abbrev mP(b:Nat)(x0:W2)(x1 x2 x3 x4 x5 x6 x7 x8 x9 x10 x11 x12 x13 x14:Y2)(x15 x16 x17:Int)(x18:Y2):Y0 Bl:=[(b,273, #[vS x0,x1,x2,x3,x4,x5,x6,x7,x8,x9,x10,x11,x12,x13,x14,vI x15,vI x16,vI x17,x18])]
abbrev IK(b:Nat)(m:Ao)(v:AC)(x:Y2):Y0 Bl:=mP b m.1 v.1 v.2.1 v.2.2.1 v.2.2.2.1 v.2.2.2.2.1 v.2.2.2.2.2.1 v.2.2.2.2.2.2.1 v.2.2.2.2.2.2.2.1 v.2.2.2.2.2.2.2.2.1 v.2.2.2.2.2.2.2.2.2.1 v.2.2.2.2.2.2.2.2.2.2.1 v.2.2.2.2.2.2.2.2.2.2.2.1 v.2.2.2.2.2.2.2.2.2.2.2.2.1 v.2.2.2.2.2.2.2.2.2.2.2.2.2 m.2.2.2.2.2.2.2.2.2.2.2.2.2.2.2.1 m.2.2.2.2.2.2.2.2.2.2.2.2.2.2.2.2.1 m.2.2.2.2.2.2.2.2.2.2.2.2.2.2.2.2.2 x
abbrev GK(b:Nat)(x0:W2)(x1:Int)(x2 x3:Y2)(x4:Int)(x5:Y2)(x6:Int):Y0 Bl:=[(b,111, #[vS x0,vI x1,x2,x3,vI x4,x5,vI x6])]
abbrev sI(b:Nat)(x0 x1:Int)(x2 x3:Y2)(x4 x5:Int):Y0 Bl:=[(b,88, #[vI x0,vI x1,x2,x3,vI x4,vI x5])]
abbrev Bz(b:Nat)(v1:Int×Int×Y0 (W1)×Y0 (Int×W3)×Int×Int)(v2 v3:Y2):Y0 Bl:=sI b v1.1 v1.2.1 v2 v3 v1.2.2.2.2.1 v1.2.2.2.2.2
def DI(N:Nat)(m:Ao)(b:(Y0 Aa1)×Int×Int):Nat->Int->Y0 (Y3×W4)->Y1 ((W4)×Int×Int)
  |0,_,_=>none
  |e+1,a,d=>if a<b.2.1 then ck (0<=a/\a<(b.1.length:Int)) ((Ce N m d a ((b.1)[a.toNat]!)).bind λc=>ck ((c.2).length=(d).length) (if(c.1:Int)≠0 then some (0#64,a,c.1)else ck (R64 (a+1)) ((DI N m b e) (a+1) c.2)))else ck (0<=b.2.1/\b.2.1<(d.length:Int)) (some ((d[(b.2.1).toNat]!).2,0,0))
def JT(N:Nat)(m:Ao)(c:Y0 (W1))(s:W4):Y1 ((W4)×Int×Int):=(RR N c).bind λa=>ck (R64 (a.2.1+1)) (ck (0<=(a.2.1+1)/\(a.2.1+1)<=8796093022208) ((AT N m (List.replicate ((a.2.1+1)).toNat ((false,0#64):(Y3×W4))) 0 s).bind λb=>ck ((b).length=((List.replicate ((a.2.1+1)).toNat ((false,0#64):(Y3×W4)))).length) (DI N m a N 0 b)))
def HF(N:Nat)(m:Ao)(c:Y0 (W1))(s:W4):Y1 ((W4)×Int×Int):=(JF N m).bind λb=>Aa0.on b ((Gq N).bind λa=>(HY N m a c).bind λd=>if(d:Int)≠0 then some (0#64,0,1)else JT N m c s) (λ_ _ _ _=>some (0#64,0,1)) (λ_ _ _=>some (0#64,0,1))
theorem WT(N m O s r)(b:HF N m O s=some r)(ro)(a:AC)(j:Aa2 ro a m)(E)(ai:Rd Ad5 ro E O):DoesI prog 107 #[vA (Ab m a),E,U s] Gt ro [] (pV (vT #[U r.1,vI r.2.1,vI r.2.2])):=by
 unfold HF at b
 refine Bq follows func107 Z 61 Z _ fz3 Bm (λaj=> ?_)
 refine Ad<|rA Z λi=>rz Z<|Cs (λtt ll=>(JT N m O s  =some r)/\Is [(1,E),(2,U s),(3,vP i 0)] [(i,35,(Ab m a))] tt ll) ?_ ?_
 ·refine Aa λay y=> ?_
  refine BO [(some 16,true),(some 20,false),(some 22,false)] (conG prog [(16,λ_ _ v_ L_ U_=> ∀h,JF N m=some h->(pO (V2 []) (Aa0.onP h (oE V6 []) (λy0_0 y0_1 y0_2 y0_3=>(oB 58 #[vI y0_0,vI y0_1,vI y0_2,vI y0_3] λbs_0=>(oE (V5 56 (vP bs_0 0)) []))) (λy0_0 y0_1 y0_2=>(oB 80 #[vI y0_0,vI y0_1,vI y0_2] λbs_0=>(oE (V5 78 (vP bs_0 0)) []))))) v_ L_ U_),(20,λ_ _ v_ L_ U_=> ∀h,Gq N  =some h->(p1 (λs_=>s_) 3 Ca h) v_ L_ U_),(22,λ_ _ v_ L_ U_=> ∀h,Gq N  =some h-> ∀P,HY N m h O=some P->(pV (vI P)) v_ L_ U_)]) [] (by decide+kernel) (λhn=>AN) ?_
  refine rm 1 [0] Z<|kB b λak H b=>ci (Ls:=[[(i,35,(Ab m a))]]) (FL:=[]) [] _ (some 16) 10 _ Z Z Z Z Z (cF jp) (λo w hn_ z_=>Tp N m _ H _ a (Aa2.mono (Fw (Ls:=[[(i,35,(Ab m a))]]) (is:=[]) Z z_) j)) (Hq H) (λ_=>(Ac2.sub (R:=[]) (Aa0.niceP (Oe Z) (λ_ _ _ _=>(Td λ_=>(Oe Z))) (λ_ _ _=>(Td λ_=>(Oe Z)))) (W5 [] [] Z))) ?_
  rintro _ _ hp_
  rcases Aa0.cases ak with g|⟨x47_0,x48_1,x49_2,x50_3,g⟩|⟨x51_0,x52_1,x53_2,g⟩
  ·obtain⟨rfl,rfl⟩:=Aa0.onP_nil g hp_
   replace b:=Aa0.on_nil g b
   refine AK (Ls:=[[(i,35,(Ab m a))]]) (Ls':=[[(i,35,(Ab m a))]]) [0] Z Z<|rn 2 Z<|r_y Z<|rm 1 [0] Z<|r_y Z<|kB b λQ x b=>cj (Ls:=[[(i,35,(Ab m a))]]) (λK=>K) 3 Ca Q 181 _ Z Z Z (cF pK) (λo w z_=>(V3 (Ut N  _ x z_.view) _)) (Hq x) (λK S al=> ?_)
   refine rn 1 Z<|r_y Z<|kB b λaz z b=>rg _ (cF Xs) (λo w z_=>Rs N m Q O _ z z_.view a (Aa2.mono z_.ro_cell j) K ((AB al (Al (Ls:=[[(i,35,(Ab m a))],S]) (k:=1) Z Z)) o w z_) E ((Ay ai) o w z_)) (λ_ _ v_ L_ U_=>⟨λh_=>h_ _ x _ z,λh_=>by intro _ e_;cases q3 (e_.symm.trans x);intro _ e_;cases q3 (e_.symm.trans z);exact h_⟩) ?_
   refine rz Z<|y _ _ ?_
   refine aN b Z (λV b=> ?_) (λV b=> ?_)
   ·refine AZ Z ?_
    cases b
    exact aR eV3
   refine Ac<|fg _ (W5 [[(i,35,(Ab m a))],S] [0] Z) ?_
   exact⟨b,Ag Z Z⟩
  ·obtain⟨A,_,⟨rfl,rfl⟩,rfl⟩:=Aa0.onP_t56 g hp_
   replace b:=Aa0.on_t56 g b
   refine AK (Ls:=[[(i,35,(Ab m a))],(DK A x47_0 x48_1 x49_2 x50_3)]) (Ls':=[[(i,35,(Ab m a))],(DK A x47_0 x48_1 x49_2 x50_3)]) [0,1] Z Z<|rz Z<|y _ _ ?_
   refine JO Z ?_
   refine AZ Z ?_
   cases b
   exact aR eV3
  obtain⟨A,_,⟨rfl,rfl⟩,rfl⟩:=Aa0.onP_t78 g hp_
  replace b:=Aa0.on_t78 g b
  refine AK (Ls:=[[(i,35,(Ab m a))],(DJ A x51_0 x52_1 x53_2)]) (Ls':=[[(i,35,(Ab m a))],(DJ A x51_0 x52_1 x53_2)]) [0,1] Z Z<|rz Z<|y _ _ ?_
  refine JO Z ?_
  refine AZ Z ?_
  cases b
  exact aR eV3
 clear b;rintro t l ⟨b,⟨T,rfl⟩,rfl⟩
 unfold JT at b
 refine Ad<|rn 1 Z<|kB b λM am b=>gS (Ls:=[[(i,35,(Ab m a))]]) (cF eA) (λo w z_=>(V3 (ja N O _ am z_.view E ((Ay ai) o w z_)) _)) (λs6 p H8=> ?_)
 refine rz Z<|Aa λK9 an=>BO [(some 34,false)] (conG prog [(34,λ_ _ v_ L_ U_=>(p1 (λv=>v) 279 LM (List.replicate ((M.2.1+1)).toNat ((false,0#64):(Y3×W4)))) v_ L_ U_)]) [] (by decide+kernel) (λhn=>AN)<|rm 2 [0] Z<|kC b λW b=>rX W Z<|kC b λX b=>Ta (Ls:=[[(i,35,(Ab m a))],p]) 279 LM (false,0#64) (M.2.1+1) Z Z Z Z Z Z Z Z Z Z 8796093022208 Z X (λ_ _ _ _ _=>Iff.rfl) (λd B L=> ?_)
 refine r_W (vA #[vS m.1,a.1,a.2.1,a.2.2.1,a.2.2.2.1,a.2.2.2.2.1,a.2.2.2.2.2.1,a.2.2.2.2.2.2.1,a.2.2.2.2.2.2.2.1,(D8 a).1,(D8 a).2.1,(D8 a).2.2.1,(D8 a).2.2.2.1,(D8 a).2.2.2.2.1,(D8 a).2.2.2.2.2,vI (D8 m).2.2.2.2.2.2.2.1,vI (D16 m).1,vI (D16 m).2,d]) Z (MM Z Z Z (FJ (c:=(Ab m a)) Z (FJ (CR Z (W7 L)) Qp)) (by kernel_rfl))<|rA Z λf=>ZX (V2 [(IK f m a d),[(i,35,(Ab m a))],p,B]) 0 _ _ _ (#[V4 (⟨#[]⟩),nS,nS,nS,nS,nS,nS,nS,nS,nS,nS,nS,nS,nS,nS,vI 0,vI 0,vI 0,nS]) (#[vS m.1,a.1,a.2.1,a.2.2.1,a.2.2.2.1,a.2.2.2.2.1,a.2.2.2.2.2.1,a.2.2.2.2.2.2.1,a.2.2.2.2.2.2.2.1,(D8 a).1,(D8 a).2.1,(D8 a).2.2.1,(D8 a).2.2.2.1,(D8 a).2.2.2.2.1,(D8 a).2.2.2.2.2,vI (D8 m).2.2.2.2.2.2.2.1,vI (D16 m).1,vI (D16 m).2,d]) (#[vS m.1,a.1,a.2.1,a.2.2.1,a.2.2.2.1,a.2.2.2.2.1,a.2.2.2.2.2.1,a.2.2.2.2.2.2.1,a.2.2.2.2.2.2.2.1,(D8 a).1,(D8 a).2.1,(D8 a).2.2.1,(D8 a).2.2.2.1,(D8 a).2.2.2.2.1,(D8 a).2.2.2.2.2,vI (D8 m).2.2.2.2.2.2.2.1,vI (D16 m).1,vI (D16 m).2,d]) Z Z Z Z Z (.ofS Z Z (Ae Z (sN j.1 (sR j.2.1 (sR j.2.2.1 (sN j.2.2.2.1 (sN j.2.2.2.2.1 (sN j.2.2.2.2.2.1 (sN j.2.2.2.2.2.2.1 (sN j.2.2.2.2.2.2.2.1 (sR j.2.2.2.2.2.2.2.2.1 (sR j.2.2.2.2.2.2.2.2.2.1 (sR j.2.2.2.2.2.2.2.2.2.2.1 (sR j.2.2.2.2.2.2.2.2.2.2.2.1 (sR j.2.2.2.2.2.2.2.2.2.2.2.2.1 (sR j.2.2.2.2.2.2.2.2.2.2.2.2.2 (Ae Z (Ae Z (Ae Z (sS L AD)))))))))))))))))))) Z Z ?_
 refine Aj<|an _ _ ?_
 refine Ad<|rm 2 [0] Z<|kB b λao Y b=>kC b λax b=>gM (Ls:=[(IK f m a d),[(i,35,(Ab m a))],p,B]) (FL:=[B]) [3] (cF TJ) (λo w hn_ z_=>(V3 (HW N m _ 0 s _ Y _ a (Aa2.mono (Fw (Ls:=[(IK f m a d),[(i,35,(Ab m a))],p,B]) (is:=[3]) Z z_) j) d B L) _)) ?_
 rintro _ _ ⟨F,_,ap,⟨rfl,rfl⟩,rfl⟩
 refine AK (Ls:=[(IK f m a d),[(i,35,(Ab m a))],p,F]) (Ls':=[(IK f m a d),[(i,35,(Ab m a))],p,F]) [0,1,2,3] Z Z ?_
 refine Aj<|Aa λbb aa=>AZ Z<|Ai<|BF _ (W5 [(IK f m a d),[(i,35,(Ab m a))],p,F] [0,2,3] Z) ?_
 refine AL (λtt ll nn=> ∃(q:Nat) (u:Int) (C:Y0 (Y3×W4)),(DI N m M q u C=some r)/\ ∃(e:Y0 Bl),Sl 279 LM d C e/\Is [(9,s6),(10,vI M.2.1),(12,vP f 0),(39,vI M.2.1),(40,vI u)] (V2 [(IK f m a d),p,e]) tt ll/\nn=q+1) (N+1) ?_ ?_
 ·exact⟨N,0,ao,b,F,ap,Ag Z Z,Z⟩
 clear b;rintro t l _ ⟨q,u,C,b,e,n,⟨⟨T,rfl⟩,rfl⟩,rfl⟩
 rcases q with _|q
 ·exact absurd b (by simp [DI])
 rw [DI] at b
 refine AZ Z<|Aa λbc ab=>aD b Z (λac b=> ?_) (λac b=> ?_)
 ·refine Ac<|ab _ _ ?_
  refine Aa λbd ad=>Ai<|AZ Z<|Aa λbe ae=>BO [(some 49,true)] (conG prog [(49,λ_ _ v_ L_ U_=> ∀h,Ce N m C u ((M.1)[u.toNat]!)=some h->(pO (V2 [e]) (oI 279 LM d h.2 (oE (vI h.1) []))) v_ L_ U_)]) [] (by decide+kernel) (λhn=>AN) ?_
  refine rm 4 [0] Z<|kC b λI b=>rI (W7 H8) I Z<|rE (AB H8 (Al (Ls:=[(IK f m a d),p,e]) (k:=1) Z Z)) I 0 Z<|kB b λaq J b=>kC b λaf b=>ci (Ls:=[(IK f m a d),p,e]) (FL:=[e]) [2] _ (some 49) 184 _ Z Z Z Z Z (cF pJ) (λo w hn_ z_=>(V3 (QS N m C u _ _ J _ a (Aa2.mono (Fw (Ls:=[(IK f m a d),p,e]) (is:=[2]) Z z_) j) d e n) _)) (Hq J) (λ_=>(Ac2.sub (R:=(e++ [])) (vc n af (Oe Z)) (W5 [e] [0] Z))) ?_
  rintro _ _ ⟨G,_,ar,⟨rfl,rfl⟩,rfl⟩
  refine AK (Ls:=[(IK f m a d),p,G]) (Ls':=[(IK f m a d),p,G]) [0,1,2] Z Z ?_
  refine rz Z<|ae _ _ ?_
  refine AZ Z<|aN b Z (λag b=> ?_) (λag b=> ?_)
  ·refine AZ Z ?_
   cases b
   exact aR eV3
  refine Ac<|ad _ _ ?_
  refine Ah<|kC b λah b=>rX ah Z<|rz Z<|fg _ (W5 [(IK f m a d),p,G] [0,1,2] Z) ?_
  exact⟨q+1,by omega,q,(u+1),aq.2,b,G,ar,Ag Z Z,Z⟩
 refine AM<|aa _ _ ?_
 refine Ad<|rm 3 [0] Z<|kC b λD b=>rI (W7 n) D Z<|rF (W7 n) (Bp D) Z ?_
 refine rE (AB n (Al (Ls:=[(IK f m a d),p,e]) (k:=2) Z Z)) D 1 Z<|rz Z ?_
 cases b
 exact aR eV3
def Bu(N:Nat)(a:LC)(i n:Int)(l:Y0 (W1))(s:W4):Y1 ((W4)×Aa0):=(HF N (a.2.2.2.2.2.2.2.2.2.2.2.2.2.2.2.2.2.2.1,a.2.2.2.2.2.2.2.2.2.2.2.2.2.2.2.2.2.2.2.1,a.2.2.2.2.2.2.2.2.2.2.2.2.2.2.2.2.2.2.2.2.1,a.2.2.2.2.2.2.2.2.2.2.2.2.2.2.2.2.2.2.2.2.2.1,a.2.2.2.2.2.2.2.2.2.2.2.2.2.2.2.2.2.2.2.2.2.2.1,a.2.2.2.2.2.2.2.2.2.2.2.2.2.2.2.2.2.2.2.2.2.2.2.1,(D16 a).2.2.2.2.2.2.2.2.1,(D16 a).2.2.2.2.2.2.2.2.2.1,(D16 a).2.2.2.2.2.2.2.2.2.2.1,(D16 a).2.2.2.2.2.2.2.2.2.2.2.1,(D16 a).2.2.2.2.2.2.2.2.2.2.2.2.1,(D16 a).2.2.2.2.2.2.2.2.2.2.2.2.2.1,(D16 a).2.2.2.2.2.2.2.2.2.2.2.2.2.2.1,(D16 a).2.2.2.2.2.2.2.2.2.2.2.2.2.2.2.1,(D16 (D16 a)).1,(D16 (D16 a)).2.1,(D16 (D16 a)).2.2.1,(D16 (D16 a)).2.2.2.1) l s).bind λj=>if(j.2.2:Int)≠0 then(MV N i n j.2.1).bind λk=>Aa0.on k (some (0#64, .nil)) (λb c h e=>some (0#64,(.t56 b c h e))) (λd f g=>some (0#64,(.t78 d f g)))else some (j.1, .nil)
theorem Ml(N f g n v s r)(e:Bu N f g n v s=some r)(x)(a:QI)(b:Ae9 x a f)(j)(y:Rd Ad5 x j v):DoesI prog 46 #[vA (Bc f a),vI g,vI n,j,U s] Gt x [] (pO [] (Aa0.onP r.2 (oE (vT #[U r.1,V6]) []) (λy0_0 y0_1 y0_2 y0_3=>(oB 58 #[vI y0_0,vI y0_1,vI y0_2,vI y0_3] λbs_0=>(oE (vT #[U r.1,V5 56 (vP bs_0 0)]) []))) (λy0_0 y0_1 y0_2=>(oB 80 #[vI y0_0,vI y0_1,vI y0_2] λbs_0=>(oE (vT #[U r.1,V5 78 (vP bs_0 0)]) []))))):=by
 unfold Bu at e
 refine BZ follows func46 Z 30 Z _ fz5 Bm (λl=> ?_)
 refine Ad<|rA Z λh=>rz Z<|Ad<|rn 1 Z ?_
 refine rm 1 [0] Z ?_
 refine rn 2 Z<|kB e λz m e=>gV _ (cF qN) (λo w z_=>WT N _ v s _ m z_.view ((D8 a).2.2.2.2.2.2.1,(D8 a).2.2.2.2.2.2.2.1,(D16 a).1,(D16 a).2.1,(D16 a).2.2.1,(D16 a).2.2.2.1,(D16 a).2.2.2.2.1,(D16 a).2.2.2.2.2.1,(D16 a).2.2.2.2.2.2.1,(D16 a).2.2.2.2.2.2.2.1,(D16 a).2.2.2.2.2.2.2.2.1,(D16 a).2.2.2.2.2.2.2.2.2.1,(D16 a).2.2.2.2.2.2.2.2.2.2.1,(D16 a).2.2.2.2.2.2.2.2.2.2.2.1) ⟨(V1 z_.ro_cell b.2.2.2.2.2.2.2.2.2.2.2.2.2.2.1),((Ay b.2.2.2.2.2.2.2.2.2.2.2.2.2.2.2.1) o w z_),((Ay b.2.2.2.2.2.2.2.2.2.2.2.2.2.2.2.2.1) o w z_),(V1 z_.ro_cell b.2.2.2.2.2.2.2.2.2.2.2.2.2.2.2.2.2.1),(V1 z_.ro_cell b.2.2.2.2.2.2.2.2.2.2.2.2.2.2.2.2.2.2.1),(V1 z_.ro_cell b.2.2.2.2.2.2.2.2.2.2.2.2.2.2.2.2.2.2.2.1),(V1 z_.ro_cell b.2.2.2.2.2.2.2.2.2.2.2.2.2.2.2.2.2.2.2.2.1),(V1 z_.ro_cell b.2.2.2.2.2.2.2.2.2.2.2.2.2.2.2.2.2.2.2.2.2.1),((Ay b.2.2.2.2.2.2.2.2.2.2.2.2.2.2.2.2.2.2.2.2.2.2.1) o w z_),((Ay b.2.2.2.2.2.2.2.2.2.2.2.2.2.2.2.2.2.2.2.2.2.2.2.1) o w z_),((Ay b.2.2.2.2.2.2.2.2.2.2.2.2.2.2.2.2.2.2.2.2.2.2.2.2.1) o w z_),((Ay b.2.2.2.2.2.2.2.2.2.2.2.2.2.2.2.2.2.2.2.2.2.2.2.2.2.1) o w z_),((Ay b.2.2.2.2.2.2.2.2.2.2.2.2.2.2.2.2.2.2.2.2.2.2.2.2.2.2.1) o w z_),((Ay b.2.2.2.2.2.2.2.2.2.2.2.2.2.2.2.2.2.2.2.2.2.2.2.2.2.2.2.1) o w z_)⟩ j ((Ay y) o w z_)) ?_
 refine rz Z<|Aa λA p=>AZ Z<|aN e Z (λq e=> ?_) (λq e=> ?_)
 ·refine Aa λB i=>Ah<|rn 3 Z<|kB e λt k e=>gM (Ls:=[[(h,61,(Bc f a))]]) (FL:=[]) [] (cF eO) (λo w hn_ z_=>(V3 (Sg N g n z.2.1 _ k _) _)) ?_
  rcases Aa0.cases t with d|⟨x13_0,x14_1,x15_2,x16_3,d⟩|⟨x17_0,x18_1,x19_2,d⟩
  ·rintro _ _ hp_
   obtain⟨rfl,rfl⟩:=Aa0.onP_nil d hp_
   replace e:=Aa0.on_nil d e
   refine AK (Ls:=[[(h,61,(Bc f a))]]) (Ls':=[[(h,61,(Bc f a))]]) [0] Z Z<|rz Z<|i _ _ ?_
   cases e
   refine AU (λu=>CI (v0:=vT #[U (0#64),V6]) (O:=[]) (Jg Z Z) (Sub.nil _) ⟨Z,Z⟩)
  ·rintro _ _ hp_
   obtain⟨c,_,⟨rfl,rfl⟩,rfl⟩:=Aa0.onP_t56 d hp_
   replace e:=Aa0.on_t56 d e
   refine AK (Ls:=[[(h,61,(Bc f a))],(DK c x13_0 x14_1 x15_2 x16_3)]) (Ls':=[[(h,61,(Bc f a))],(DK c x13_0 x14_1 x15_2 x16_3)]) [0,1] Z Z<|rz Z<|i _ _ ?_
   cases e
   refine AU (λu=>CI (v0:=vT #[U (0#64),V5 56 (vP c 0)]) (O:=[(DK c x13_0 x14_1 x15_2 x16_3)]) (Jg Z Z) (W5 [[(h,61,(Bc f a))],(DK c x13_0 x14_1 x15_2 x16_3)] [1] Z) ⟨c,_,⟨Z,Z⟩,Z⟩)
  rintro _ _ hp_
  obtain⟨c,_,⟨rfl,rfl⟩,rfl⟩:=Aa0.onP_t78 d hp_
  replace e:=Aa0.on_t78 d e
  refine AK (Ls:=[[(h,61,(Bc f a))],(DJ c x17_0 x18_1 x19_2)]) (Ls':=[[(h,61,(Bc f a))],(DJ c x17_0 x18_1 x19_2)]) [0,1] Z Z<|rz Z<|i _ _ ?_
  cases e
  refine AU (λu=>CI (v0:=vT #[U (0#64),V5 78 (vP c 0)]) (O:=[(DJ c x17_0 x18_1 x19_2)]) (Jg Z Z) (W5 [[(h,61,(Bc f a))],(DJ c x17_0 x18_1 x19_2)] [1] Z) ⟨c,_,⟨Z,Z⟩,Z⟩)
 refine Ac<|p _ _ ?_
 refine AZ Z ?_
 cases e
 refine AU (λu=>CI (v0:=vT #[U z.1,V6]) (O:=[]) (Jg Z Z) (Sub.nil _) ⟨Z,Z⟩)
def Cb(N:Nat)(j:LC)(a:Int)(s:W4):Y1 ((W4)×Aa0):=ck (0<=a/\a<(j.2.2.2.2.2.1.length:Int)) ((Bu N j 5 a ((j.2.2.2.2.2.1)[a.toNat]!.2.2) s).bind λb=>Aa0.on b.2 (some (b.1, .nil)) (λc d i f=>some (b.1,(.t56 c d i f))) (λe g h=>some (b.1,(.t78 e g h))))
theorem LU(N e a s r)(f:Cb N e a s=some r)(u)(b:QI)(j:Ae9 u b e):DoesI prog 47 #[vA (Bc e b),vI a,U s] Gt u [] (pO [] (Aa0.onP r.2 (oE (vT #[U r.1,V6]) []) (λy0_0 y0_1 y0_2 y0_3=>(oB 58 #[vI y0_0,vI y0_1,vI y0_2,vI y0_3] λbs_0=>(oE (vT #[U r.1,V5 56 (vP bs_0 0)]) []))) (λy0_0 y0_1 y0_2=>(oB 80 #[vI y0_0,vI y0_1,vI y0_2] λbs_0=>(oE (vT #[U r.1,V5 78 (vP bs_0 0)]) []))))):=by
 unfold Cb at f
 refine BZ follows func47 Z 21 Z _ fz3 Bm (λn=> ?_)
 refine Ad<|rA Z λg=>rz Z<|Aa λy l=>BO [(some 18,true)] (conG prog [(18,λ_ _ v_ L_ U_=> ∀h,Bu N e 5 a ((e.2.2.2.2.2.1)[a.toNat]!.2.2) s=some h->(pO (V2 []) (Aa0.onP h.2 (oE (vT #[U h.1,V6]) []) (λy0_0 y0_1 y0_2 y0_3=>(oB 58 #[vI y0_0,vI y0_1,vI y0_2,vI y0_3] λbs_0=>(oE (vT #[U h.1,V5 56 (vP bs_0 0)]) []))) (λy0_0 y0_1 y0_2=>(oB 80 #[vI y0_0,vI y0_1,vI y0_2] λbs_0=>(oE (vT #[U h.1,V5 78 (vP bs_0 0)]) []))))) v_ L_ U_)]) [] (by decide+kernel) (λp=>AN) ?_
 refine rm 6 [0,0] Z<|kC f λm f=> ?_
 obtain⟨_,⟨v,q,x,t,rfl⟩,hat9⟩:=RdN.at (E:=Ac7) j.2.2.2.2.1 (Cp m)
 refine rI (W9 j.2.2.2.2.1) m Z<|rF (W9 j.2.2.2.2.1) (Bp m) Z<|Mk q (vs:=[vS ((e.2.2.2.2.2.1)[a.toNat]!.1),v,q]) (a.toNat*3) 2 Z Z (λo w z_=>At.mono z_.ro_cell hat9) Z<|rn 1 Z<|kB f λi k f=>ci (Ls:=[[(g,61,(Bc e b))]]) (FL:=[]) [] _ (some 18) 46 _ Z Z Z Z Z (cF jk) (λo w hn_ z_=>Ml N e 5 a _ s _ k _ b (Ae9.mono (Fw (Ls:=[[(g,61,(Bc e b))]]) (is:=[]) Z z_) j) q (V0 (Fw (Ls:=[[(g,61,(Bc e b))]]) (is:=[]) Z z_) t)) (Hq k) (λ_=>(Ac2.sub (R:=[]) (Aa0.niceP (Oe Z) (λ_ _ _ _=>(Td λ_=>(Oe Z))) (λ_ _ _=>(Td λ_=>(Oe Z)))) (W5 [] [] Z))) ?_
 rintro _ _ hp_
 rcases Aa0.cases i.2 with d|⟨x13_0,x14_1,x15_2,x16_3,d⟩|⟨x17_0,x18_1,x19_2,d⟩
 ·obtain⟨rfl,rfl⟩:=Aa0.onP_nil d hp_
  replace f:=Aa0.on_nil d f
  refine AK (Ls:=[[(g,61,(Bc e b))]]) (Ls':=[[(g,61,(Bc e b))]]) [0] Z Z<|rz Z<|l _ _ ?_
  cases f
  refine AU (λp=>CI (v0:=vT #[U i.1,V6]) (O:=[]) (Jg Z Z) (Sub.nil _) ⟨Z,Z⟩)
 ·obtain⟨c,_,⟨rfl,rfl⟩,rfl⟩:=Aa0.onP_t56 d hp_
  replace f:=Aa0.on_t56 d f
  refine AK (Ls:=[[(g,61,(Bc e b))],(DK c x13_0 x14_1 x15_2 x16_3)]) (Ls':=[[(g,61,(Bc e b))],(DK c x13_0 x14_1 x15_2 x16_3)]) [0,1] Z Z<|rz Z<|l _ _ ?_
  cases f
  refine AU (λp=>CI (v0:=vT #[U i.1,V5 56 (vP c 0)]) (O:=[(DK c x13_0 x14_1 x15_2 x16_3)]) (Jg Z Z) (W5 [[(g,61,(Bc e b))],(DK c x13_0 x14_1 x15_2 x16_3)] [1] Z) ⟨c,_,⟨Z,Z⟩,Z⟩)
 obtain⟨c,_,⟨rfl,rfl⟩,rfl⟩:=Aa0.onP_t78 d hp_
 replace f:=Aa0.on_t78 d f
 refine AK (Ls:=[[(g,61,(Bc e b))],(DJ c x17_0 x18_1 x19_2)]) (Ls':=[[(g,61,(Bc e b))],(DJ c x17_0 x18_1 x19_2)]) [0,1] Z Z<|rz Z<|l _ _ ?_
 cases f
 refine AU (λp=>CI (v0:=vT #[U i.1,V5 78 (vP c 0)]) (O:=[(DJ c x17_0 x18_1 x19_2)]) (Jg Z Z) (W5 [[(g,61,(Bc e b))],(DJ c x17_0 x18_1 x19_2)] [1] Z) ⟨c,_,⟨Z,Z⟩,Z⟩)
def By(N:Nat)(n:LC)(l:Int)(j:W4)(b:Int)(a:W4->Int->Y1 ((W4)×(W4)×Aa0))(m:Y3):Y1 ((W4)×(W4)×Aa0):=if m=true then(MV N (D16 (D16 n)).2.2.2.2.1 l b).bind λk=>Aa0.on k (some (0#64,0#64, .nil)) (λg d e h=>some (0#64,0#64,(.t56 g d e h))) (λf c i=>some (0#64,0#64,(.t78 f c i)))else ck (R64 (b+1)) (a j (b+1))
def AA(N:Nat)(p:LC)(b:Y0 Int)(d:Int)(s:W4):Nat->W4->W4->Int->Y1 ((W4)×(W4)×Aa0)
  |0,_,_,_=>none
  |n+1,c,e,a=>if a<(b.length:Int)then ck (0<=a/\a<(b.length:Int)) ((Cb N p (b[a.toNat]!) s).bind λf=>Aa0.on f.2 ((Cr N c f.1).bind λo=>if(b[a.toNat]!:Int)=d then ck (R64 (a+1)) ((AA N p b d s n) o f.1 (a+1))else ck (R64 (a+1)) ((AA N p b d s n) o e (a+1))) (λi g k l=>some (0#64,0#64,(.t56 i g k l))) (λj h m=>some (0#64,0#64,(.t78 j h m))))else some (c,e, .nil)
def Az(N:Nat)(f:LC)(d:Int)(b:Y0 (Int×Int×Int))(g:Y0 Int)(e:Int)(s:W4):Nat->W4->Int->Y1 ((W4)×(W4)×Aa0)
  |0,_,_=>none
  |h+1,c,a=>if a<(b.length:Int)then ck (0<=a/\a<(b.length:Int)) (if((b[a.toNat]!).1:Int)=0 then(EQ N s ((b[a.toNat]!).2.1)).bind λi=>By N f d c a (Az N f d b g e s h) (!(i))else By N f d c a (Az N f d b g e s h) false)else AA N f g e s N (18446744073709551615#64) c 0
def GW(N:Nat)(e:LC)(d:Int)(_:W2)(_:Int)(c:Y0 (Int×Int×Int))(b:Y0 Int)(a:Int)(_:Y0 (Int×W3))(_:Int)(s:W4):Y1 ((W4)×(W4)×Aa0):=Az N e d c b a s N (0#64) 0
theorem OA(N j C g h D E e am i s r)(d:GW N j C g h D E e am i s=some r)(ro)(f:QI)(ax:Ae9 ro f j)(a)(I:Rd Ac9 ro a D)(b)(J:Rd Ca ro b E)(c:Y2)(_hx_5:Rd Ac6 ro c am):DoesI prog 45 #[vA (Bc j f),vI C,vA #[vS g,vI h,a,b,vI e,c,vI i],U s] Gt ro [] (pO [] (Aa0.onP r.2.2 (oE (vT #[U r.1,U r.2.1,V6]) []) (λy0_0 y0_1 y0_2 y0_3=>(oB 58 #[vI y0_0,vI y0_1,vI y0_2,vI y0_3] λbs_0=>(oE (vT #[U r.1,U r.2.1,V5 56 (vP bs_0 0)]) []))) (λy0_0 y0_1 y0_2=>(oB 80 #[vI y0_0,vI y0_1,vI y0_2] λbs_0=>(oE (vT #[U r.1,U r.2.1,V5 78 (vP bs_0 0)]) []))))):=by
 unfold GW at d
 refine BZ follows func45 Z 70 Z _ fz4 Bm (λao=> ?_)
 refine Ad<|rA Z λq=>rA Z λu=>rz Z<|Aa λK4 ap=>Ad<|rm 2 [0] Z<|rL (W8 I) Z<|rz Z<|Ai<|AL (λtt ll nn=> ∃(K:Nat) (v:W4) (z:Int),(Az N j C D E e s K v z=some r)/\Is [(1,vI C),(3,U s),(4,vP q 0),(6,vP u 0),(9,U v),(18,a),(19,vI (D.length:Int)),(20,vI z)] [(u,111, #[vS g,vI h,a,b,vI e,c,vI i]),(q,61,(Bc j f))] tt ll/\nn=K+1) (N+1) ?_ ?_
 ·exact⟨N,0#64,0,d,Ag Z Z,Z⟩
 clear d;rintro t l _ ⟨K,v,z,d,⟨⟨T,rfl⟩,rfl⟩,rfl⟩
 rcases K with _|K
 ·exact absurd d (by simp [Az])
 rw [Az] at d
 refine AZ Z<|Aa λK8 aq=>aD d Z (λar d=> ?_) (λar d=> ?_)
 ·refine Ac<|aq _ _ ?_
  refine Aa λay S=>Ai<|Ad<|rn 1 Z<|kC d λL d=>rI (W8 I) L Z<|rE (Ay I) L 0 Z<|rA Z λaz=>ry [0] Z ?_
  refine Cs (λtt ll=> ∃(Q:Y3),(By N j C v z (Az N j C D E e s K) Q=some r)/\Is [(1,vI C),(3,U s),(4,vP q 0),(6,vP u 0),(9,U v),(11,vI z),(18,a),(19,vI (D.length:Int)),(20,vI z),(34,vB Q)] [(u,111, #[vS g,vI h,a,b,vI e,c,vI i]),(q,61,(Bc j f))] tt ll) ?_ ?_
  ·refine Ah<|rm 4 [0] Z ?_
   rcases y:((((D[z.toNat]!).1:Int)==0))with _|_
   ·replace d:=iG y d
    refine rz Z<|fg _ (Sub.of (suC _ (suK _ (suK _ suN)))) ?_
    exact⟨false,d,Ag (by first|rfl|(simp only [y];done)|(simp only [y];rfl)|(simp only [BB];rfl)) Z⟩
   replace d:=iE y d
   refine rn 2 Z<|r_y Z<|rm 1 [0] Z<|r_y Z<|kB d λau V d=>rc _ (cF Xw) (Oo N s _ _ V)<|rz Z<|fg _ (Sub.of (suC _ (suK _ (suK _ suN)))) ?_
   exact⟨!(au),d,Ag (by first|rfl|(simp only [y];done)|(simp only [y];rfl)|(simp only [BB];rfl)) Z⟩
  clear d;rintro t l ⟨Q,d,⟨T,rfl⟩,rfl⟩
  unfold By at d
  refine aB d Z (λW d=> ?_) (λW d=> ?_)
  ·refine Aa λba F=>Ah<|rm 4 [1] Z<|kB d λav X d=>gM (Ls:=[(GK u g h a b e c i),[(q,61,(Bc j f))]]) (FL:=[]) [] (cF eO) (λo w hn_ z_=>(V3 (Sg N _ C z _ X _) _)) ?_
   rcases Aa0.cases av with n|⟨x19_0,x20_1,x21_2,x22_3,n⟩|⟨x23_0,x24_1,x25_2,n⟩
   ·rintro _ _ hp_
    obtain⟨rfl,rfl⟩:=Aa0.onP_nil n hp_
    replace d:=Aa0.on_nil n d
    refine AK (Ls:=[(GK u g h a b e c i),[(q,61,(Bc j f))]]) (Ls':=[(GK u g h a b e c i),[(q,61,(Bc j f))]]) [0,1] Z Z<|rz Z<|F _ _ ?_
    cases d
    refine AU (λY=>CI (v0:=vT #[U (0#64),U (0#64),V6]) (O:=[]) (PE Z Z Z) (Sub.nil _) ⟨Z,Z⟩)
   ·rintro _ _ hp_
    obtain⟨k,_,⟨rfl,rfl⟩,rfl⟩:=Aa0.onP_t56 n hp_
    replace d:=Aa0.on_t56 n d
    refine AK (Ls:=[(GK u g h a b e c i),[(q,61,(Bc j f))],(DK k x19_0 x20_1 x21_2 x22_3)]) (Ls':=[(GK u g h a b e c i),[(q,61,(Bc j f))],(DK k x19_0 x20_1 x21_2 x22_3)]) [0,1,2] Z Z<|rz Z<|F _ _ ?_
    cases d
    refine AU (λY=>CI (v0:=vT #[U (0#64),U (0#64),V5 56 (vP k 0)]) (O:=[(DK k x19_0 x20_1 x21_2 x22_3)]) (PE Z Z Z) (W5 [(GK u g h a b e c i),[(q,61,(Bc j f))],(DK k x19_0 x20_1 x21_2 x22_3)] [2] Z) ⟨k,_,⟨Z,Z⟩,Z⟩)
   rintro _ _ hp_
   obtain⟨k,_,⟨rfl,rfl⟩,rfl⟩:=Aa0.onP_t78 n hp_
   replace d:=Aa0.on_t78 n d
   refine AK (Ls:=[(GK u g h a b e c i),[(q,61,(Bc j f))],(DJ k x23_0 x24_1 x25_2)]) (Ls':=[(GK u g h a b e c i),[(q,61,(Bc j f))],(DJ k x23_0 x24_1 x25_2)]) [0,1,2] Z Z<|rz Z<|F _ _ ?_
   cases d
   refine AU (λY=>CI (v0:=vT #[U (0#64),U (0#64),V5 78 (vP k 0)]) (O:=[(DJ k x23_0 x24_1 x25_2)]) (PE Z Z Z) (W5 [(GK u g h a b e c i),[(q,61,(Bc j f))],(DJ k x23_0 x24_1 x25_2)] [2] Z) ⟨k,_,⟨Z,Z⟩,Z⟩)
  refine Ac<|S _ _ ?_
  refine Ah<|kC d λaa d=>rX aa Z<|rz Z<|fg _ (Sub.of (suK _ (suK _ suN))) ?_
  exact⟨K+1,by omega,K,v,(z+1),d,Ag Z Z,Z⟩
 refine AM<|ap _ _ ?_
 refine AZ Z<|Aa λbb ab=>Ad<|rm 2 [0] Z<|rL (W8 J) Z<|rz Z<|Ai<|AL (λtt ll nn=> ∃(A:Nat) (x:W4) (B:W4) (G:Int),(AA N j E e s A x B G=some r)/\Is [(3,U s),(4,vP q 0),(6,vP u 0),(8,U x),(9,U B),(42,b),(43,vI (E.length:Int)),(44,vI G)] [(u,111, #[vS g,vI h,a,b,vI e,c,vI i]),(q,61,(Bc j f))] tt ll/\nn=A+1) (N+1) ?_ ?_
 ·exact⟨N,18446744073709551615#64,v,0,d,Ag Z Z,Z⟩
 clear d;rintro t l _ ⟨A,x,B,G,d,⟨⟨T,rfl⟩,rfl⟩,rfl⟩
 rcases A with _|A
 ·exact absurd d (by simp [AA])
 rw [AA] at d
 refine AZ Z<|Aa λbc ac=>aD d Z (λad d=> ?_) (λad d=> ?_)
 ·refine Ac<|ac _ _ ?_
  refine Aa λbd M=>Ai<|Ad<|kC d λP d=>rI (W8 J) P Z<|rE (Ay J) P 0 Z<|rz Z<|Aa λbe H=>Ah<|rm 3 [1] Z<|kB d λR ae d=>gM (Ls:=[(GK u g h a b e c i),[(q,61,(Bc j f))]]) (FL:=[]) [] (cF jj) (λo w hn_ z_=>LU N j _ s _ ae _ f (Ae9.mono (Fw (Ls:=[(GK u g h a b e c i),[(q,61,(Bc j f))]]) (is:=[]) Z z_) ax)) ?_
  rcases Aa0.cases R.2 with p|⟨x45_0,x46_1,x47_2,x48_3,p⟩|⟨x49_0,x50_1,x51_2,p⟩
  ·rintro _ _ hp_
   obtain⟨rfl,rfl⟩:=Aa0.onP_nil p hp_
   replace d:=Aa0.on_nil p d
   refine AK (Ls:=[(GK u g h a b e c i),[(q,61,(Bc j f))]]) (Ls':=[(GK u g h a b e c i),[(q,61,(Bc j f))]]) [0,1] Z Z<|rz Z<|H _ _ ?_
   refine Aa λbf af=>AZ Z<|Ch Z ?_
   refine Ac<|af _ _ ?_
   refine Ad<|rn 2 Z<|kB d λag ah d=>rc _ (cF Vy) (LL N x R.1 _ ah)<|rz Z<|AY [0] Z<|aE d Z (λai d=> ?_) (λai d=> ?_)
   ·refine Ah<|rz Z<|M _ _ ?_
    refine Ah<|kC d λaj d=>rX aj Z<|rz Z<|fg _ (Sub.of (suK _ (suK _ suN))) ?_
    exact⟨A+1,by omega,A,ag,R.1,(G+1),d,Ag Z Z,Z⟩
   refine Ac<|M _ _ ?_
   refine Ah<|kC d λak d=>rX ak Z<|rz Z<|fg _ (Sub.of (suK _ (suK _ suN))) ?_
   exact⟨A+1,by omega,A,ag,B,(G+1),d,Ag Z Z,Z⟩
  ·rintro _ _ hp_
   obtain⟨m,_,⟨rfl,rfl⟩,rfl⟩:=Aa0.onP_t56 p hp_
   replace d:=Aa0.on_t56 p d
   refine AK (Ls:=[(GK u g h a b e c i),[(q,61,(Bc j f))],(DK m x45_0 x46_1 x47_2 x48_3)]) (Ls':=[(GK u g h a b e c i),[(q,61,(Bc j f))],(DK m x45_0 x46_1 x47_2 x48_3)]) [0,1,2] Z Z<|rz Z<|H _ _ ?_
   refine Aa λaw al=>AZ Z<|JO Z ?_
   refine AZ Z ?_
   cases d
   refine AU (λY=>CI (v0:=vT #[U (0#64),U (0#64),V5 56 (vP m 0)]) (O:=[(DK m x45_0 x46_1 x47_2 x48_3)]) (PE Z Z Z) (W5 [(GK u g h a b e c i),[(q,61,(Bc j f))],(DK m x45_0 x46_1 x47_2 x48_3)] [2] Z) ⟨m,_,⟨Z,Z⟩,Z⟩)
  rintro _ _ hp_
  obtain⟨m,_,⟨rfl,rfl⟩,rfl⟩:=Aa0.onP_t78 p hp_
  replace d:=Aa0.on_t78 p d
  refine AK (Ls:=[(GK u g h a b e c i),[(q,61,(Bc j f))],(DJ m x49_0 x50_1 x51_2)]) (Ls':=[(GK u g h a b e c i),[(q,61,(Bc j f))],(DJ m x49_0 x50_1 x51_2)]) [0,1,2] Z Z<|rz Z<|H _ _ ?_
  refine Aa λaw al=>AZ Z<|JO Z ?_
  refine AZ Z ?_
  cases d
  refine AU (λY=>CI (v0:=vT #[U (0#64),U (0#64),V5 78 (vP m 0)]) (O:=[(DJ m x49_0 x50_1 x51_2)]) (PE Z Z Z) (W5 [(GK u g h a b e c i),[(q,61,(Bc j f))],(DJ m x49_0 x50_1 x51_2)] [2] Z) ⟨m,_,⟨Z,Z⟩,Z⟩)
 refine AM<|ab _ _ ?_
 refine AZ Z ?_
 cases d
 refine AU (λY=>CI (v0:=vT #[U x,U B,V6]) (O:=[]) (PE Z Z Z) (Sub.nil _) ⟨Z,Z⟩)
def BY(N:Nat)(b:LC)(a:Int)(s:W4):Y1 ((W4)×(W4)×Aa0):=ck (0<=a/\a<((D16 (D16 b)).2.2.2.2.2.1.length:Int)) (if(((Dn b))[a.toNat]!.1:Int)=0 then ck (0<=((Dn b))[a.toNat]!.2.1/\((Dn b))[a.toNat]!.2.1<(b.2.2.2.2.2.2.1.length:Int)) ((GW N b a ((b.2.2.2.2.2.2.1)[(((Dn b))[a.toNat]!.2.1).toNat]!.1) ((b.2.2.2.2.2.2.1)[(((Dn b))[a.toNat]!.2.1).toNat]!.2.1) ((b.2.2.2.2.2.2.1)[(((Dn b))[a.toNat]!.2.1).toNat]!.2.2.1) ((b.2.2.2.2.2.2.1)[(((Dn b))[a.toNat]!.2.1).toNat]!.2.2.2.1) ((b.2.2.2.2.2.2.1)[(((Dn b))[a.toNat]!.2.1).toNat]!.2.2.2.2.1) ((b.2.2.2.2.2.2.1)[(((Dn b))[a.toNat]!.2.1).toNat]!.2.2.2.2.2.1) ((b.2.2.2.2.2.2.1)[(((Dn b))[a.toNat]!.2.1).toNat]!.2.2.2.2.2.2) s).bind λc=>Aa0.on c.2.2 (some (c.1,c.2.1, .nil)) (λm h k j=>some (c.1,c.2.1,(.t56 m h k j))) (λv r n=>some (c.1,c.2.1,(.t78 v r n))))else if(((Dn b))[a.toNat]!.1:Int)=1 then(Bu N b (D16 (D16 b)).2.2.2.2.1 a (((Dn b))[a.toNat]!.2.2.1) s).bind λe=>Aa0.on e.2 (some (e.1,e.1, .nil)) (λt y z f=>some (e.1,e.1,(.t56 t y z f))) (λi x l=>some (e.1,e.1,(.t78 i x l)))else if(((Dn b))[a.toNat]!.1:Int)=2 then(Cb N b (((Dn b))[a.toNat]!.2.1) s).bind λd=>Aa0.on d.2 (some (d.1,d.1, .nil)) (λq p g o=>some (d.1,d.1,(.t56 q p g o))) (λA w u=>some (d.1,d.1,(.t78 A w u)))else(Cq N s (((Dn b))[a.toNat]!.2.1)).bind λB=>(BA N s (((Dn b))[a.toNat]!.2.1)).bind λC=>some (B,C, .nil))
theorem Pf(N b a s r)(e:BY N b a s=some r)(ro)(c:QI)(v:Ae9 ro c b):DoesI prog 18 #[vA (Bc b c),vI a,U s] Gt ro [] (pO [] (Aa0.onP r.2.2 (oE (vT #[U r.1,U r.2.1,V6]) []) (λy0_0 y0_1 y0_2 y0_3=>(oB 58 #[vI y0_0,vI y0_1,vI y0_2,vI y0_3] λbs_0=>(oE (vT #[U r.1,U r.2.1,V5 56 (vP bs_0 0)]) []))) (λy0_0 y0_1 y0_2=>(oB 80 #[vI y0_0,vI y0_1,vI y0_2] λbs_0=>(oE (vT #[U r.1,U r.2.1,V5 78 (vP bs_0 0)]) []))))):=by
 unfold BY at e
 refine BZ follows func18 Z 70 Z _ fz3 Bm (λae=> ?_)
 refine Ad<|rA Z λh=>rz Z<|Ad<|rm 3 [0] Z<|kC e λI e=> ?_
 obtain⟨_,⟨f,g,J,af,rfl⟩,hat9⟩:=RdN.at (E:=Ab9) v.2.2.2.2.2.2.2.2.2.2.2.2.2.2.2.2.2.2.2.2.2.2.2.2.2.2.2.2.1 (Cp I)
 refine rI (W9 v.2.2.2.2.2.2.2.2.2.2.2.2.2.2.2.2.2.2.2.2.2.2.2.2.2.2.2.2.1) I Z ?_
 refine Mk (vA #[vI (((Dn b))[a.toNat]!.1),vI (((Dn b))[a.toNat]!.2.1),f,g,vI (((Dn b))[a.toNat]!.2.2.2.2.1),vI (((Dn b))[a.toNat]!.2.2.2.2.2)]) (vs:=[vI (((Dn b))[a.toNat]!.1),vI (((Dn b))[a.toNat]!.2.1),f,g,vI (((Dn b))[a.toNat]!.2.2.2.2.1),vI (((Dn b))[a.toNat]!.2.2.2.2.2)]) (a.toNat*6) 0 Z Z (λo w z_=>At.mono z_.ro_cell hat9) Z ?_
 refine rA Z λd=>r_s [(d,88, #[vI (((Dn b))[a.toNat]!.1),vI (((Dn b))[a.toNat]!.2.1),f,g,vI (((Dn b))[a.toNat]!.2.2.2.2.1),vI (((Dn b))[a.toNat]!.2.2.2.2.2)]),(h,61,(Bc b c))] 0 _ _ _ _ _ (#[vI (((Dn b))[a.toNat]!.1),vI (((Dn b))[a.toNat]!.2.1),f,g,vI (((Dn b))[a.toNat]!.2.2.2.2.1),vI (((Dn b))[a.toNat]!.2.2.2.2.2)]) Z Z Z Z (.ofS Z Z (Ae Z (Ae Z (sR J (sR af (Ae Z (Ae Z AD))))))) Z Z ?_
 refine Aj<|Aa λah K=>AY [0] Z<|Ai<|AZ Z<|aE e Z (λL e=> ?_) (λL e=> ?_)
 ·refine Aa λai x=> ?_
  refine BO [(some 29,true)] (conG prog [(29,λ_ _ v_ L_ U_=> ∀u,GW N b a ((b.2.2.2.2.2.2.1)[(((Dn b))[a.toNat]!.2.1).toNat]!.1) ((b.2.2.2.2.2.2.1)[(((Dn b))[a.toNat]!.2.1).toNat]!.2.1) ((b.2.2.2.2.2.2.1)[(((Dn b))[a.toNat]!.2.1).toNat]!.2.2.1) ((b.2.2.2.2.2.2.1)[(((Dn b))[a.toNat]!.2.1).toNat]!.2.2.2.1) ((b.2.2.2.2.2.2.1)[(((Dn b))[a.toNat]!.2.1).toNat]!.2.2.2.2.1) ((b.2.2.2.2.2.2.1)[(((Dn b))[a.toNat]!.2.1).toNat]!.2.2.2.2.2.1) ((b.2.2.2.2.2.2.1)[(((Dn b))[a.toNat]!.2.1).toNat]!.2.2.2.2.2.2) s=some u->(pO (V2 []) (Aa0.onP u.2.2 (oE (vT #[U u.1,U u.2.1,V6]) []) (λy0_0 y0_1 y0_2 y0_3=>(oB 58 #[vI y0_0,vI y0_1,vI y0_2,vI y0_3] λbs_0=>(oE (vT #[U u.1,U u.2.1,V5 56 (vP bs_0 0)]) []))) (λy0_0 y0_1 y0_2=>(oB 80 #[vI y0_0,vI y0_1,vI y0_2] λbs_0=>(oE (vT #[U u.1,U u.2.1,V5 78 (vP bs_0 0)]) []))))) v_ L_ U_)]) [] (by decide+kernel) (λy=>AN) ?_
  refine rm 7 [1,1,0] Z<|kC e λC e=> ?_
  obtain⟨_,⟨F,G,H,M,P,Q,rfl⟩,hat23⟩:=RdN.at (E:=Ad4) v.2.2.2.2.2.1 (Cp C)
  refine rI (W9 v.2.2.2.2.2.1) C Z ?_
  refine Mk (vA #[vS ((b.2.2.2.2.2.2.1)[(((Dn b))[a.toNat]!.2.1).toNat]!.1),vI ((b.2.2.2.2.2.2.1)[(((Dn b))[a.toNat]!.2.1).toNat]!.2.1),F,G,vI ((b.2.2.2.2.2.2.1)[(((Dn b))[a.toNat]!.2.1).toNat]!.2.2.2.2.1),H,vI ((b.2.2.2.2.2.2.1)[(((Dn b))[a.toNat]!.2.1).toNat]!.2.2.2.2.2.2)]) (vs:=[vS ((b.2.2.2.2.2.2.1)[(((Dn b))[a.toNat]!.2.1).toNat]!.1),vI ((b.2.2.2.2.2.2.1)[(((Dn b))[a.toNat]!.2.1).toNat]!.2.1),F,G,vI ((b.2.2.2.2.2.2.1)[(((Dn b))[a.toNat]!.2.1).toNat]!.2.2.2.2.1),H,vI ((b.2.2.2.2.2.2.1)[(((Dn b))[a.toNat]!.2.1).toNat]!.2.2.2.2.2.2)]) ((((Dn b))[a.toNat]!.2.1).toNat*7) 0 Z Z (λo w z_=>At.mono z_.ro_cell hat23) Z ?_
  refine rn 1 Z<|kB e λl D e=>ci (Ls:=[(Bz d ((Dn b))[a.toNat]! f g),[(h,61,(Bc b c))]]) (FL:=[]) [] _ (some 29) 45 _ Z Z Z Z Z (cF ub) (λo w hn_ z_=>have B:=Fw (Ls:=[(Bz d ((Dn b))[a.toNat]! f g),[(h,61,(Bc b c))]]) (is:=[]) Z z_;OA N b a _ _ _ _ _ _ _ s _ D _ c (Ae9.mono B v) F (V0 B M) G (V0 B P) H (V0 B Q)) (Hq D) (λ_=>(Ac2.sub (R:=[]) (Aa0.niceP (Oe Z) (λ_ _ _ _=>(Td λ_=>(Oe Z))) (λ_ _ _=>(Td λ_=>(Oe Z)))) (W5 [] [] Z))) ?_
  rintro _ _ hp_
  rcases Aa0.cases l.2.2 with m|⟨x27_0,x28_1,x29_2,x30_3,m⟩|⟨x31_0,x32_1,x33_2,m⟩
  ·obtain⟨rfl,rfl⟩:=Aa0.onP_nil m hp_
   replace e:=Aa0.on_nil m e
   refine AK (Ls:=[(Bz d ((Dn b))[a.toNat]! f g),[(h,61,(Bc b c))]]) (Ls':=[(Bz d ((Dn b))[a.toNat]! f g),[(h,61,(Bc b c))]]) [0,1] Z Z ?_
   refine rz Z<|x _ _ ?_
   refine CJ [(6,U l.1),(7,U l.2.1),(8,V6)] Z (λT=> ?_)
   cases e
   refine AU (λy=>CI (v0:=vT #[U l.1,U l.2.1,V6]) (O:=[]) (PE Z Z Z) (Sub.nil _) ⟨Z,Z⟩)
  ·obtain⟨i,_,⟨rfl,rfl⟩,rfl⟩:=Aa0.onP_t56 m hp_
   replace e:=Aa0.on_t56 m e
   refine AK (Ls:=[(Bz d ((Dn b))[a.toNat]! f g),[(h,61,(Bc b c))],(DK i x27_0 x28_1 x29_2 x30_3)]) (Ls':=[(Bz d ((Dn b))[a.toNat]! f g),[(h,61,(Bc b c))],(DK i x27_0 x28_1 x29_2 x30_3)]) [0,1,2] Z Z ?_
   refine rz Z<|x _ _ ?_
   refine CJ [(6,U l.1),(7,U l.2.1),(8,V5 56 (vP i 0))] Z (λT=> ?_)
   cases e
   refine AU (λy=>CI (v0:=vT #[U l.1,U l.2.1,V5 56 (vP i 0)]) (O:=[(DK i x27_0 x28_1 x29_2 x30_3)]) (PE Z Z Z) (W5 [(Bz d ((Dn b))[a.toNat]! f g),[(h,61,(Bc b c))],(DK i x27_0 x28_1 x29_2 x30_3)] [2] Z) ⟨i,_,⟨Z,Z⟩,Z⟩)
  obtain⟨i,_,⟨rfl,rfl⟩,rfl⟩:=Aa0.onP_t78 m hp_
  replace e:=Aa0.on_t78 m e
  refine AK (Ls:=[(Bz d ((Dn b))[a.toNat]! f g),[(h,61,(Bc b c))],(DJ i x31_0 x32_1 x33_2)]) (Ls':=[(Bz d ((Dn b))[a.toNat]! f g),[(h,61,(Bc b c))],(DJ i x31_0 x32_1 x33_2)]) [0,1,2] Z Z ?_
  refine rz Z<|x _ _ ?_
  refine CJ [(6,U l.1),(7,U l.2.1),(8,V5 78 (vP i 0))] Z (λT=> ?_)
  cases e
  refine AU (λy=>CI (v0:=vT #[U l.1,U l.2.1,V5 78 (vP i 0)]) (O:=[(DJ i x31_0 x32_1 x33_2)]) (PE Z Z Z) (W5 [(Bz d ((Dn b))[a.toNat]! f g),[(h,61,(Bc b c))],(DJ i x31_0 x32_1 x33_2)] [2] Z) ⟨i,_,⟨Z,Z⟩,Z⟩)
 refine AZ Z<|aE e Z (λS e=> ?_) (λS e=> ?_)
 ·refine Aa λaj z=>Ah<|rm 7 [1,1,0] Z<|kB e λq V e=>gM (Ls:=[(Bz d ((Dn b))[a.toNat]! f g),[(h,61,(Bc b c))]]) (FL:=[]) [] (cF jk) (λo w hn_ z_=>Ml N b _ a _ s _ V _ c (Ae9.mono (Fw (Ls:=[(Bz d ((Dn b))[a.toNat]! f g),[(h,61,(Bc b c))]]) (is:=[]) Z z_) v) f (V0 (Fw (Ls:=[(Bz d ((Dn b))[a.toNat]! f g),[(h,61,(Bc b c))]]) (is:=[]) Z z_) J)) ?_
  rcases Aa0.cases q.2 with n|⟨x41_0,x42_1,x43_2,x44_3,n⟩|⟨x45_0,x46_1,x47_2,n⟩
  ·rintro _ _ hp_
   obtain⟨rfl,rfl⟩:=Aa0.onP_nil n hp_
   replace e:=Aa0.on_nil n e
   refine AK (Ls:=[(Bz d ((Dn b))[a.toNat]! f g),[(h,61,(Bc b c))]]) (Ls':=[(Bz d ((Dn b))[a.toNat]! f g),[(h,61,(Bc b c))]]) [0,1] Z Z ?_
   refine rz Z<|z _ _ ?_
   refine CJ [(2,U q.1),(8,V6)] Z (λT=> ?_)
   refine AZ Z ?_
   cases e
   refine AU (λy=>CI (v0:=vT #[U q.1,U q.1,V6]) (O:=[]) (PE Z Z Z) (Sub.nil _) ⟨Z,Z⟩)
  ·rintro _ _ hp_
   obtain⟨j,_,⟨rfl,rfl⟩,rfl⟩:=Aa0.onP_t56 n hp_
   replace e:=Aa0.on_t56 n e
   refine AK (Ls:=[(Bz d ((Dn b))[a.toNat]! f g),[(h,61,(Bc b c))],(DK j x41_0 x42_1 x43_2 x44_3)]) (Ls':=[(Bz d ((Dn b))[a.toNat]! f g),[(h,61,(Bc b c))],(DK j x41_0 x42_1 x43_2 x44_3)]) [0,1,2] Z Z ?_
   refine rz Z<|z _ _ ?_
   refine CJ [(2,U q.1),(8,V5 56 (vP j 0))] Z (λT=> ?_)
   refine AZ Z ?_
   cases e
   refine AU (λy=>CI (v0:=vT #[U q.1,U q.1,V5 56 (vP j 0)]) (O:=[(DK j x41_0 x42_1 x43_2 x44_3)]) (PE Z Z Z) (W5 [(Bz d ((Dn b))[a.toNat]! f g),[(h,61,(Bc b c))],(DK j x41_0 x42_1 x43_2 x44_3)] [2] Z) ⟨j,_,⟨Z,Z⟩,Z⟩)
  rintro _ _ hp_
  obtain⟨j,_,⟨rfl,rfl⟩,rfl⟩:=Aa0.onP_t78 n hp_
  replace e:=Aa0.on_t78 n e
  refine AK (Ls:=[(Bz d ((Dn b))[a.toNat]! f g),[(h,61,(Bc b c))],(DJ j x45_0 x46_1 x47_2)]) (Ls':=[(Bz d ((Dn b))[a.toNat]! f g),[(h,61,(Bc b c))],(DJ j x45_0 x46_1 x47_2)]) [0,1,2] Z Z ?_
  refine rz Z<|z _ _ ?_
  refine CJ [(2,U q.1),(8,V5 78 (vP j 0))] Z (λT=> ?_)
  refine AZ Z ?_
  cases e
  refine AU (λy=>CI (v0:=vT #[U q.1,U q.1,V5 78 (vP j 0)]) (O:=[(DJ j x45_0 x46_1 x47_2)]) (PE Z Z Z) (W5 [(Bz d ((Dn b))[a.toNat]! f g),[(h,61,(Bc b c))],(DJ j x45_0 x46_1 x47_2)] [2] Z) ⟨j,_,⟨Z,Z⟩,Z⟩)
 refine AZ Z<|aE e Z (λW e=> ?_) (λW e=> ?_)
 ·refine Aa λak A=>Ah<|rm 4 [1,0] Z<|kB e λt X e=>gM (Ls:=[(Bz d ((Dn b))[a.toNat]! f g),[(h,61,(Bc b c))]]) (FL:=[]) [] (cF jj) (λo w hn_ z_=>LU N b _ s _ X _ c (Ae9.mono (Fw (Ls:=[(Bz d ((Dn b))[a.toNat]! f g),[(h,61,(Bc b c))]]) (is:=[]) Z z_) v)) ?_
  rcases Aa0.cases t.2 with p|⟨x56_0,x57_1,x58_2,x59_3,p⟩|⟨x60_0,x61_1,x62_2,p⟩
  ·rintro _ _ hp_
   obtain⟨rfl,rfl⟩:=Aa0.onP_nil p hp_
   replace e:=Aa0.on_nil p e
   refine AK (Ls:=[(Bz d ((Dn b))[a.toNat]! f g),[(h,61,(Bc b c))]]) (Ls':=[(Bz d ((Dn b))[a.toNat]! f g),[(h,61,(Bc b c))]]) [0,1] Z Z ?_
   refine rz Z<|A _ _ ?_
   refine CJ [(2,U t.1),(8,V6)] Z (λT=> ?_)
   refine AZ Z ?_
   cases e
   refine AU (λy=>CI (v0:=vT #[U t.1,U t.1,V6]) (O:=[]) (PE Z Z Z) (Sub.nil _) ⟨Z,Z⟩)
  ·rintro _ _ hp_
   obtain⟨k,_,⟨rfl,rfl⟩,rfl⟩:=Aa0.onP_t56 p hp_
   replace e:=Aa0.on_t56 p e
   refine AK (Ls:=[(Bz d ((Dn b))[a.toNat]! f g),[(h,61,(Bc b c))],(DK k x56_0 x57_1 x58_2 x59_3)]) (Ls':=[(Bz d ((Dn b))[a.toNat]! f g),[(h,61,(Bc b c))],(DK k x56_0 x57_1 x58_2 x59_3)]) [0,1,2] Z Z ?_
   refine rz Z<|A _ _ ?_
   refine CJ [(2,U t.1),(8,V5 56 (vP k 0))] Z (λT=> ?_)
   refine AZ Z ?_
   cases e
   refine AU (λy=>CI (v0:=vT #[U t.1,U t.1,V5 56 (vP k 0)]) (O:=[(DK k x56_0 x57_1 x58_2 x59_3)]) (PE Z Z Z) (W5 [(Bz d ((Dn b))[a.toNat]! f g),[(h,61,(Bc b c))],(DK k x56_0 x57_1 x58_2 x59_3)] [2] Z) ⟨k,_,⟨Z,Z⟩,Z⟩)
  rintro _ _ hp_
  obtain⟨k,_,⟨rfl,rfl⟩,rfl⟩:=Aa0.onP_t78 p hp_
  replace e:=Aa0.on_t78 p e
  refine AK (Ls:=[(Bz d ((Dn b))[a.toNat]! f g),[(h,61,(Bc b c))],(DJ k x60_0 x61_1 x62_2)]) (Ls':=[(Bz d ((Dn b))[a.toNat]! f g),[(h,61,(Bc b c))],(DJ k x60_0 x61_1 x62_2)]) [0,1,2] Z Z ?_
  refine rz Z<|A _ _ ?_
  refine CJ [(2,U t.1),(8,V5 78 (vP k 0))] Z (λT=> ?_)
  refine AZ Z ?_
  cases e
  refine AU (λy=>CI (v0:=vT #[U t.1,U t.1,V5 78 (vP k 0)]) (O:=[(DJ k x60_0 x61_1 x62_2)]) (PE Z Z Z) (W5 [(Bz d ((Dn b))[a.toNat]! f g),[(h,61,(Bc b c))],(DJ k x60_0 x61_1 x62_2)] [2] Z) ⟨k,_,⟨Z,Z⟩,Z⟩)
 refine Ac<|K _ _ ?_
 refine Aa λal Y=>HS [] (by decide+kernel) (λy=>AN)<|rm 3 [0] Z<|kB e λaa ab e=>rc _ (cF Vx) (LK N s _ _ ab)<|rm 3 [0] Z<|kB e λac ad e=>rc _ (cF Vw) (JK N s _ _ ad)<|rz Z<|Y _ _ ?_
 refine CJ [(6,U aa),(7,U ac),(8,V6)] Z (λT=> ?_)
 cases e
 refine AU (λy=>CI (v0:=vT #[U aa,U ac,V6]) (O:=[]) (PE Z Z Z) (Sub.nil _) ⟨Z,Z⟩)
end Go.Proofs.YtjnanfkpdhmnpaaGreatDoor
