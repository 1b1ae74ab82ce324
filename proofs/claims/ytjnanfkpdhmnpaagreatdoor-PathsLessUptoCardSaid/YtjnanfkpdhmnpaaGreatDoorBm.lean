import Derived.Test.YtjnanfkpdhmnpaaGreatDoorBl
namespace Go.Proofs.YtjnanfkpdhmnpaaGreatDoor
open Go Go.RowKit Go.Eng _root_.Go.Proofs.Tryz
set_option linter.unusedSimpArgs false
set_option linter.unusedVariables false
set_option maxRecDepth 100000
set_option maxHeartbeats 80000000
abbrev Vl(b:Nat)(x0 x1:Int)(x2 x3:Y2)(x4 x5:Int):Y0 Bl:=[(b,88, #[vI x0,vI x1,x2,x3,vI x4,vI x5])]
abbrev DF(b:Nat)(v1:Int×Int×Y0 (W1)×Y0 (Int×W3)×Int×Int)(v2 v3:Y2):Y0 Bl:=Vl b v1.1 v1.2.1 v2 v3 v1.2.2.2.2.1 v1.2.2.2.2.2
abbrev sH(b:Nat)(x0:W2)(x1:Y2)(x2 x3 x4 x5:Int):Y0 Bl:=[(b,97, #[vS x0,x1,vI x2,vI x3,vI x4,vI x5])]
abbrev ip(b:Nat)(x0:W2)(x1 x2 x3 x4 x5 x6 x7 x8 x9 x10 x11 x12 x13 x14:Y2)(x15 x16 x17:Int)(x18:W2)(x19 x20 x21 x22 x23 x24 x25 x26 x27 x28 x29 x30 x31 x32:Y2)(x33 x34 x35 x36:Int)(x37 x38:Y2):Y0 Bl:=[(b,61, #[vS x0,x1,x2,x3,x4,x5,x6,x7,x8,x9,x10,x11,x12,x13,x14,vI x15,vI x16,vI x17,vS x18,x19,x20,x21,x22,x23,x24,x25,x26,x27,x28,x29,x30,x31,x32,vI x33,vI x34,vI x35,vI x36,x37,x38])]
abbrev Bb(b:Nat)(v1:LC)(v2 v3 v4 v5 v6 v7 v8 v9 v10 v11 v12 v13 v14 v15 v16 v17 v18 v19 v20 v21 v22 v23 v24 v25 v26 v27 v28 v29 v30 v31:Y2):Y0 Bl:=ip b v1.1 v2 v3 v4 v5 v6 v7 v8 v9 v10 v11 v12 v13 v14 v15 v1.2.2.2.2.2.2.2.2.2.2.2.2.2.2.2.1 v1.2.2.2.2.2.2.2.2.2.2.2.2.2.2.2.2.1 v1.2.2.2.2.2.2.2.2.2.2.2.2.2.2.2.2.2.1 v1.2.2.2.2.2.2.2.2.2.2.2.2.2.2.2.2.2.2.1 v16 v17 v18 v19 v20 v21 v22 v23 v24 v25 v26 v27 v28 v29 v1.2.2.2.2.2.2.2.2.2.2.2.2.2.2.2.2.2.2.2.2.2.2.2.2.2.2.2.2.2.2.2.2.2.1 v1.2.2.2.2.2.2.2.2.2.2.2.2.2.2.2.2.2.2.2.2.2.2.2.2.2.2.2.2.2.2.2.2.2.2.1 v1.2.2.2.2.2.2.2.2.2.2.2.2.2.2.2.2.2.2.2.2.2.2.2.2.2.2.2.2.2.2.2.2.2.2.2.1 v1.2.2.2.2.2.2.2.2.2.2.2.2.2.2.2.2.2.2.2.2.2.2.2.2.2.2.2.2.2.2.2.2.2.2.2.2.1 v30 v31
abbrev CQ(b:Nat)(v1:Ao)(v2:AC)(v3:Ao)(v4:AC)(v5:Int)(v6 v7:Y2):Y0 Bl:=ip b v1.1 v2.1 v2.2.1 v2.2.2.1 v2.2.2.2.1 v2.2.2.2.2.1 v2.2.2.2.2.2.1 v2.2.2.2.2.2.2.1 v2.2.2.2.2.2.2.2.1 v2.2.2.2.2.2.2.2.2.1 v2.2.2.2.2.2.2.2.2.2.1 v2.2.2.2.2.2.2.2.2.2.2.1 v2.2.2.2.2.2.2.2.2.2.2.2.1 v2.2.2.2.2.2.2.2.2.2.2.2.2.1 v2.2.2.2.2.2.2.2.2.2.2.2.2.2 v1.2.2.2.2.2.2.2.2.2.2.2.2.2.2.2.1 v1.2.2.2.2.2.2.2.2.2.2.2.2.2.2.2.2.1 v1.2.2.2.2.2.2.2.2.2.2.2.2.2.2.2.2.2 v3.1 v4.1 v4.2.1 v4.2.2.1 v4.2.2.2.1 v4.2.2.2.2.1 v4.2.2.2.2.2.1 v4.2.2.2.2.2.2.1 v4.2.2.2.2.2.2.2.1 v4.2.2.2.2.2.2.2.2.1 v4.2.2.2.2.2.2.2.2.2.1 v4.2.2.2.2.2.2.2.2.2.2.1 v4.2.2.2.2.2.2.2.2.2.2.2.1 v4.2.2.2.2.2.2.2.2.2.2.2.2.1 v4.2.2.2.2.2.2.2.2.2.2.2.2.2 v3.2.2.2.2.2.2.2.2.2.2.2.2.2.2.2.1 v3.2.2.2.2.2.2.2.2.2.2.2.2.2.2.2.2.1 v3.2.2.2.2.2.2.2.2.2.2.2.2.2.2.2.2.2 v5 v6 v7
abbrev Ei(b:Nat)(x0:Y3)(x1:W4)(x2:Int):Y0 Bl:=[(b,83, #[vB x0,U x1,vI x2])]
abbrev HK(b:Nat)(x0 x1 x2 x3:Int):Y0 Bl:=[(b,58, #[vI x0,vI x1,vI x2,vI x3])]
abbrev Kk(b:Nat)(x0 x1 x2:Int):Y0 Bl:=[(b,80, #[vI x0,vI x1,vI x2])]
abbrev AF(b:Nat)(x0 x1:Y2)(x2:W4)(x3:Int):Y0 Bl:=[(b,44, #[x0,x1,U x2,vI x3])]
def EO(_:Nat)(a:Y0 ((W2)×Int×(Y0 (Int×Int×Int))×(Y0 Int)×Int×(Y0 (Int×W3))×Int))(i:Int):Y1 Y3:=if(0:Int)<=i then some (decide (i<(a.length:Int)))else some false
theorem Od(N g i r)(a:EO N g i=some r)(h d)(f:RdN Ad4 h d g):Does prog 50 #[d,vI i] h [] (pV (vB r)):=by
 unfold EO at a
 refine Ak follows func50 Z 13 Z _ fz2 (λe=> ?_)
 refine AZ Z<|Aa λj b=>Ah<|rn 3 Z ?_
 rcases c:(decide ((0:Int)<=i))with _|_
 ·replace a:=iF c a
  refine rz Z<|b _ _ ?_
  cases a
  exact aR eV1
 replace a:=iD c a
 refine rn 2 Z<|r_y Z<|rL (W9 f) Z<|rz Z<|b _ _ ?_
 cases a
 exact aR eV1
def Ec(m:Ao)(a:Y0 Int):Nat->Int->Int->Y1 Int
  |0,_,_=>none
  |d+1,c,b=>if b<(a.length:Int)then ck (0<=b/\b<(a.length:Int)) (ck (0<=a[b.toNat]!/\a[b.toNat]!<(m.2.2.2.2.2.1.length:Int)) (ck (R64 (b+1)) ((Ec m a d) (max c ((((m.2.2.2.2.2.1)[(a[b.toNat]!).toNat]!.2.2).length:Int))) (b+1))))else some c
def Ij(N:Nat)(m:Ao)(a:Y0 Int):Y1 Int:=Ec m a N 0 0
theorem Sz(N m a r)(e:Ij N m a=some r)(y)(z:AC)(A:Aa2 y z m)(c)(d:Rd Ca y c a):Does prog 51 #[vA (Ab m z),c] y [] (pV (vI r)):=by
 unfold Ij at e
 refine Ak follows func51 Z 25 Z _ fz2 (λq=> ?_)
 refine Ad<|rA Z λB=>rz Z<|AZ Z<|Aa λF s=>Ad<|rn 1 Z<|rL (W8 d) Z<|rz Z<|Ai<|AL (λtt ll nn=> ∃(i:Nat) (b:Int) (f:Int),(Ec m a i b f=some r)/\Is [(2,vP B 0),(5,vI b),(8,c),(9,vI (a.length:Int)),(10,vI f)] [(B,35,(Ab m z))] tt ll/\nn=i+1) (N+1) ?_ ?_
 ·exact⟨N,0,0,e,Ag Z Z,Z⟩
 clear e;rintro t l _ ⟨i,b,f,e,⟨⟨T,rfl⟩,rfl⟩,rfl⟩
 rcases i with _|i
 ·exact absurd e (by simp [Ec])
 rw [Ec] at e
 refine AZ Z<|Aa λG u=>aD e Z (λv e=> ?_) (λv e=> ?_)
 ·refine Ac<|u _ _ ?_
  refine Aa λD j=>Ai<|Ad<|kC e λh e=>rI (W8 d) h Z<|rE (Ay d) h 0 Z<|rz Z<|Ah<|rm 4 [0] Z<|kC e λg e=> ?_
  obtain⟨_,⟨x,k,C,n,rfl⟩,hat18⟩:=RdN.at (E:=Ac7) A.2.2.2.2.1 (Cp g)
  refine rI (W9 A.2.2.2.2.1) g Z<|rF (W9 A.2.2.2.2.1) (Bp g) Z<|Mk k (vs:=[vS ((m.2.2.2.2.2.1)[(a[f.toNat]!).toNat]!.1),x,k]) ((a[f.toNat]!).toNat*3) 2 Z Z (λo w z_=>At.mono z_.ro_cell hat18) Z<|rL (W8 n) Z ?_
  refine r_W (vI (max b ((((m.2.2.2.2.2.1)[(a[f.toNat]!).toNat]!.2.2).length:Int)))) Z (bo Z Z)<|rz Z<|j _ _ ?_
  refine Ah<|kC e λp e=>rX p Z<|rz Z<|fg _ (Sub.of (suK _ suN)) ?_
  exact⟨i+1,by omega,i,max b ((((m.2.2.2.2.2.1)[(a[f.toNat]!).toNat]!.2.2).length:Int)),(f+1),e,Ag Z Z,Z⟩
 refine AM<|s _ _ ?_
 refine AZ Z ?_
 cases e
 exact aR eV1
def Eh(_:Nat)(a:Y0 ((W2)×(Y0 Int)×(Y0 (W1))))(i:Int):Y1 Y3:=if(0:Int)<=i then some (decide (i<(a.length:Int)))else some false
theorem NI(N g i r)(a:Eh N g i=some r)(h d)(f:RdN Ac7 h d g):Does prog 52 #[d,vI i] h [] (pV (vB r)):=by
 unfold Eh at a
 refine Ak follows func52 Z 13 Z _ fz2 (λe=> ?_)
 refine AZ Z<|Aa λj b=>Ah<|rn 3 Z ?_
 rcases c:(decide ((0:Int)<=i))with _|_
 ·replace a:=iF c a
  refine rz Z<|b _ _ ?_
  cases a
  exact aR eV1
 replace a:=iD c a
 refine rn 2 Z<|r_y Z<|rL (W9 f) Z<|rz Z<|b _ _ ?_
 cases a
 exact aR eV1
def HN(N:Nat)(m:Ao)(b a:Int)(d:Y0 (W1))(_:Y0 (Int×W3))(_ _:Int):Y1 Int:=if b=0 then(EO N m.2.2.2.2.2.2.1 a).bind λg=>if g=true then ck (0<=a/\a<(m.2.2.2.2.2.2.1.length:Int)) ((Ij N m ((m.2.2.2.2.2.2.1)[a.toNat]!.2.2.2.1)).bind λc=>ck (R64 (2+c)) (some (2+c)))else some 0 else if b=1 then ck ((R64 (1+(d.length:Int)))) (some (1+(d.length:Int)))else if b=2 then(Eh N m.2.2.2.2.2.1 a).bind λf=>if f=true then ck (0<=a/\a<(m.2.2.2.2.2.1.length:Int)) (ck ((R64 (1+(((m.2.2.2.2.2.1)[a.toNat]!.2.2).length:Int)))) (some ((1+(((m.2.2.2.2.2.1)[a.toNat]!.2.2).length:Int)))))else some 0 else if b=3 then(KC N m a).bind λe=>if e.2.2.2.2.2.2=true then some 1 else some 0 else some 0
theorem UN(N m j b L M k l r)(a:HN N m j b L M k l=some r)(Q)(p:AC)(h:Aa2 Q p m)(d)(O:Rd Ad5 Q d L)(e:Y2)(_hx_3:Rd Ac6 Q e M):Does prog 19 #[vA (Ab m p),vA #[vI j,vI b,d,e,vI k,vI l]] Q [] (pV (vI r)):=by
 unfold HN at a
 refine Ak follows func19 Z 58 Z _ fz2 (λP=> ?_)
 refine Ad<|rA Z λb2=>rA Z λb3=>rz Z<|Aa λK4 i=>AY [0] Z<|Ai<|AZ Z<|aE a Z (λR a=> ?_) (λR a=> ?_)
 ·refine Ad<|rm 4 [1,0] Z<|kB a λr9 s a=>gV _ (cF ua) (λo w z_=>Od N _ b _ s z_.view p.2.2.2.2.2.1 (V1 z_.ro_cell h.2.2.2.2.2.1))<|Aj<|aB a Z (λt a=> ?_) (λt a=> ?_)
  ·refine Aa λag u=>BO [(some 24,false)] (conG prog [(24,cV (Ij N m ((m.2.2.2.2.2.2.1)[b.toNat]!.2.2.2.1)) λS=>vI S)]) [] (by decide+kernel) (λhn=>AN)<|rm 5 [1,1,0] Z<|kC a λf a=> ?_
   obtain⟨_,⟨U,q,V,ad,v,ae,rfl⟩,hat20⟩:=RdN.at (E:=Ad4) h.2.2.2.2.2.1 (Cp f)
   refine rI (W9 h.2.2.2.2.2.1) f Z<|rF (W9 h.2.2.2.2.2.1) (Bp f) Z<|Mk q (vs:=[vS ((m.2.2.2.2.2.2.1)[b.toNat]!.1),vI ((m.2.2.2.2.2.2.1)[b.toNat]!.2.1),U,q,vI ((m.2.2.2.2.2.2.1)[b.toNat]!.2.2.2.2.1),V,vI ((m.2.2.2.2.2.2.1)[b.toNat]!.2.2.2.2.2.2)]) (b.toNat*7) 3 Z Z (λo w z_=>At.mono z_.ro_cell hat20) Z<|kB a λah n a=>rg _ (cF tZ) (λo w z_=>Sz N m _ _ n z_.view p (Aa2.mono z_.ro_cell h) q (z_.r v)) (Hq n)<|kC a λx a=>rX x Z<|rz Z<|u _ _ ?_
   cases a
   exact aR eV1
  refine Ac<|i _ _ ?_
  refine AZ Z ?_
  cases a
  exact aR eV1
 refine AZ Z<|aE a Z (λy a=> ?_) (λy a=> ?_)
 ·refine Ad<|rm 2 [0] Z<|rL (W8 O) Z<|kC a λz a=>rX z Z<|rz Z ?_
  cases a
  exact aR eV1
 refine AZ Z<|aE a Z (λA a=> ?_) (λA a=> ?_)
 ·refine Ad<|rm 4 [1,0] Z<|kB a λai B a=>gV _ (cF tY) (λo w z_=>NI N _ b _ B z_.view p.2.2.2.2.1 (V1 z_.ro_cell h.2.2.2.2.1))<|Aj<|aB a Z (λC a=> ?_) (λC a=> ?_)
  ·refine Ad<|rm 4 [1,0] Z<|kC a λg a=> ?_
   obtain⟨_,⟨W,D,af,F,rfl⟩,hat41⟩:=RdN.at (E:=Ac7) h.2.2.2.2.1 (Cp g)
   refine rI (W9 h.2.2.2.2.1) g Z<|rF (W9 h.2.2.2.2.1) (Bp g) Z<|Mk D (vs:=[vS ((m.2.2.2.2.2.1)[b.toNat]!.1),W,D]) (b.toNat*3) 2 Z Z (λo w z_=>At.mono z_.ro_cell hat41) Z<|rL (W8 F) Z<|kC a λG a=>rX G Z<|rz Z<|CJ [(4,vI ((1+(((m.2.2.2.2.2.1)[b.toNat]!.2.2).length:Int))))] Z (λT=> ?_)
   cases a
   exact aR eV1
  refine Ac<|i _ _ ?_
  refine AZ Z ?_
  cases a
  exact aR eV1
 refine AZ Z<|aE a Z (λH a=> ?_) (λH a=> ?_)
 ·refine Ad<|rm 3 [1,0] Z<|kB a λc I a=>gS (Ls:=[(Vl b3 j b d e k l),[(b2,35,(Ab m p))]]) (cF bC) (λo w z_=>Rr N m b _ I z_.view p (Aa2.mono z_.ro_cell h)) (λJ X Y=> ?_)
  refine rn 3 Z<|rA Z λaa=>r_s (V2 [(sH aa c.1 J c.2.2.1 c.2.2.2.1 c.2.2.2.2.1 c.2.2.2.2.2.1),(Vl b3 j b d e k l),[(b2,35,(Ab m p))],X]) 0 _ _ _ _ _ (#[vS c.1,J,vI c.2.2.1,vI c.2.2.2.1,vI c.2.2.2.2.1,vI c.2.2.2.2.2.1]) Z Z Z Z (.ofS Z Z (Ae Z (sS Y (Ae Z (Ae Z (Ae Z (Ae Z AD))))))) Z Z<|rz Z<|AZ Z<|aB a Z (λK a=> ?_) (λK a=> ?_)
  ·refine AZ Z ?_
   cases a
   exact aR eV1
  refine Ac<|i _ _ ?_
  refine AZ Z ?_
  cases a
  exact aR eV1
 refine Ac<|i _ _ ?_
 refine AZ Z ?_
 cases a
 exact aR eV1
def Hm(c a:Int)(b:W4):Y1 (Y3×(W4)×Int):=some (true,b,max a c)
def GJ(N:Nat)(c:Y3)(d:W4)(b:Int)(s:W4)(a:Int):Y1 (Y3×(W4)×Int):=if c=true then(Cr N s d).bind λe=>Hm b a e else Hm b a s
theorem OJ(N f e b s a r)(c:GJ N f e b s a=some r):Gives prog 20 #[vA #[vB f,U e,vI b],U s,vI a] (vA #[vB r.1,U r.2.1,vI r.2.2]):=by
 unfold GJ at c
 refine Au follows func20 Z 19 Z _ fz3 (λg=> ?_)
 refine Ad<|rA Z λj=>rA Z λk=>Aj<|Cs (λtt ll=> ∃(d:W4),(Hm b a d=some r)/\Is [(1,U d),(2,vI a),(3,vP j 0),(6,vP k 0)] [(k,83, #[vB false,U (0#64),vI 0]),(j,83, #[vB f,U e,vI b])] tt ll) ?_ ?_
 ·refine AY [1] Z<|aB c Z (λh c=> ?_) (λh c=> ?_)
  ·refine Ah<|rm 3 [1] Z<|kB c λm i c=>rc _ (cF Vy) (LL N s e _ i)<|rz Z<|fg _ (Sub.of (suK _ (suK _ suN))) ?_
   exact⟨m,c,Ag Z Z⟩
  refine Ac<|fg _ (Sub.of (suK _ (suK _ suN))) ?_
  exact⟨s,c,Ag Z Z⟩
 clear c;rintro t l ⟨d,c,⟨T,rfl⟩,rfl⟩
 unfold Hm at c
 refine Ad<|rm 4 [1] Z<|r_W (vI (max a b)) Z (bo Z Z)<|r_W (vA #[vB true,U d,vI (max a b)]) Z (Ar Z Z Z Z)<|ry [0] Z ?_
 cases c
 refine AU (λn=>EH (v0:=vA #[vB true,U d,vI (max a b)]) Z (Gl (Bf n 0 Z Z Z)))
def CH(N:Nat)(e f:Ao)(q:Int)(b:Y0 (Int×Int×(Y0 (W1))×(Y0 (Int×W3))×Int×Int))(c:Y0 (Y3×W4×Int))(a:Int):Y1 (Aa0×(Y0 (Y3×W4×Int))):=ck (0<=a/\a<(c.length:Int)) (ck (0<=a/\a<(b.length:Int)) (if((c[a.toNat]!).1)=true then(BY N (e.1,e.2.1,e.2.2.1,e.2.2.2.1,e.2.2.2.2.1,e.2.2.2.2.2.1,e.2.2.2.2.2.2.1,e.2.2.2.2.2.2.2.1,e.2.2.2.2.2.2.2.2.1,e.2.2.2.2.2.2.2.2.2.1,e.2.2.2.2.2.2.2.2.2.2.1,e.2.2.2.2.2.2.2.2.2.2.2.1,e.2.2.2.2.2.2.2.2.2.2.2.2.1,e.2.2.2.2.2.2.2.2.2.2.2.2.2.1,e.2.2.2.2.2.2.2.2.2.2.2.2.2.2.1,e.2.2.2.2.2.2.2.2.2.2.2.2.2.2.2.1,e.2.2.2.2.2.2.2.2.2.2.2.2.2.2.2.2.1,e.2.2.2.2.2.2.2.2.2.2.2.2.2.2.2.2.2,f.1,f.2.1,f.2.2.1,f.2.2.2.1,f.2.2.2.2.1,f.2.2.2.2.2.1,f.2.2.2.2.2.2.1,f.2.2.2.2.2.2.2.1,f.2.2.2.2.2.2.2.2.1,f.2.2.2.2.2.2.2.2.2.1,f.2.2.2.2.2.2.2.2.2.2.1,f.2.2.2.2.2.2.2.2.2.2.2.1,f.2.2.2.2.2.2.2.2.2.2.2.2.1,f.2.2.2.2.2.2.2.2.2.2.2.2.2.1,f.2.2.2.2.2.2.2.2.2.2.2.2.2.2.1,f.2.2.2.2.2.2.2.2.2.2.2.2.2.2.2.1,f.2.2.2.2.2.2.2.2.2.2.2.2.2.2.2.2.1,f.2.2.2.2.2.2.2.2.2.2.2.2.2.2.2.2.2,q,b,c) a ((c[a.toNat]!).2.1)).bind λh=>Aa0.on h.2.2 ((HN N e (b[a.toNat]!.1) (b[a.toNat]!.2.1) (b[a.toNat]!.2.2.1) (b[a.toNat]!.2.2.2.1) (b[a.toNat]!.2.2.2.2.1) (b[a.toNat]!.2.2.2.2.2)).bind λg=>ck ((R64 ((c[a.toNat]!).2.2+g))) (ck (0<=b[a.toNat]!.2.2.2.2.1/\b[a.toNat]!.2.2.2.2.1<(c.length:Int)) ((GJ N ((c[(b[a.toNat]!.2.2.2.2.1).toNat]!).1) ((c[(b[a.toNat]!.2.2.2.2.1).toNat]!).2.1) ((c[(b[a.toNat]!.2.2.2.2.1).toNat]!).2.2) h.1 ((c[a.toNat]!).2.2+g)).bind λd=>ck (0<=b[a.toNat]!.2.2.2.2.1/\b[a.toNat]!.2.2.2.2.1<(c.length:Int)) (if(b[a.toNat]!.1:Int)≠2 then ck (0<=b[a.toNat]!.2.2.2.2.2/\b[a.toNat]!.2.2.2.2.2<(((c).set ((b[a.toNat]!.2.2.2.2.1).toNat) (d.1,d.2.1,d.2.2)).length:Int)) ((GJ N ((((c).set ((b[a.toNat]!.2.2.2.2.1).toNat) (d.1,d.2.1,d.2.2))[(b[a.toNat]!.2.2.2.2.2).toNat]!).1) ((((c).set ((b[a.toNat]!.2.2.2.2.1).toNat) (d.1,d.2.1,d.2.2))[(b[a.toNat]!.2.2.2.2.2).toNat]!).2.1) ((((c).set ((b[a.toNat]!.2.2.2.2.1).toNat) (d.1,d.2.1,d.2.2))[(b[a.toNat]!.2.2.2.2.2).toNat]!).2.2) h.2.1 ((c[a.toNat]!).2.2+g)).bind λi=>ck (0<=b[a.toNat]!.2.2.2.2.2/\b[a.toNat]!.2.2.2.2.2<(((c).set ((b[a.toNat]!.2.2.2.2.1).toNat) (d.1,d.2.1,d.2.2)).length:Int)) (some (.nil,((c).set ((b[a.toNat]!.2.2.2.2.1).toNat) (d.1,d.2.1,d.2.2)).set ((b[a.toNat]!.2.2.2.2.2).toNat) (i.1,i.2.1,i.2.2))))else some (.nil,(c).set ((b[a.toNat]!.2.2.2.2.1).toNat) (d.1,d.2.1,d.2.2)))))) (λm n o k=>some ((.t56 m n o k),c)) (λp l j=>some ((.t78 p l j),c))else some (.nil,c)))
theorem cE{a:Y0 Bl}(l: ∀x∈a,∃b,x.2.2[0]? =some (Value.bool b))(w d:World)(h:Gt w)(m: ∀x∈a,Holds w x.1 x.2.1 x.2.2)(n:Kept w.heap.size (a.map (·.1)) w d):Gt d:=by
  obtain⟨f,i,j,c⟩:=h
  refine⟨f,i,j, ?_⟩
  unfold yF Lib.TabIs World.var? at c ⊢
  cases hg:Tryz.prog.globalNamed "shunter/image.metaWidths" with
  |none=>simp [hg] at c
  |some g=>
    simp only [hg,q0] at c ⊢
    rcases Nat.lt_or_ge g w.heap.size with lt|ge
    · have k:g ∉ a.map (·.1):=λhm=>by
        obtain⟨x,hx,rfl⟩:=List.mem_map.1 hm
        obtain⟨b,hb⟩:=l x hx
        rcases m x hx with⟨_,fr,hc,_⟩|⟨hc,_⟩|⟨hc,_⟩
        · rw [hc] at c
          have e:=q3 c
          rw [e] at hb
          simp [FE] at hb
        · rw [hc] at hb;simp at hb
        · rw [hc] at hb;simp at hb
      rw [n.block g lt k];exact c
    · rw [Array.getElem?_eq_none ge] at c;cases c
theorem slB{α:Type}{e:TypeId}{E:Enc α}{v:Y2}{c:Y0 α}{S:Y0 Bl}(h:Sl e E v c S)(g:0<c.length)(j: ∀x,∃b,(E.f x)[0]? =some (Value.bool b)): ∀x∈S,∃b,x.2.2[0]? =some (Value.bool b):=λy hy=>by
  rcases h with⟨_,_,rfl,_⟩|⟨b,cap,cs,_,_,_,i,rfl⟩
  · exact absurd g (Nat.lt_irrefl 0)
  · obtain rfl:=List.mem_singleton.1 hy
    obtain⟨d,hb⟩:=j c[0]
    have a:=E.all_get (zv g) 0 (Value.bool d) hb
    rw [<-i,Nat.zero_mul,q7] at a
    refine⟨d, ?_⟩
    rw [List.getElem?_take] at a
    split at a
    · rw [<-Array.getElem?_toList];exact a
    · cases a
theorem Qq(N j l p e d a r)(t:CH N j l p e d a=some r)(ro)(b:AC)(q:Aa2 ro b j)(c:AC)(s:Aa2 ro c l)(h)(K:RdN Ab9 ro h e)(g:Y2)(f:Y0 Bl)(u:Sl 83 QB g d f):DoesI prog 12 #[vA #[vS j.1,b.1,b.2.1,b.2.2.1,b.2.2.2.1,b.2.2.2.2.1,b.2.2.2.2.2.1,b.2.2.2.2.2.2.1,b.2.2.2.2.2.2.2.1,(D8 b).1,(D8 b).2.1,(D8 b).2.2.1,(D8 b).2.2.2.1,(D8 b).2.2.2.2.1,(D8 b).2.2.2.2.2,vI (D8 j).2.2.2.2.2.2.2.1,vI (D16 j).1,vI (D16 j).2,vS l.1,c.1,c.2.1,c.2.2.1,c.2.2.2.1,c.2.2.2.2.1,c.2.2.2.2.2.1,c.2.2.2.2.2.2.1,c.2.2.2.2.2.2.2.1,(D8 c).1,(D8 c).2.1,(D8 c).2.2.1,(D8 c).2.2.2.1,(D8 c).2.2.2.2.1,(D8 c).2.2.2.2.2,vI (D8 l).2.2.2.2.2.2.2.1,vI (D16 l).1,vI (D16 l).2,vI p,h,g],vI a] Gt ro (V2 [f]) (pO (V2 [f]) (oI 83 QB g r.2 (Aa0.onP r.1 (oE V6 []) (λy0_0 y0_1 y0_2 y0_3=>(oB 58 #[vI y0_0,vI y0_1,vI y0_2,vI y0_3] λbs_0=>(oE (V5 56 (vP bs_0 0)) []))) (λy0_0 y0_1 y0_2=>(oB 80 #[vI y0_0,vI y0_1,vI y0_2] λbs_0=>(oE (V5 78 (vP bs_0 0)) [])))))):=by
 unfold CH at t
 obtain⟨ckm_,_⟩:=LN t
 refine UL follows func12 Z 74 Z _ fz2 (cE (λx hx=>slB u (by omega) (λy=>⟨y.1,Z⟩) x (by simpa using hx))) (λan=> ?_)
 refine Ad ?_
 refine rA Z λA=>rz Z<|Aa λK3 ap=>HS [] (by decide+kernel) (λL=>AN)<|rm 3 [0] Z<|kC t λY t=>rI (W7 u) Y Z ?_
 refine rE (AB u (Al (Ls:=[(CQ A j b l c p h g),f]) (k:=1) Z Z)) Y 0 Z ?_
 refine rm 3 [0] Z<|kC t λaa t=> ?_
 obtain⟨_,⟨B,C,ab,ac,rfl⟩,hat10⟩:=RdN.at (E:=Ab9) K (Cp aa)
 refine rI (W9 K) aa Z<|Mk (vA #[vI (e[a.toNat]!.1),vI (e[a.toNat]!.2.1),B,C,vI (e[a.toNat]!.2.2.2.2.1),vI (e[a.toNat]!.2.2.2.2.2)]) (vs:=[vI (e[a.toNat]!.1),vI (e[a.toNat]!.2.1),B,C,vI (e[a.toNat]!.2.2.2.2.1),vI (e[a.toNat]!.2.2.2.2.2)]) (a.toNat*6) 0 Z Z (λo w z_=>At.mono z_.ro_cell hat10) Z<|rA Z λn=>rA Z λm=>ZX (V2 [(Vl m 0 0 nS nS 0 0),(Ei n ((d[a.toNat]!).1) ((d[a.toNat]!).2.1) ((d[a.toNat]!).2.2)),(CQ A j b l c p h g),f]) 1 _ _ _ (#[vB false,U (0#64),vI 0]) (#[vB ((d[a.toNat]!).1),U ((d[a.toNat]!).2.1),vI ((d[a.toNat]!).2.2)]) (#[vB ((d[a.toNat]!).1),U ((d[a.toNat]!).2.1),vI ((d[a.toNat]!).2.2)]) Z Z Z Z Z (.of Z Z) Z Z ?_
 refine ZX (V2 [(DF m e[a.toNat]! B C),(Ei n ((d[a.toNat]!).1) ((d[a.toNat]!).2.1) ((d[a.toNat]!).2.2)),(CQ A j b l c p h g),f]) 0 _ _ _ (#[vI 0,vI 0,nS,nS,vI 0,vI 0]) (#[vI (e[a.toNat]!.1),vI (e[a.toNat]!.2.1),B,C,vI (e[a.toNat]!.2.2.2.2.1),vI (e[a.toNat]!.2.2.2.2.2)]) (#[vI (e[a.toNat]!.1),vI (e[a.toNat]!.2.1),B,C,vI (e[a.toNat]!.2.2.2.2.1),vI (e[a.toNat]!.2.2.2.2.2)]) Z Z Z Z Z (.ofS Z Z (Ae Z (Ae Z (sR ab (sR ac (Ae Z (Ae Z AD))))))) Z Z ?_
 refine Aj<|ap _ _ ?_
 refine Aa λaw ad=>AY [1] Z<|BS _ Z (λG=> ?_) (λG=> ?_)
 ·replace t:=ifn (Bool.eq_false_iff.1 (DG G)) t
  refine AZ Z ?_
  cases t
  refine AU (λL=>CI (v0:=V6) (O:=[f]) (Gl Z) (W5 [(DF m e[a.toNat]! B C),(Ei n ((d[a.toNat]!).1) ((d[a.toNat]!).2.1) ((d[a.toNat]!).2.2)),(CQ A j b l c p h g),f] [3] Z) ⟨f,_,u,⟨Z,Z⟩,Z⟩)
 replace t:=ifp (DH G) t
 refine Ac<|ad _ _ ?_
 refine Aa λax H=>Ah ?_
 refine rm 1 [2] Z ?_
 refine rm 3 [1] Z<|kB t λD ae t=>gM (Ls:=[(DF m e[a.toNat]! B C),(Ei n ((d[a.toNat]!).1) ((d[a.toNat]!).2.1) ((d[a.toNat]!).2.2)),(CQ A j b l c p h g),f]) (FL:=[]) [] (cF uA) (λo w hn_ z_=>have i:=Fw (Ls:=[(DF m e[a.toNat]! B C),(Ei n ((d[a.toNat]!).1) ((d[a.toNat]!).2.1) ((d[a.toNat]!).2.2)),(CQ A j b l c p h g),f]) (is:=[]) Z z_;Pf N _ a _ _ ae _ (b.1,b.2.1,b.2.2.1,b.2.2.2.1,b.2.2.2.2.1,b.2.2.2.2.2.1,b.2.2.2.2.2.2.1,b.2.2.2.2.2.2.2.1,(D8 b).1,(D8 b).2.1,(D8 b).2.2.1,(D8 b).2.2.2.1,(D8 b).2.2.2.2.1,(D8 b).2.2.2.2.2,c.1,c.2.1,c.2.2.1,c.2.2.2.1,c.2.2.2.2.1,c.2.2.2.2.2.1,c.2.2.2.2.2.2.1,c.2.2.2.2.2.2.2.1,(D8 c).1,(D8 c).2.1,(D8 c).2.2.1,(D8 c).2.2.2.1,(D8 c).2.2.2.2.1,(D8 c).2.2.2.2.2,h,g) ⟨(V1 i q.1),(V0 i q.2.1),(V0 i q.2.2.1),(V1 i q.2.2.2.1),(V1 i q.2.2.2.2.1),(V1 i q.2.2.2.2.2.1),(V1 i q.2.2.2.2.2.2.1),(V1 i q.2.2.2.2.2.2.2.1),(V0 i q.2.2.2.2.2.2.2.2.1),(V0 i q.2.2.2.2.2.2.2.2.2.1),(V0 i q.2.2.2.2.2.2.2.2.2.2.1),(V0 i q.2.2.2.2.2.2.2.2.2.2.2.1),(V0 i q.2.2.2.2.2.2.2.2.2.2.2.2.1),(V0 i q.2.2.2.2.2.2.2.2.2.2.2.2.2),(V1 i s.1),(V0 i s.2.1),(V0 i s.2.2.1),(V1 i s.2.2.2.1),(V1 i s.2.2.2.2.1),(V1 i s.2.2.2.2.2.1),(V1 i s.2.2.2.2.2.2.1),(V1 i s.2.2.2.2.2.2.2.1),(V0 i s.2.2.2.2.2.2.2.2.1),(V0 i s.2.2.2.2.2.2.2.2.2.1),(V0 i s.2.2.2.2.2.2.2.2.2.2.1),(V0 i s.2.2.2.2.2.2.2.2.2.2.2.1),(V0 i s.2.2.2.2.2.2.2.2.2.2.2.2.1),(V0 i s.2.2.2.2.2.2.2.2.2.2.2.2.2),(V1 i K),(Ja (Ls:=[(DF m e[a.toNat]! B C),(Ei n ((d[a.toNat]!).1) ((d[a.toNat]!).2.1) ((d[a.toNat]!).2.2)),(CQ A j b l c p h g),f]) (is:=[]) 3 u Z Z hn_ z_)⟩) ?_
 rcases Aa0.cases D.2.2 with z|⟨x21_0,x22_1,x23_2,x24_3,z⟩|⟨x25_0,x26_1,x27_2,z⟩
 ·rintro _ _ hp_
  obtain⟨rfl,rfl⟩:=Aa0.onP_nil z hp_
  replace t:=Aa0.on_nil z t
  refine AK (Ls:=[(DF m e[a.toNat]! B C),(Ei n ((d[a.toNat]!).1) ((d[a.toNat]!).2.1) ((d[a.toNat]!).2.2)),(CQ A j b l c p h g),f]) (Ls':=[(DF m e[a.toNat]! B C),(Ei n ((d[a.toNat]!).1) ((d[a.toNat]!).2.1) ((d[a.toNat]!).2.2)),(CQ A j b l c p h g),f]) [0,1,2,3] Z Z ?_
  refine rz Z<|H _ _ ?_
  refine Aa λay af=>AZ Z<|CJ [(2,vP A 0),(5,vP n 0),(6,vP m 0),(7,U D.1),(8,U D.2.1),(9,V6),(34,vB false)] Z (λT=> ?_)
  refine Ch Z ?_
  refine Ac<|af _ _ ?_
  refine Aa λaz ag=>BO [(some 41,false)] (conG prog [(41,cV (HN N j (e[a.toNat]!.1) (e[a.toNat]!.2.1) (e[a.toNat]!.2.2.1) (e[a.toNat]!.2.2.2.1) (e[a.toNat]!.2.2.2.2.1) (e[a.toNat]!.2.2.2.2.2)) λaq=>vI aq)]) [] (by decide+kernel) (λL=>AN)<|rm 4 [1,2] Z ?_
  refine rm 1 [0] Z<|kB t λar M t=>rg _ (cF uz) (λo w z_=>(V3 (UN N j _ _ _ _ _ _ _ M z_.view b (Aa2.mono z_.ro_cell q) B (z_.r ab) C (z_.r ac)) _)) (Hq M)<|kC t λah t=>rX ah Z<|rz Z<|ag _ _ ?_
  refine Aa λba ai=>HS [] (by decide+kernel) (λL=>AN)<|rm 8 [2,0,2,0] Z<|kC t λP t=>rI (W7 u) P Z ?_
  refine rE (AB u (Al (Ls:=[(DF m e[a.toNat]! B C),(Ei n ((d[a.toNat]!).1) ((d[a.toNat]!).2.1) ((d[a.toNat]!).2.2)),(CQ A j b l c p h g),f]) (k:=3) Z Z)) P 0 Z ?_
  refine rn 2 Z<|kB t λF aj t=>rc _ (cF jo) (OJ N _ _ _ D.1 _ _ aj)<|kC t λQ t=>rI (W7 u) Q Z ?_
  refine QR (Ls:=[(DF m e[a.toNat]! B C),(Ei n ((d[a.toNat]!).1) ((d[a.toNat]!).2.1) ((d[a.toNat]!).2.2)),(CQ A j b l c p h g),f]) 3 (En:=QB) (d[(e[a.toNat]!.2.2.2.2.1).toNat]!) (F.1,F.2.1,F.2.2) ((e[a.toNat]!.2.2.2.2.1).toNat) 0 Z Z Z u (Cp Q) Z Z Z (It Z) Z (λI J=> ?_)
  refine Aj<|ai _ _ ?_
  refine Aa λbb R=>AY [0] Z<|CJ [(2,vP A 0),(6,vP m 0),(8,U D.2.1),(10,vI ((d[a.toNat]!).2.2+ar)),(59,vB ((e[a.toNat]!.1:Int) !=2))] Z (λT=> ?_)
  refine aN t Z (λak t=> ?_) (λak t=> ?_)
  ·refine HS [] (by decide+kernel) (λL=>AN)<|rm 8 [2,0,2,0] Z<|kC t λS t=>rI (W7 J) S Z ?_
   refine rE (AB J (Al (Ls:=[(DF m e[a.toNat]! B C),(Ei n ((d[a.toNat]!).1) ((d[a.toNat]!).2.1) ((d[a.toNat]!).2.2)),(CQ A j b l c p h g),I]) (k:=3) Z Z)) S 0 Z ?_
   refine rn 2 Z<|kB t λW al t=>rc _ (cF jo) (OJ N _ _ _ D.2.1 _ _ al)<|kC t λV t=>rI (W7 J) V Z ?_
   refine QR (Ls:=[(DF m e[a.toNat]! B C),(Ei n ((d[a.toNat]!).1) ((d[a.toNat]!).2.1) ((d[a.toNat]!).2.2)),(CQ A j b l c p h g),I]) 3 (En:=QB) (((d).set ((e[a.toNat]!.2.2.2.2.1).toNat) (F.1,F.2.1,F.2.2))[(e[a.toNat]!.2.2.2.2.2).toNat]!) (W.1,W.2.1,W.2.2) ((e[a.toNat]!.2.2.2.2.2).toNat) 0 Z Z Z J (Cp V) Z Z Z (It Z) Z (λX au=> ?_)
   refine Aj<|R _ _ ?_
   refine AZ Z ?_
   cases t
   refine AU (λL=>CI (v0:=V6) (O:=[X]) (Gl Z) (W5 [(DF m e[a.toNat]! B C),(Ei n ((d[a.toNat]!).1) ((d[a.toNat]!).2.1) ((d[a.toNat]!).2.2)),(CQ A j b l c p h g),X] [3] Z) ⟨X,_,au,⟨Z,Z⟩,Z⟩)
  refine Ac<|R _ _ ?_
  refine AZ Z ?_
  cases t
  refine AU (λL=>CI (v0:=V6) (O:=[I]) (Gl Z) (W5 [(DF m e[a.toNat]! B C),(Ei n ((d[a.toNat]!).1) ((d[a.toNat]!).2.1) ((d[a.toNat]!).2.2)),(CQ A j b l c p h g),I] [3] Z) ⟨I,_,J,⟨Z,Z⟩,Z⟩)
 ·rintro _ _ hp_
  obtain⟨v,_,⟨rfl,rfl⟩,rfl⟩:=Aa0.onP_t56 z hp_
  replace t:=Aa0.on_t56 z t
  refine AK (Ls:=[(DF m e[a.toNat]! B C),(Ei n ((d[a.toNat]!).1) ((d[a.toNat]!).2.1) ((d[a.toNat]!).2.2)),(CQ A j b l c p h g),f,(HK v x21_0 x22_1 x23_2 x24_3)]) (Ls':=[(DF m e[a.toNat]! B C),(Ei n ((d[a.toNat]!).1) ((d[a.toNat]!).2.1) ((d[a.toNat]!).2.2)),(CQ A j b l c p h g),(HK v x21_0 x22_1 x23_2 x24_3),f]) [0,1,2,4,3] Z Z ?_
  refine rz Z<|H _ _ ?_
  refine Aa λav am=>AZ Z<|CJ [(2,vP A 0),(5,vP n 0),(6,vP m 0),(7,U D.1),(8,U D.2.1),(9,V5 56 (vP v 0)),(34,vB true)] Z (λT=> ?_)
  refine JO Z ?_
  refine AZ Z ?_
  cases t
  refine AU (λL=>CI (v0:=V5 56 (vP v 0)) (O:=[f,(HK v x21_0 x22_1 x23_2 x24_3)]) (Gl Z) (W5 [(DF m e[a.toNat]! B C),(Ei n ((d[a.toNat]!).1) ((d[a.toNat]!).2.1) ((d[a.toNat]!).2.2)),(CQ A j b l c p h g),(HK v x21_0 x22_1 x23_2 x24_3),f] [4,3] Z) ⟨f,_,u,⟨v,_,⟨Z,Z⟩,Z⟩,Z⟩)
 rintro _ _ hp_
 obtain⟨v,_,⟨rfl,rfl⟩,rfl⟩:=Aa0.onP_t78 z hp_
 replace t:=Aa0.on_t78 z t
 refine AK (Ls:=[(DF m e[a.toNat]! B C),(Ei n ((d[a.toNat]!).1) ((d[a.toNat]!).2.1) ((d[a.toNat]!).2.2)),(CQ A j b l c p h g),f,(Kk v x25_0 x26_1 x27_2)]) (Ls':=[(DF m e[a.toNat]! B C),(Ei n ((d[a.toNat]!).1) ((d[a.toNat]!).2.1) ((d[a.toNat]!).2.2)),(CQ A j b l c p h g),(Kk v x25_0 x26_1 x27_2),f]) [0,1,2,4,3] Z Z ?_
 refine rz Z<|H _ _ ?_
 refine Aa λav am=>AZ Z<|CJ [(2,vP A 0),(5,vP n 0),(6,vP m 0),(7,U D.1),(8,U D.2.1),(9,V5 78 (vP v 0)),(34,vB true)] Z (λT=> ?_)
 refine JO Z ?_
 refine AZ Z ?_
 cases t
 refine AU (λL=>CI (v0:=V5 78 (vP v 0)) (O:=[f,(Kk v x25_0 x26_1 x27_2)]) (Gl Z) (W5 [(DF m e[a.toNat]! B C),(Ei n ((d[a.toNat]!).1) ((d[a.toNat]!).2.1) ((d[a.toNat]!).2.2)),(CQ A j b l c p h g),(Kk v x25_0 x26_1 x27_2),f] [4,3] Z) ⟨f,_,u,⟨v,_,⟨Z,Z⟩,Z⟩,Z⟩)
def BX(b:LC):Nat->Int->Y0 Y3->Y0 (W4)->W4->Int->Y1 ((Y0 Y3)×(Y0 (W4))×(W4)×Int)
  |0,_,_,_,_,_=>none
  |g+1,a,c,d,f,e=>if a<(((((GI b)).take ((((D16 (D16 b)).2.2.2.2.2.1.length:Int)).toNat)).drop 0).length:Int)then ck (0<=a/\a<(((((GI b)).take ((((D16 (D16 b)).2.2.2.2.2.1.length:Int)).toNat)).drop 0).length:Int)) (ck ((c).length+([(((((GI b)).take ((((D16 (D16 b)).2.2.2.2.2.1.length:Int)).toNat)).drop 0)[a.toNat]!).1]).length<=140737488355328) (ck ((d).length+([(((((GI b)).take ((((D16 (D16 b)).2.2.2.2.2.1.length:Int)).toNat)).drop 0)[a.toNat]!).2.1]).length<=17592186044416) (ck (R64 (a+1)) ((BX b g) (a+1) ((c++([(((((GI b)).take ((((D16 (D16 b)).2.2.2.2.2.1.length:Int)).toNat)).drop 0)[a.toNat]!).1]))) ((d++([(((((GI b)).take ((((D16 (D16 b)).2.2.2.2.2.1.length:Int)).toNat)).drop 0)[a.toNat]!).2.1]))) f e))))else some (c,d,f,e)
def EG(N:Nat)(a:LC):Y1 ((Y0 Y3)×(Y0 (W4))×(W4)×Int):=ck (0<=((D16 (D16 a)).2.2.2.2.2.1.length:Int)/\((D16 (D16 a)).2.2.2.2.2.1.length:Int)<((D16 (D16 a)).2.2.2.2.2.2.length:Int)) (ck (0<=((D16 (D16 a)).2.2.2.2.2.1.length:Int)/\((D16 (D16 a)).2.2.2.2.2.1.length:Int)<((D16 (D16 a)).2.2.2.2.2.2.length:Int)) (ck (0<=((D16 (D16 a)).2.2.2.2.2.1.length:Int)/\((D16 (D16 a)).2.2.2.2.2.1.length:Int)<=((D16 (D16 a)).2.2.2.2.2.2.length:Int)) (BX a N 0 ([]) ([]) ((((GI a))[(((D16 (D16 a)).2.2.2.2.2.1.length:Int)).toNat]!).2.1) ((((GI a))[(((D16 (D16 a)).2.2.2.2.2.1.length:Int)).toNat]!).2.2))))
theorem PI(N a r)(c:EG N a=some r)(M)(o:QI)(d:Ae9 M o a):Does prog 13 #[vA (Bc a o)] M [] (pO [] (oS 4 Ot r.1 λs_0=>(oS 42 nA r.2.1 λs_1=>(oE (vA #[s_0,s_1,U r.2.2.1,vI r.2.2.2]) [])))):=by
 unfold EG at c
 refine BZ follows func13 Z 48 Z _ fz1 (λ_ _ h_ _=>h_) (λF=> ?_)
 refine Ad<|rA Z λG=>rA Z λi=>Aj<|Ad<|rm 2 [1] Z<|rL (W9 d.2.2.2.2.2.2.2.2.2.2.2.2.2.2.2.2.2.2.2.2.2.2.2.2.2.2.2.2.1) Z<|rz Z<|Aa λV H=>HS [] (by decide+kernel) (λL=>AN)<|rm 2 [1] Z ?_
 refine rn 1 Z<|kC c λw c=>rI (W8 d.2.2.2.2.2.2.2.2.2.2.2.2.2.2.2.2.2.2.2.2.2.2.2.2.2.2.2.2.2) w Z<|rF (W8 d.2.2.2.2.2.2.2.2.2.2.2.2.2.2.2.2.2.2.2.2.2.2.2.2.2.2.2.2.2) (Bp w) Z ?_
 refine rE (Ay d.2.2.2.2.2.2.2.2.2.2.2.2.2.2.2.2.2.2.2.2.2.2.2.2.2.2.2.2.2) w 1 Z<|rn 1 Z ?_
 refine rm 2 [1] Z<|kC c λx c=>rI (W8 d.2.2.2.2.2.2.2.2.2.2.2.2.2.2.2.2.2.2.2.2.2.2.2.2.2.2.2.2.2) x Z<|rF (W8 d.2.2.2.2.2.2.2.2.2.2.2.2.2.2.2.2.2.2.2.2.2.2.2.2.2.2.2.2.2) (Bp x) Z ?_
 refine rE (Ay d.2.2.2.2.2.2.2.2.2.2.2.2.2.2.2.2.2.2.2.2.2.2.2.2.2.2.2.2.2) x 2 Z ?_
 refine r_W (vA #[nS,nS,U ((((GI a))[(((D16 (D16 a)).2.2.2.2.2.1.length:Int)).toNat]!).2.1),vI ((((GI a))[(((D16 (D16 a)).2.2.2.2.2.1.length:Int)).toNat]!).2.2)]) Z (Ar Z Z Z Z)<|rA Z λj=>ZX [(j,44, #[nS,nS,U ((((GI a))[(((D16 (D16 a)).2.2.2.2.2.1.length:Int)).toNat]!).2.1),vI ((((GI a))[(((D16 (D16 a)).2.2.2.2.2.1.length:Int)).toNat]!).2.2)]),(i,44, #[nS,nS,U (0#64),vI 0]),(G,61,(Bc a o))] 0 _ _ _ (#[nS,nS,U (0#64),vI 0]) (#[nS,nS,U ((((GI a))[(((D16 (D16 a)).2.2.2.2.2.1.length:Int)).toNat]!).2.1),vI ((((GI a))[(((D16 (D16 a)).2.2.2.2.2.1.length:Int)).toNat]!).2.2)]) (#[nS,nS,U ((((GI a))[(((D16 (D16 a)).2.2.2.2.2.1.length:Int)).toNat]!).2.1),vI ((((GI a))[(((D16 (D16 a)).2.2.2.2.2.1.length:Int)).toNat]!).2.2)]) Z Z Z Z Z (.ofS Z Z (sE (sE (Ae Z (Ae Z AD))))) Z Z ?_
 refine Aj<|H _ _ ?_
 refine Aa λW I=>Ad<|rm 3 [2] Z<|kC c λe c=>r_W (GX (D16 o).2.2.2.2.2.2.2.2.2.2.2.2.2 0 ((((D16 (D16 a)).2.2.2.2.2.1.length:Int)).toNat) 3) Z (GV (ID Z Z Z Z (W8 d.2.2.2.2.2.2.2.2.2.2.2.2.2.2.2.2.2.2.2.2.2.2.2.2.2.2.2.2.2) e)) ?_
 refine rL (ZM (Shp.sub (W8 d.2.2.2.2.2.2.2.2.2.2.2.2.2.2.2.2.2.2.2.2.2.2.2.2.2.2.2.2.2) (Nat.zero_le _) (Fy e.2)) (fR (Fy e.2))) Z<|rz Z<|Ai ?_
 refine BF _ (W6 (Ls:=[(AF j nS nS ((((GI a))[(((D16 (D16 a)).2.2.2.2.2.1.length:Int)).toNat]!).2.1) ((((GI a))[(((D16 (D16 a)).2.2.2.2.2.1.length:Int)).toNat]!).2.2)),(AF i nS nS (0#64) 0),[(G,61,(Bc a o))],[],[]]) (Ls0:=[(AF j nS nS ((((GI a))[(((D16 (D16 a)).2.2.2.2.2.1.length:Int)).toNat]!).2.1) ((((GI a))[(((D16 (D16 a)).2.2.2.2.2.1.length:Int)).toNat]!).2.2)),(AF i nS nS (0#64) 0),[(G,61,(Bc a o))]]) Z [0,1,3,4] Z) ?_
 refine AL (λtt ll nn=> ∃(m:Nat) (b:Int) (m2__0:Y0 Y3) (m2__1:Y0 (W4)) (m2__2:W4) (m2__3:Int),(BX a m b m2__0 m2__1 m2__2 m2__3=some r)/\ ∃(vm2__0:Y2) (Sm2__0:Y0 Bl),Sl 4 Ot vm2__0 m2__0 Sm2__0/\ ∃(vm2__1:Y2) (Sm2__1:Y0 Bl),Sl 42 nA vm2__1 m2__1 Sm2__1/\Is [(2,vP i 0),(4,vP j 0),(26,GX (D16 o).2.2.2.2.2.2.2.2.2.2.2.2.2 0 ((((D16 (D16 a)).2.2.2.2.2.1.length:Int)).toNat) 3),(27,vI ((((((GI a)).take ((((D16 (D16 a)).2.2.2.2.2.1.length:Int)).toNat)).drop 0).length:Int))),(28,vI b)] (V2 [(AF j vm2__0 vm2__1 m2__2 m2__3),(AF i nS nS (0#64) 0),Sm2__0,Sm2__1]) tt ll/\nn=m+1) (N+1) ?_ ?_
 ·exact⟨N,0,[],[],(((GI a))[(((D16 (D16 a)).2.2.2.2.2.1.length:Int)).toNat]!).2.1,(((GI a))[(((D16 (D16 a)).2.2.2.2.2.1.length:Int)).toNat]!).2.2,c,nS,[],Sl.nil,nS,[],Sl.nil,Ag Z Z,Z⟩
 clear c;rintro t l _ ⟨m,b,m2__0,m2__1,m2__2,m2__3,c,vm2__0,Sm2__0,hm2__0,vm2__1,Sm2__1,hm2__1,⟨⟨T,rfl⟩,rfl⟩,rfl⟩
 rcases m with _|m
 ·exact absurd c (by simp [BX])
 rw [BX] at c
 refine AZ Z<|Aa λP B=>aD c Z (λC c=> ?_) (λC c=> ?_)
 ·refine Ac<|B _ _ ?_
  refine Aa λQ D=>Ai<|Ad<|kC c λs c=>rI (ZM (Shp.sub (W8 d.2.2.2.2.2.2.2.2.2.2.2.2.2.2.2.2.2.2.2.2.2.2.2.2.2.2.2.2.2) (Nat.zero_le _) (Fy e.2)) (fR (Fy e.2))) s Z ?_
  refine rE (Ql (Ay d.2.2.2.2.2.2.2.2.2.2.2.2.2.2.2.2.2.2.2.2.2.2.2.2.2.2.2.2.2) (Nat.zero_le _) (Fy e.2)) s 0 Z ?_
  refine rA Z λf=>rm 1 [0] Z ?_
  refine Aj<|Ad<|rm 4 [1,0] Z<|cD 36 ?_
  refine KP (cs0:=[]) (Ls:=[(Ei f ((((((GI a)).take ((((D16 (D16 a)).2.2.2.2.2.1.length:Int)).toNat)).drop 0)[b.toNat]!).1) ((((((GI a)).take ((((D16 (D16 a)).2.2.2.2.2.1.length:Int)).toNat)).drop 0)[b.toNat]!).2.1) ((((((GI a)).take ((((D16 (D16 a)).2.2.2.2.2.1.length:Int)).toNat)).drop 0)[b.toNat]!).2.2)),(AF j vm2__0 vm2__1 m2__2 m2__3),(AF i nS nS (0#64) 0),Sm2__0,Sm2__1]) 4 Ot [(((((GI a)).take ((((D16 (D16 a)).2.2.2.2.2.1.length:Int)).toNat)).drop 0)[b.toNat]!).1] [vB ((((((GI a)).take ((((D16 (D16 a)).2.2.2.2.2.1.length:Int)).toNat)).drop 0)[b.toNat]!).1)] [vB false] Z Z Z Z Z Z Z (by kernel_rfl) (by kernel_rfl) Z Z Z (λR h J=> ?_)
  refine kC c λu c=>cC 37 ?_
  refine Ln (cs0:=[]) (Ls:=[(Ei f ((((((GI a)).take ((((D16 (D16 a)).2.2.2.2.2.1.length:Int)).toNat)).drop 0)[b.toNat]!).1) ((((((GI a)).take ((((D16 (D16 a)).2.2.2.2.2.1.length:Int)).toNat)).drop 0)[b.toNat]!).2.1) ((((((GI a)).take ((((D16 (D16 a)).2.2.2.2.2.1.length:Int)).toNat)).drop 0)[b.toNat]!).2.2)),(AF j vm2__0 vm2__1 m2__2 m2__3),(AF i nS nS (0#64) 0),Sm2__0,Sm2__1,h]) 3 (En:=Ot) Z Z Z Z Z hm2__0 Z (AB J (Al (Ls:=[(Ei f ((((((GI a)).take ((((D16 (D16 a)).2.2.2.2.2.1.length:Int)).toNat)).drop 0)[b.toNat]!).1) ((((((GI a)).take ((((D16 (D16 a)).2.2.2.2.2.1.length:Int)).toNat)).drop 0)[b.toNat]!).2.1) ((((((GI a)).take ((((D16 (D16 a)).2.2.2.2.2.1.length:Int)).toNat)).drop 0)[b.toNat]!).2.2)),(AF j vm2__0 vm2__1 m2__2 m2__3),(AF i nS nS (0#64) 0),Sm2__0,Sm2__1,h]) (k:=5) Z Z)) Z Z Z Z Z (LB u Z) (LA u Z) Z (λg n y=> ?_)
  refine rn 1 Z ?_
  refine r_s (V2 [(Ei f ((((((GI a)).take ((((D16 (D16 a)).2.2.2.2.2.1.length:Int)).toNat)).drop 0)[b.toNat]!).1) ((((((GI a)).take ((((D16 (D16 a)).2.2.2.2.2.1.length:Int)).toNat)).drop 0)[b.toNat]!).2.1) ((((((GI a)).take ((((D16 (D16 a)).2.2.2.2.2.1.length:Int)).toNat)).drop 0)[b.toNat]!).2.2)),(AF j g vm2__1 m2__2 m2__3),(AF i nS nS (0#64) 0),n,Sm2__1,h]) 1 _ _ _ _ _ (#[g,vm2__1,U m2__2,vI m2__3]) Z Z Z (CR Z (W7 y)) (.ofS Z Z (sS y AD)) Z Z ?_
  refine Aj<|Ah<|rm 4 [1,0] Z<|cD 43 ?_
  refine KP (cs0:=[]) (Ls:=[(Ei f ((((((GI a)).take ((((D16 (D16 a)).2.2.2.2.2.1.length:Int)).toNat)).drop 0)[b.toNat]!).1) ((((((GI a)).take ((((D16 (D16 a)).2.2.2.2.2.1.length:Int)).toNat)).drop 0)[b.toNat]!).2.1) ((((((GI a)).take ((((D16 (D16 a)).2.2.2.2.2.1.length:Int)).toNat)).drop 0)[b.toNat]!).2.2)),(AF j g vm2__1 m2__2 m2__3),(AF i nS nS (0#64) 0),n,Sm2__1,h]) 42 nA [(((((GI a)).take ((((D16 (D16 a)).2.2.2.2.2.1.length:Int)).toNat)).drop 0)[b.toNat]!).2.1] [U ((((((GI a)).take ((((D16 (D16 a)).2.2.2.2.2.1.length:Int)).toNat)).drop 0)[b.toNat]!).2.1)] [U (0#64)] Z Z Z Z Z Z Z (by kernel_rfl) (by kernel_rfl) Z Z Z (λS p K=> ?_)
  refine kC c λv c=>cC 44 ?_
  refine Ln (cs0:=[]) (Ls:=[(Ei f ((((((GI a)).take ((((D16 (D16 a)).2.2.2.2.2.1.length:Int)).toNat)).drop 0)[b.toNat]!).1) ((((((GI a)).take ((((D16 (D16 a)).2.2.2.2.2.1.length:Int)).toNat)).drop 0)[b.toNat]!).2.1) ((((((GI a)).take ((((D16 (D16 a)).2.2.2.2.2.1.length:Int)).toNat)).drop 0)[b.toNat]!).2.2)),(AF j g vm2__1 m2__2 m2__3),(AF i nS nS (0#64) 0),n,Sm2__1,h,p]) 4 (En:=nA) Z Z Z Z Z hm2__1 Z (AB K (Al (Ls:=[(Ei f ((((((GI a)).take ((((D16 (D16 a)).2.2.2.2.2.1.length:Int)).toNat)).drop 0)[b.toNat]!).1) ((((((GI a)).take ((((D16 (D16 a)).2.2.2.2.2.1.length:Int)).toNat)).drop 0)[b.toNat]!).2.1) ((((((GI a)).take ((((D16 (D16 a)).2.2.2.2.2.1.length:Int)).toNat)).drop 0)[b.toNat]!).2.2)),(AF j g vm2__1 m2__2 m2__3),(AF i nS nS (0#64) 0),n,Sm2__1,h,p]) (k:=6) Z Z)) Z Z Z Z Z (LB v Z) (LA v Z) Z (λq z A=> ?_)
  refine rn 1 Z ?_
  refine r_s (V2 [(Ei f ((((((GI a)).take ((((D16 (D16 a)).2.2.2.2.2.1.length:Int)).toNat)).drop 0)[b.toNat]!).1) ((((((GI a)).take ((((D16 (D16 a)).2.2.2.2.2.1.length:Int)).toNat)).drop 0)[b.toNat]!).2.1) ((((((GI a)).take ((((D16 (D16 a)).2.2.2.2.2.1.length:Int)).toNat)).drop 0)[b.toNat]!).2.2)),(AF j g q m2__2 m2__3),(AF i nS nS (0#64) 0),n,z,h,p]) 1 _ _ _ _ _ (#[g,q,U m2__2,vI m2__3]) Z Z Z (CR Z (W7 A)) (.ofS Z Z (sS A AD)) Z Z ?_
  refine Aj<|D _ _ ?_
  refine Ah<|kC c λE c=>rX E Z<|rz Z ?_
  refine fg _ (W5 [(Ei f ((((((GI a)).take ((((D16 (D16 a)).2.2.2.2.2.1.length:Int)).toNat)).drop 0)[b.toNat]!).1) ((((((GI a)).take ((((D16 (D16 a)).2.2.2.2.2.1.length:Int)).toNat)).drop 0)[b.toNat]!).2.1) ((((((GI a)).take ((((D16 (D16 a)).2.2.2.2.2.1.length:Int)).toNat)).drop 0)[b.toNat]!).2.2)),(AF j g q m2__2 m2__3),(AF i nS nS (0#64) 0),n,z,h,p] [1,2,3,4] Z) ?_
  exact⟨m+1,by omega,m,(b+1),(m2__0++([(((((GI a)).take ((((D16 (D16 a)).2.2.2.2.2.1.length:Int)).toNat)).drop 0)[b.toNat]!).1])),(m2__1++([(((((GI a)).take ((((D16 (D16 a)).2.2.2.2.2.1.length:Int)).toNat)).drop 0)[b.toNat]!).2.1])),m2__2,m2__3,c,g,n,y,q,z,A,Ag Z Z,Z⟩
 refine AM<|I _ _ ?_
 refine Ad<|rm 1 [0] Z<|r_s (V2 [(AF j vm2__0 vm2__1 m2__2 m2__3),(AF i vm2__0 vm2__1 m2__2 m2__3),Sm2__0,Sm2__1]) 1 _ _ _ _ _ (#[vm2__0,vm2__1,U m2__2,vI m2__3]) Z Z Z Z (.ofS Z Z (sS hm2__0 (sS hm2__1 (Ae Z (Ae Z AD))))) Z Z<|Aj ?_
 cases c
 refine AU (λL=>CI (v0:=vA #[vm2__0,vm2__1,U m2__2,vI m2__3]) (O:=[Sm2__0,Sm2__1]) (Gl (Bf L 1 Z Z Z)) (W5 [(AF j vm2__0 vm2__1 m2__2 m2__3),(AF i vm2__0 vm2__1 m2__2 m2__3),Sm2__0,Sm2__1] [2,3] Z) ⟨vm2__0,Sm2__0,_,hm2__0,⟨vm2__1,Sm2__1,_,hm2__1,⟨Z,Z⟩,Z⟩,Z⟩)
theorem Uv{c:Addr->Y1 Y2}{x}{a:Y0 Y2}(h:(Km).V c x a):(Ad8).R c x a:=by obtain⟨_,_,rfl,⟨_,_,⟨b,rfl,d⟩,⟨_,_,⟨e,rfl,f⟩,⟨_,_,⟨g,rfl,i⟩,rfl,rfl⟩,rfl⟩,rfl⟩,rfl⟩:=h;exact⟨b,e,g,d,f,i,Z⟩
theorem SL{c:Addr->Y1 Y2}{x}{a:Y0 Y2}(h:(Tx).V c x a):(Ac7).R c x a:=by obtain⟨_,_,rfl,⟨_,_,⟨b,rfl,d⟩,⟨e,rfl,f⟩,rfl⟩,rfl⟩:=h;exact⟨b,e,d,f,Z⟩
theorem SM{c:Addr->Y1 Y2}{x}{a:Y0 Y2}(h:(Ty).V c x a):(Ad4).R c x a:=by obtain⟨_,_,rfl,⟨_,_,rfl,⟨_,_,⟨b,rfl,d⟩,⟨_,_,⟨e,rfl,f⟩,⟨_,_,rfl,⟨_,_,⟨g,rfl,i⟩,rfl,rfl⟩,rfl⟩,rfl⟩,rfl⟩,rfl⟩,rfl⟩:=h;exact⟨b,e,g,d,f,i,Z⟩
theorem NV{c:Addr->Y1 Y2}{x}{a:Y0 Y2}(h:(QA).V c x a):(Ab9).R c x a:=by obtain⟨_,_,rfl,⟨_,_,rfl,⟨_,_,⟨b,rfl,d⟩,⟨_,_,⟨e,rfl,f⟩,⟨_,_,rfl,rfl,rfl⟩,rfl⟩,rfl⟩,rfl⟩,rfl⟩:=h;exact⟨b,e,d,f,Z⟩
def Bs(N:Nat)(a:LC):Nat->Int->Y0 (Y3×W4×Int)->Y1 ((Y0 Y3)×(Y0 (W4))×(W4)×Int×Aa0)
  |0,_,_=>none
  |m+1,c,d=>if c<((D16 (D16 a)).2.2.2.2.2.1.length:Int)then(CH N (a.1,a.2.1,a.2.2.1,a.2.2.2.1,a.2.2.2.2.1,a.2.2.2.2.2.1,a.2.2.2.2.2.2.1,a.2.2.2.2.2.2.2.1,a.2.2.2.2.2.2.2.2.1,a.2.2.2.2.2.2.2.2.2.1,a.2.2.2.2.2.2.2.2.2.2.1,a.2.2.2.2.2.2.2.2.2.2.2.1,a.2.2.2.2.2.2.2.2.2.2.2.2.1,a.2.2.2.2.2.2.2.2.2.2.2.2.2.1,a.2.2.2.2.2.2.2.2.2.2.2.2.2.2.1,a.2.2.2.2.2.2.2.2.2.2.2.2.2.2.2.1,a.2.2.2.2.2.2.2.2.2.2.2.2.2.2.2.2.1,a.2.2.2.2.2.2.2.2.2.2.2.2.2.2.2.2.2.1) (a.2.2.2.2.2.2.2.2.2.2.2.2.2.2.2.2.2.2.1,a.2.2.2.2.2.2.2.2.2.2.2.2.2.2.2.2.2.2.2.1,a.2.2.2.2.2.2.2.2.2.2.2.2.2.2.2.2.2.2.2.2.1,a.2.2.2.2.2.2.2.2.2.2.2.2.2.2.2.2.2.2.2.2.2.1,a.2.2.2.2.2.2.2.2.2.2.2.2.2.2.2.2.2.2.2.2.2.2.1,a.2.2.2.2.2.2.2.2.2.2.2.2.2.2.2.2.2.2.2.2.2.2.2.1,(D16 a).2.2.2.2.2.2.2.2.1,(D16 a).2.2.2.2.2.2.2.2.2.1,(D16 a).2.2.2.2.2.2.2.2.2.2.1,(D16 a).2.2.2.2.2.2.2.2.2.2.2.1,(D16 a).2.2.2.2.2.2.2.2.2.2.2.2.1,(D16 a).2.2.2.2.2.2.2.2.2.2.2.2.2.1,(D16 a).2.2.2.2.2.2.2.2.2.2.2.2.2.2.1,(D16 a).2.2.2.2.2.2.2.2.2.2.2.2.2.2.2.1,(D16 (D16 a)).1,(D16 (D16 a)).2.1,(D16 (D16 a)).2.2.1,(D16 (D16 a)).2.2.2.1) (D16 (D16 a)).2.2.2.2.1 (Dn a) d c).bind λk=>ck ((k.2).length=(d).length) (Aa0.on k.1 (ck (R64 (c+1)) ((Bs N a m) (c+1) k.2)) (λf e g l=>some ([],[],0#64,0,(.t56 f e g l))) (λj i h=>some ([],[],0#64,0,(.t78 j i h))))else(EG N (a.1,a.2.1,a.2.2.1,a.2.2.2.1,a.2.2.2.2.1,a.2.2.2.2.2.1,a.2.2.2.2.2.2.1,a.2.2.2.2.2.2.2.1,a.2.2.2.2.2.2.2.2.1,a.2.2.2.2.2.2.2.2.2.1,a.2.2.2.2.2.2.2.2.2.2.1,a.2.2.2.2.2.2.2.2.2.2.2.1,a.2.2.2.2.2.2.2.2.2.2.2.2.1,a.2.2.2.2.2.2.2.2.2.2.2.2.2.1,a.2.2.2.2.2.2.2.2.2.2.2.2.2.2.1,a.2.2.2.2.2.2.2.2.2.2.2.2.2.2.2.1,a.2.2.2.2.2.2.2.2.2.2.2.2.2.2.2.2.1,a.2.2.2.2.2.2.2.2.2.2.2.2.2.2.2.2.2.1,a.2.2.2.2.2.2.2.2.2.2.2.2.2.2.2.2.2.2.1,a.2.2.2.2.2.2.2.2.2.2.2.2.2.2.2.2.2.2.2.1,a.2.2.2.2.2.2.2.2.2.2.2.2.2.2.2.2.2.2.2.2.1,a.2.2.2.2.2.2.2.2.2.2.2.2.2.2.2.2.2.2.2.2.2.1,a.2.2.2.2.2.2.2.2.2.2.2.2.2.2.2.2.2.2.2.2.2.2.1,a.2.2.2.2.2.2.2.2.2.2.2.2.2.2.2.2.2.2.2.2.2.2.2.1,(D16 a).2.2.2.2.2.2.2.2.1,(D16 a).2.2.2.2.2.2.2.2.2.1,(D16 a).2.2.2.2.2.2.2.2.2.2.1,(D16 a).2.2.2.2.2.2.2.2.2.2.2.1,(D16 a).2.2.2.2.2.2.2.2.2.2.2.2.1,(D16 a).2.2.2.2.2.2.2.2.2.2.2.2.2.1,(D16 a).2.2.2.2.2.2.2.2.2.2.2.2.2.2.1,(D16 a).2.2.2.2.2.2.2.2.2.2.2.2.2.2.2.1,(D16 (D16 a)).1,(D16 (D16 a)).2.1,(D16 (D16 a)).2.2.1,(D16 (D16 a)).2.2.2.1,(D16 (D16 a)).2.2.2.2.1,(Dn a),d)).bind λb=>some (b.1,b.2.1,b.2.2.1,b.2.2.2, .nil)
def BM(N:Nat)(m:Ao)(a:Y3)(c:W4):Y1 ((Y0 Y3)×(Y0 (W4))×(W4)×Int×Aa0):=(JF N m).bind λd=>Aa0.on d ((Gm N m a c).bind λb=>Bs N b N 0 (GI b)) (λ_ _ _ _=>some ([],[],0#64,0,(.t56 0 0 0 1))) (λ_ _ _=>some ([],[],0#64,0,(.t56 0 0 0 1)))
theorem Ik(N m an ck r)(hM:BM N m an ck=some r)(ro)(mv:AC)(hm:Aa2 ro mv m):DoesI prog 6 #[vA (Ab m mv),vB an,U ck] Gt ro [] (pO [] (oS 4 Ot r.1 λs_0=>(oS 42 nA r.2.1 λs_1=>(Aa0.onP r.2.2.2.2 (oE (vT #[vA #[s_0,s_1,U r.2.2.1,vI r.2.2.2.1],V6]) []) (λy0_0 y0_1 y0_2 y0_3=>(oB 58 #[vI y0_0,vI y0_1,vI y0_2,vI y0_3] λbs_0=>(oE (vT #[vA #[s_0,s_1,U r.2.2.1,vI r.2.2.2.1],V5 56 (vP bs_0 0)]) []))) (λy0_0 y0_1 y0_2=>(oB 80 #[vI y0_0,vI y0_1,vI y0_2] λbs_0=>(oE (vT #[vA #[s_0,s_1,U r.2.2.1,vI r.2.2.2.1],V5 78 (vP bs_0 0)]) []))))))):=by
 unfold BM at hM
 refine BZ follows func6 Z 38 Z _ fz3 Bm (λct=> ?_)
 refine Ad<|rA Z λb2=>rA Z λb3=>rz Z<|Aa λK4 cu=>Aa λK5 bz=>Ah<|rm 1 [1] Z<|kB hM λr6 cv hM=>gM (Ls:=[(AF b3 nS nS (0#64) 0),[(b2,35,(Ab m mv))]]) (FL:=[]) [] (cF jp) (λo w hn_ z_=>Tp N m _ cv _ mv (Aa2.mono (Fw (Ls:=[(AF b3 nS nS (0#64) 0),[(b2,35,(Ab m mv))]]) (is:=[]) Z z_) hm)) ?_
 rcases Aa0.cases r6 with ao|⟨x9_0,x10_1,x11_2,x12_3,ao⟩|⟨x13_0,x14_1,x15_2,ao⟩
 ·rintro _ _ hp_
  obtain⟨rfl,rfl⟩:=Aa0.onP_nil ao hp_
  replace hM:=Aa0.on_nil ao hM
  refine AK (Ls:=[(AF b3 nS nS (0#64) 0),[(b2,35,(Ab m mv))]]) (Ls':=[(AF b3 nS nS (0#64) 0),[(b2,35,(Ab m mv))]]) [0,1] Z Z<|rz Z<|bz _ _ ?_
  refine Ch Z ?_
  refine Ac<|cu _ _ ?_
  refine Ad<|rm 3 [1] Z<|kB hM λa cl hM=>gM (Ls:=[(AF b3 nS nS (0#64) 0),[(b2,35,(Ab m mv))]]) (FL:=[]) [] (cF uG) (λo w hn_ z_=>rom [] Z z_ (V3 (TZ N m an ck _ cl ro mv hm) _)) ?_
  rintro _ _ ⟨d,av,⟨e,aw,⟨f,ax,⟨g,ay,⟨h,az,⟨i,ba,⟨j,bb,⟨k,bc,⟨n,bd,⟨p,be,⟨q,bf,⟨s,bg,⟨u,bh,⟨v,bi,⟨x,bj,⟨y,bk,⟨z,bl,⟨A,M,_,ca,⟨B,P,_,cb,⟨C,Q,_,cc,⟨D,R,_,cd,⟨E,S,_,ce,⟨F,V,_,cf,⟨G,W,_,cg,⟨H,X,_,ch,⟨I,bm,⟨J,bn,⟨K,bo,⟨L,au,⟨c,bp,_,cm,⟨rfl,rfl⟩,rfl⟩⟩⟩⟩⟩,rfl⟩,rfl⟩,rfl⟩,rfl⟩,rfl⟩,rfl⟩,rfl⟩,rfl⟩⟩⟩⟩⟩⟩⟩⟩⟩⟩⟩⟩⟩⟩⟩⟩⟩⟩
  refine AK (Ls:=[(AF b3 nS nS (0#64) 0),[(b2,35,(Ab m mv))],M,P,Q,R,S,V,W,X,bp]) (Ls':=[(AF b3 nS nS (0#64) 0),[(b2,35,(Ab m mv))],M,P,Q,R,S,V,W,X,bp]) [0,1,2,3,4,5,6,7,8,9,10] Z Z<|rA Z λaa=>r_s (V2 [(Bb aa a d e f g h i j k n p q s u v x y z A B C D E F G H I J K L c),(AF b3 nS nS (0#64) 0),[(b2,35,(Ab m mv))],M,P,Q,R,S,V,W,X,bp]) 0 _ _ _ _ _ (#[vS a.1,d,e,f,g,h,i,j,k,n,p,q,s,u,v,vI (D8 a).2.2.2.2.2.2.2.1,vI (D16 a).1,vI (D16 a).2.1,vS (D16 a).2.2.1,x,y,z,A,B,C,D,E,F,G,H,I,J,K,vI (D16 (D16 a)).2.1,vI (D16 (D16 a)).2.2.1,vI (D16 (D16 a)).2.2.2.1,vI (D16 (D16 a)).2.2.2.2.1,L,c]) Z Z Z Z (.ofS Z Z (Ae Z (sN av (sR aw (sR ax (sN ay (sN az (sN ba (sN bb (sN bc (sR bd (sR be (sR bf (sR bg (sR bh (sR bi (Ae Z (Ae Z (Ae Z (Ae Z (sN bj (sR bk (sR bl (sO ca (sO cb (sO cc (sO cd (sO ce (sS cf (sS cg (sS ch (sR bm (sR bn (sR bo (Ae Z (Ae Z (Ae Z (Ae Z (sN au (sS cm AD)))))))))))))))))))))))))))))))))))))))) Z Z ?_
  refine Aj<|Aa λda cn=>Ad<|rm 2 [0] Z<|rL (W9 au) Z<|rz Z<|Ai ?_
  refine BF _ (W5 [(Bb aa a d e f g h i j k n p q s u v x y z A B C D E F G H I J K L c),(AF b3 nS nS (0#64) 0),[(b2,35,(Ab m mv))],M,P,Q,R,S,V,W,X,bp] [0,1,3,4,5,6,7,8,9,10,11] Z) ?_
  refine AL (λtt ll nn=> ∃(ar:Nat) (bq:Int) (bt:Y0 (Y3×W4×Int)),(Bs N a ar bq bt=some r)/\ ∃(b:Y0 Bl),Sl 83 QB c bt b/\Is [(6,vP b3 0),(8,vP aa 0),(24,vI ((D16 (D16 a)).2.2.2.2.2.1.length:Int)),(25,vI bq)] (V2 [(Bb aa a d e f g h i j k n p q s u v x y z A B C D E F G H I J K L c),(AF b3 nS nS (0#64) 0),M,P,Q,R,S,V,W,X,b]) tt ll/\nn=ar+1) (N+1) ?_ ?_
  ·exact⟨N,0,(GI a),hM,bp,cm,Ag Z Z,Z⟩
  clear hM;rintro t l _ ⟨ar,bq,bt,hM,b,bv,⟨⟨T,rfl⟩,rfl⟩,rfl⟩
  rcases ar with _|ar
  ·exact absurd hM (by simp [Bs])
  rw [Bs] at hM
  refine AZ Z<|Aa λdb co=>aD hM Z (λcp hM=> ?_) (λcp hM=> ?_)
  ·refine Ac<|co _ _ ?_
   refine Aa λdc cq=>Ai<|AZ Z<|Aa λdd br=>Ah ?_
   refine rm 1 [0] Z ?_
   refine rn 1 Z<|kB hM λcr cs hM=>kC hM λcw hM=>gM (Ls:=[(Bb aa a d e f g h i j k n p q s u v x y z A B C D E F G H I J K L c),(AF b3 nS nS (0#64) 0),M,P,Q,R,S,V,W,X,b]) (FL:=[b]) [10] (cF uF) (λo w hn_ z_=>have Y:=Fw (Ls:=[(Bb aa a d e f g h i j k n p q s u v x y z A B C D E F G H I J K L c),(AF b3 nS nS (0#64) 0),M,P,Q,R,S,V,W,X,b]) (is:=[10]) Z z_;Qq N _ _ _ _ bt bq _ cs _ (d,e,f,g,h,i,j,k,n,p,q,s,u,v) ⟨(V1 Y av),(V0 Y aw),(V0 Y ax),(V1 Y ay),(V1 Y az),(V1 Y ba),(V1 Y bb),(V1 Y bc),(V0 Y bd),(V0 Y be),(V0 Y bf),(V0 Y bg),(V0 Y bh),(V0 Y bi)⟩ (x,y,z,A,B,C,D,E,F,G,H,I,J,K) ⟨(V1 Y bj),(V0 Y bk),(V0 Y bl),(RdN.map (E':=Ad8) (SlO.view ca (Fs (Ls:=[(Bb aa a d e f g h i j k n p q s u v x y z A B C D E F G H I J K L c),(AF b3 nS nS (0#64) 0),M,P,Q,R,S,V,W,X,b]) (is:=[10]) 2 Z Z hn_ z_)) Z (λ_ _ h_=>Uv h_)),(RdN.map (E':=Ac7) (SlO.view cb (Fs (Ls:=[(Bb aa a d e f g h i j k n p q s u v x y z A B C D E F G H I J K L c),(AF b3 nS nS (0#64) 0),M,P,Q,R,S,V,W,X,b]) (is:=[10]) 3 Z Z hn_ z_)) Z (λ_ _ h_=>SL h_)),(RdN.map (E':=Ad4) (SlO.view cc (Fs (Ls:=[(Bb aa a d e f g h i j k n p q s u v x y z A B C D E F G H I J K L c),(AF b3 nS nS (0#64) 0),M,P,Q,R,S,V,W,X,b]) (is:=[10]) 4 Z Z hn_ z_)) Z (λ_ _ h_=>SM h_)),(RdN.map (E':=Ab9) (SlO.view cd (Fs (Ls:=[(Bb aa a d e f g h i j k n p q s u v x y z A B C D E F G H I J K L c),(AF b3 nS nS (0#64) 0),M,P,Q,R,S,V,W,X,b]) (is:=[10]) 5 Z Z hn_ z_)) Z (λ_ _ h_=>NV h_)),(RdN.map (E':=Ab9) (SlO.view ce (Fs (Ls:=[(Bb aa a d e f g h i j k n p q s u v x y z A B C D E F G H I J K L c),(AF b3 nS nS (0#64) 0),M,P,Q,R,S,V,W,X,b]) (is:=[10]) 6 Z Z hn_ z_)) Z (λ_ _ h_=>NV h_)),(Ja (Ls:=[(Bb aa a d e f g h i j k n p q s u v x y z A B C D E F G H I J K L c),(AF b3 nS nS (0#64) 0),M,P,Q,R,S,V,W,X,b]) (is:=[10]) 7 cf Z Z hn_ z_),(Ja (Ls:=[(Bb aa a d e f g h i j k n p q s u v x y z A B C D E F G H I J K L c),(AF b3 nS nS (0#64) 0),M,P,Q,R,S,V,W,X,b]) (is:=[10]) 8 cg Z Z hn_ z_),(Ja (Ls:=[(Bb aa a d e f g h i j k n p q s u v x y z A B C D E F G H I J K L c),(AF b3 nS nS (0#64) 0),M,P,Q,R,S,V,W,X,b]) (is:=[10]) 9 ch Z Z hn_ z_),(V0 Y bm),(V0 Y bn),(V0 Y bo)⟩ L (V1 Y au) c b bv) ?_
   rcases Aa0.cases cr.1 with af|⟨x104_0,x105_1,x106_2,x107_3,af⟩|⟨x108_0,x109_1,x110_2,af⟩
   ·rintro _ _ ⟨ad,_,bs,hp_,rfl⟩
    obtain⟨rfl,rfl⟩:=Aa0.onP_nil af hp_
    replace hM:=Aa0.on_nil af hM
    refine AK (Ls:=[(Bb aa a d e f g h i j k n p q s u v x y z A B C D E F G H I J K L c),(AF b3 nS nS (0#64) 0),M,P,Q,R,S,V,W,X,ad]) (Ls':=[(Bb aa a d e f g h i j k n p q s u v x y z A B C D E F G H I J K L c),(AF b3 nS nS (0#64) 0),M,P,Q,R,S,V,W,X,ad]) [0,1,2,3,4,5,6,7,8,9,10] Z Z ?_
    refine rz Z<|br _ _ ?_
    refine AZ Z<|Ch Z ?_
    refine Ac<|cq _ _ ?_
    refine Ah<|kC hM λci hM=>rX ci Z<|rz Z ?_
    refine fg _ (W5 [(Bb aa a d e f g h i j k n p q s u v x y z A B C D E F G H I J K L c),(AF b3 nS nS (0#64) 0),M,P,Q,R,S,V,W,X,ad] [0,1,2,3,4,5,6,7,8,9,10] Z) ?_
    exact⟨ar+1,by omega,ar,(bq+1),cr.2,hM,ad,bs,Ag Z Z,Z⟩
   ·rintro _ _ ⟨ad,_,bs,hp_,rfl⟩
    obtain⟨ac,_,⟨rfl,rfl⟩,rfl⟩:=Aa0.onP_t56 af hp_
    replace hM:=Aa0.on_t56 af hM
    refine AK (Ls:=[(Bb aa a d e f g h i j k n p q s u v x y z A B C D E F G H I J K L c),(AF b3 nS nS (0#64) 0),M,P,Q,R,S,V,W,X,ad,(HK ac x104_0 x105_1 x106_2 x107_3)]) (Ls':=[(Bb aa a d e f g h i j k n p q s u v x y z A B C D E F G H I J K L c),(AF b3 nS nS (0#64) 0),(HK ac x104_0 x105_1 x106_2 x107_3),M,P,Q,R,S,V,W,X,ad]) [0,1,11,2,3,4,5,6,7,8,9,10] Z Z ?_
    refine rz Z<|br _ _ ?_
    refine AZ Z<|JO Z ?_
    refine Ad<|r_W (vA #[nS,nS,U (0#64),vI 0]) Z (Ar Z Z Z Z)<|rn 1 Z ?_
    refine r_s (V2 [(Bb aa a d e f g h i j k n p q s u v x y z A B C D E F G H I J K L c),(AF b3 nS nS (0#64) 0),(HK ac x104_0 x105_1 x106_2 x107_3),M,P,Q,R,S,V,W,X,ad]) 1 _ _ _ _ _ (#[nS,nS,U (0#64),vI 0]) Z Z Z Z (.ofS Z Z (sE (sE (Ae Z (Ae Z AD))))) Z Z ?_
    refine rz Z ?_
    cases hM
    refine AU (λhn=>CI (v0:=vT #[vA #[nS,nS,U (0#64),vI 0],V5 56 (vP ac 0)]) (O:=[[],[],(HK ac x104_0 x105_1 x106_2 x107_3)]) (Jg (Bf hn 1 Z Z Z) Z) (W6 (Ls:=[(Bb aa a d e f g h i j k n p q s u v x y z A B C D E F G H I J K L c),(AF b3 nS nS (0#64) 0),(HK ac x104_0 x105_1 x106_2 x107_3),M,P,Q,R,S,V,W,X,ad,[],[]]) (Ls0:=[(Bb aa a d e f g h i j k n p q s u v x y z A B C D E F G H I J K L c),(AF b3 nS nS (0#64) 0),(HK ac x104_0 x105_1 x106_2 x107_3),M,P,Q,R,S,V,W,X,ad]) Z [12,13,2] Z) ⟨nS,[],_,Sl.nil,⟨nS,[],_,Sl.nil,⟨ac,_,⟨Z,Z⟩,Z⟩,Z⟩,Z⟩)
   rintro _ _ ⟨ad,_,bs,hp_,rfl⟩
   obtain⟨ac,_,⟨rfl,rfl⟩,rfl⟩:=Aa0.onP_t78 af hp_
   replace hM:=Aa0.on_t78 af hM
   refine AK (Ls:=[(Bb aa a d e f g h i j k n p q s u v x y z A B C D E F G H I J K L c),(AF b3 nS nS (0#64) 0),M,P,Q,R,S,V,W,X,ad,(Kk ac x108_0 x109_1 x110_2)]) (Ls':=[(Bb aa a d e f g h i j k n p q s u v x y z A B C D E F G H I J K L c),(AF b3 nS nS (0#64) 0),(Kk ac x108_0 x109_1 x110_2),M,P,Q,R,S,V,W,X,ad]) [0,1,11,2,3,4,5,6,7,8,9,10] Z Z ?_
   refine rz Z<|br _ _ ?_
   refine AZ Z<|JO Z ?_
   refine Ad<|r_W (vA #[nS,nS,U (0#64),vI 0]) Z (Ar Z Z Z Z)<|rn 1 Z ?_
   refine r_s (V2 [(Bb aa a d e f g h i j k n p q s u v x y z A B C D E F G H I J K L c),(AF b3 nS nS (0#64) 0),(Kk ac x108_0 x109_1 x110_2),M,P,Q,R,S,V,W,X,ad]) 1 _ _ _ _ _ (#[nS,nS,U (0#64),vI 0]) Z Z Z Z (.ofS Z Z (sE (sE (Ae Z (Ae Z AD))))) Z Z ?_
   refine rz Z ?_
   cases hM
   refine AU (λhn=>CI (v0:=vT #[vA #[nS,nS,U (0#64),vI 0],V5 78 (vP ac 0)]) (O:=[[],[],(Kk ac x108_0 x109_1 x110_2)]) (Jg (Bf hn 1 Z Z Z) Z) (W6 (Ls:=[(Bb aa a d e f g h i j k n p q s u v x y z A B C D E F G H I J K L c),(AF b3 nS nS (0#64) 0),(Kk ac x108_0 x109_1 x110_2),M,P,Q,R,S,V,W,X,ad,[],[]]) (Ls0:=[(Bb aa a d e f g h i j k n p q s u v x y z A B C D E F G H I J K L c),(AF b3 nS nS (0#64) 0),(Kk ac x108_0 x109_1 x110_2),M,P,Q,R,S,V,W,X,ad]) Z [12,13,2] Z) ⟨nS,[],_,Sl.nil,⟨nS,[],_,Sl.nil,⟨ac,_,⟨Z,Z⟩,Z⟩,Z⟩,Z⟩)
  refine AM<|cn _ _ ?_
  refine Ad ?_
  refine rm 1 [0] Z<|kB hM λah cj hM=>gM (Ls:=[(Bb aa a d e f g h i j k n p q s u v x y z A B C D E F G H I J K L c),(AF b3 nS nS (0#64) 0),M,P,Q,R,S,V,W,X,b]) (FL:=[]) [] (cF uE) (λo w hn_ z_=>have Y:=Fw (Ls:=[(Bb aa a d e f g h i j k n p q s u v x y z A B C D E F G H I J K L c),(AF b3 nS nS (0#64) 0),M,P,Q,R,S,V,W,X,b]) (is:=[]) Z z_;(V3 (PI N _ _ cj _ (d,e,f,g,h,i,j,k,n,p,q,s,u,v,x,y,z,A,B,C,D,E,F,G,H,I,J,K,L,c) ⟨(V1 Y av),(V0 Y aw),(V0 Y ax),(V1 Y ay),(V1 Y az),(V1 Y ba),(V1 Y bb),(V1 Y bc),(V0 Y bd),(V0 Y be),(V0 Y bf),(V0 Y bg),(V0 Y bh),(V0 Y bi),(V1 Y bj),(V0 Y bk),(V0 Y bl),(RdN.map (E':=Ad8) (SlO.view ca (Fs (Ls:=[(Bb aa a d e f g h i j k n p q s u v x y z A B C D E F G H I J K L c),(AF b3 nS nS (0#64) 0),M,P,Q,R,S,V,W,X,b]) (is:=[]) 2 Z Z hn_ z_)) Z (λ_ _ h_=>Uv h_)),(RdN.map (E':=Ac7) (SlO.view cb (Fs (Ls:=[(Bb aa a d e f g h i j k n p q s u v x y z A B C D E F G H I J K L c),(AF b3 nS nS (0#64) 0),M,P,Q,R,S,V,W,X,b]) (is:=[]) 3 Z Z hn_ z_)) Z (λ_ _ h_=>SL h_)),(RdN.map (E':=Ad4) (SlO.view cc (Fs (Ls:=[(Bb aa a d e f g h i j k n p q s u v x y z A B C D E F G H I J K L c),(AF b3 nS nS (0#64) 0),M,P,Q,R,S,V,W,X,b]) (is:=[]) 4 Z Z hn_ z_)) Z (λ_ _ h_=>SM h_)),(RdN.map (E':=Ab9) (SlO.view cd (Fs (Ls:=[(Bb aa a d e f g h i j k n p q s u v x y z A B C D E F G H I J K L c),(AF b3 nS nS (0#64) 0),M,P,Q,R,S,V,W,X,b]) (is:=[]) 5 Z Z hn_ z_)) Z (λ_ _ h_=>NV h_)),(RdN.map (E':=Ab9) (SlO.view ce (Fs (Ls:=[(Bb aa a d e f g h i j k n p q s u v x y z A B C D E F G H I J K L c),(AF b3 nS nS (0#64) 0),M,P,Q,R,S,V,W,X,b]) (is:=[]) 6 Z Z hn_ z_)) Z (λ_ _ h_=>NV h_)),(Ja (Ls:=[(Bb aa a d e f g h i j k n p q s u v x y z A B C D E F G H I J K L c),(AF b3 nS nS (0#64) 0),M,P,Q,R,S,V,W,X,b]) (is:=[]) 7 cf Z Z hn_ z_),(Ja (Ls:=[(Bb aa a d e f g h i j k n p q s u v x y z A B C D E F G H I J K L c),(AF b3 nS nS (0#64) 0),M,P,Q,R,S,V,W,X,b]) (is:=[]) 8 cg Z Z hn_ z_),(Ja (Ls:=[(Bb aa a d e f g h i j k n p q s u v x y z A B C D E F G H I J K L c),(AF b3 nS nS (0#64) 0),M,P,Q,R,S,V,W,X,b]) (is:=[]) 9 ch Z Z hn_ z_),(V0 Y bm),(V0 Y bn),(V0 Y bo),(V1 Y au),(Ja (Ls:=[(Bb aa a d e f g h i j k n p q s u v x y z A B C D E F G H I J K L c),(AF b3 nS nS (0#64) 0),M,P,Q,R,S,V,W,X,b]) (is:=[]) 10 bv Z Z hn_ z_)⟩) _)) ?_
  rintro _ _ ⟨ap,ak,_,bw,⟨aq,al,_,bx,⟨rfl,rfl⟩,rfl⟩,rfl⟩
  refine AK (Ls:=[(Bb aa a d e f g h i j k n p q s u v x y z A B C D E F G H I J K L c),(AF b3 nS nS (0#64) 0),M,P,Q,R,S,V,W,X,b,ak,al]) (Ls':=[(Bb aa a d e f g h i j k n p q s u v x y z A B C D E F G H I J K L c),(AF b3 nS nS (0#64) 0),M,P,Q,R,S,V,W,X,b,ak,al]) [0,1,2,3,4,5,6,7,8,9,10,11,12] Z Z ?_
  refine r_s (V2 [(Bb aa a d e f g h i j k n p q s u v x y z A B C D E F G H I J K L c),(AF b3 ap aq ah.2.2.1 ah.2.2.2),M,P,Q,R,S,V,W,X,b,ak,al]) 1 _ _ _ _ _ (#[ap,aq,U ah.2.2.1,vI ah.2.2.2]) Z Z Z Z (.ofS Z Z (sS bw (sS bx (Ae Z (Ae Z AD))))) Z Z ?_
  refine rz Z ?_
  cases hM
  refine AU (λhn=>CI (v0:=vT #[vA #[ap,aq,U ah.2.2.1,vI ah.2.2.2],V6]) (O:=[ak,al]) (Jg (Bf hn 1 Z Z Z) Z) (W5 [(Bb aa a d e f g h i j k n p q s u v x y z A B C D E F G H I J K L c),(AF b3 ap aq ah.2.2.1 ah.2.2.2),M,P,Q,R,S,V,W,X,b,ak,al] [11,12] Z) ⟨ap,ak,_,bw,⟨aq,al,_,bx,⟨Z,Z⟩,Z⟩,Z⟩)
 ·rintro _ _ hp_
  obtain⟨ai,_,⟨rfl,rfl⟩,rfl⟩:=Aa0.onP_t56 ao hp_
  replace hM:=Aa0.on_t56 ao hM
  refine AK (Ls:=[(AF b3 nS nS (0#64) 0),[(b2,35,(Ab m mv))],(HK ai x9_0 x10_1 x11_2 x12_3)]) (Ls':=[(AF b3 nS nS (0#64) 0),[(b2,35,(Ab m mv))],(HK ai x9_0 x10_1 x11_2 x12_3)]) [0,1,2] Z Z<|rz Z<|bz _ _ ?_
  refine JO Z ?_
  refine Ad<|r_W (vA #[nS,nS,U (0#64),vI 0]) Z (Ar Z Z Z Z)<|r_W (vA #[vI 0,vI 0,vI 0,vI 1]) Z (Ar Z Z Z Z)<|rA Z λag=>rn 1 Z<|r_s [(ag,58, #[vI 0,vI 0,vI 0,vI 1]),(b3,44, #[nS,nS,U (0#64),vI 0]),(b2,35,(Ab m mv)),(ai,58, #[vI x9_0,vI x10_1,vI x11_2,vI x12_3])] 1 _ _ _ _ _ (#[nS,nS,U (0#64),vI 0]) Z Z Z Z (.ofS Z Z (sE (sE (Ae Z (Ae Z AD))))) Z Z<|rz Z ?_
  cases hM
  refine AU (λhn=>CI (v0:=vT #[vA #[nS,nS,U (0#64),vI 0],V5 56 (vP ag 0)]) (O:=[[],[],(HK ag 0 0 0 1)]) (Jg (Bf hn 1 Z Z Z) Z) (W6 (Ls:=[(HK ag 0 0 0 1),(AF b3 nS nS (0#64) 0),[(b2,35,(Ab m mv))],(HK ai x9_0 x10_1 x11_2 x12_3),[],[]]) (Ls0:=[(HK ag 0 0 0 1),(AF b3 nS nS (0#64) 0),[(b2,35,(Ab m mv))],(HK ai x9_0 x10_1 x11_2 x12_3)]) Z [4,5,0] Z) ⟨nS,[],_,Sl.nil,⟨nS,[],_,Sl.nil,⟨ag,_,⟨Z,Z⟩,Z⟩,Z⟩,Z⟩)
 rintro _ _ hp_
 obtain⟨ai,_,⟨rfl,rfl⟩,rfl⟩:=Aa0.onP_t78 ao hp_
 replace hM:=Aa0.on_t78 ao hM
 refine AK (Ls:=[(AF b3 nS nS (0#64) 0),[(b2,35,(Ab m mv))],(Kk ai x13_0 x14_1 x15_2)]) (Ls':=[(AF b3 nS nS (0#64) 0),[(b2,35,(Ab m mv))],(Kk ai x13_0 x14_1 x15_2)]) [0,1,2] Z Z<|rz Z<|bz _ _ ?_
 refine JO Z ?_
 refine Ad<|r_W (vA #[nS,nS,U (0#64),vI 0]) Z (Ar Z Z Z Z)<|r_W (vA #[vI 0,vI 0,vI 0,vI 1]) Z (Ar Z Z Z Z)<|rA Z λag=>rn 1 Z<|r_s [(ag,58, #[vI 0,vI 0,vI 0,vI 1]),(b3,44, #[nS,nS,U (0#64),vI 0]),(b2,35,(Ab m mv)),(ai,80, #[vI x13_0,vI x14_1,vI x15_2])] 1 _ _ _ _ _ (#[nS,nS,U (0#64),vI 0]) Z Z Z Z (.ofS Z Z (sE (sE (Ae Z (Ae Z AD))))) Z Z<|rz Z ?_
 cases hM
 refine AU (λhn=>CI (v0:=vT #[vA #[nS,nS,U (0#64),vI 0],V5 56 (vP ag 0)]) (O:=[[],[],(HK ag 0 0 0 1)]) (Jg (Bf hn 1 Z Z Z) Z) (W6 (Ls:=[(HK ag 0 0 0 1),(AF b3 nS nS (0#64) 0),[(b2,35,(Ab m mv))],(Kk ai x13_0 x14_1 x15_2),[],[]]) (Ls0:=[(HK ag 0 0 0 1),(AF b3 nS nS (0#64) 0),[(b2,35,(Ab m mv))],(Kk ai x13_0 x14_1 x15_2)]) Z [4,5,0] Z) ⟨nS,[],_,Sl.nil,⟨nS,[],_,Sl.nil,⟨ag,_,⟨Z,Z⟩,Z⟩,Z⟩,Z⟩)
end Go.Proofs.YtjnanfkpdhmnpaaGreatDoor
