import Derived.Test.YtjlomkippigejaaGreatDoorBe
namespace Go.Proofs.YtjlomkippigejaaGreatDoor
open Go Go.RowKit Go.Eng _root_.Go.Proofs.Tryz
set_option linter.unusedSimpArgs false
set_option linter.unusedVariables false
set_option maxRecDepth 100000
set_option maxHeartbeats 80000000
abbrev Rl(b:Nat)(x0:W2)(x1:Int):List Bl:=[(b,92, #[vS x0,vI x1])]
abbrev II(b:Nat)(x0:W2)(x1:Value)(x2:Int)(x3:Int)(x4:Int)(x5:Int):List Bl:=[(b,94, #[vS x0,x1,vI x2,vI x3,vI x4,vI x5])]
abbrev SN(b:Nat)(x0:Value):List Bl:=[(b,134, #[x0])]
abbrev gI(b:Nat)(x0:Value):List Bl:=[(b,23, #[x0])]
abbrev gH(b:Nat)(x0:W2)(x1:Int)(x2:Int):List Bl:=[(b,96, #[vS x0,vI x1,vI x2])]
abbrev VV(b:Nat)(x0:Value):List Bl:=[(b,202, #[x0])]
abbrev VW(b:Nat)(x0:W2)(x1:Value)(x2:Value)(x3:Value)(x4:Int):List Bl:=[(b,101, #[vS x0,x1,x2,x3,vI x4])]
abbrev LS(b:Nat)(x0:Value)(x1:Value)(x2:Int)(x3:Int)(x4:Int)(x5:Int):List Bl:=[(b,94, #[x0,x1,vI x2,vI x3,vI x4,vI x5])]
def Lm(N:Nat)(a:List (W2))(i:Int):Option Int:=ck (0<=i/\i<(a.length:Int)) ((Nv N (a[i.toNat]!)).bind λc=>if c=true then ck (0<=i/\i<=(a.length:Int)) (ck (0<=i/\i<(a.length:Int)) ((Iq N (((a).take (i.toNat)).drop 0) (a[i.toNat]!)).bind λb=>if b>=0 then some 6 else some 0))else some 4)
theorem Ug(N b i r)(d:Lm N b i=some r)(s c)(a:Rd Aa3 s c b):Does prog 159 #[c,vI i] s [] (pV (vI r)):=by
 unfold Lm at d
 refine Al follows func159 Z 22 Z _ fz2 (λl=> ?_)
 refine AZ Z<|Aa λu m=>Ai<|Ad<|rn 2 Z<|kC d λj d=>rI (Rd.shp a) j Z<|rE (Aw a) j 0 Z<|kB d λv n d=>rc _ (cF dP) (Yv N (b[i.toNat]!) _ n)<|rz Z<|BI _ Z (λh=> ?_) (λh=> ?_)
 ·replace d:=ifn (Bool.eq_false_iff.1 (Dk h)) d
  refine AZ Z ?_
  cases d
  exact aR eV1
 replace d:=ifp (Dl h) d
 refine Aa λx p=>BB [(some 20,false)] (conG prog [(20,cV (Iq N (((b).take (i.toNat)).drop 0) (b[i.toNat]!)) λq=>vI q)]) [] (by decide+kernel) (λy=>AK)<|rn 2 Z<|kC d λe d=>r_W (GE c 0 (i.toNat) 1) Z (Fc (Jb Z Z Z Z (Rd.shp a) e))<|rn 2 Z<|kC d λf d=>rI (Rd.shp a) f Z<|rE (Aw a) f 0 Z<|kB d λt g d=>rg _ (cF dN) (λo w z_=>SE N (((b).take (i.toNat)).drop 0) (b[i.toNat]!) _ g z_.view (GE c 0 (i.toNat) 1) ((PL (Aw a) (Nat.zero_le _) (Hp e.2)) o w z_)) (GQ g)<|rz Z<|p _ _ ?_
 refine aD d Z (λk d=> ?_) (λk d=> ?_)
 ·refine AZ Z ?_
  cases d
  exact aR eV1
 refine Ab<|m _ _ ?_
 refine AZ Z ?_
 cases d
 exact aR eV1
def Gd(_:Nat)(n:Int)(a:Int)(b:Int):Option Bool:=if n>=a then some (decide (n<=b))else some false
theorem IA(N n a b r)(c:Gd N n a b=some r):Gives prog 160 #[vI n,vI a,vI b] (vB r):=by
 unfold Gd at c
 refine Aq follows func160 Z 15 Z _ fz3 (λf=> ?_)
 refine AZ Z<|Aa λg d=>Ah<|rn 4 Z ?_
 rcases e:(decide (n>=a))with _|_
 ·replace c:=iF e c
  refine rz Z<|d _ _ ?_
  cases c
  exact aR eE1
 replace c:=iD e c
 refine rz Z<|d _ _ ?_
 cases c
 exact aR eE1
def Hk(N:Nat)(b:List (W2×Int))(d:List (W2)):Nat->Int->Option Int
  |0,_=>none
  |e+1,a=>if a<(b.length:Int)then ck (0<=a/\a<(b.length:Int)) ((Lm N d a).bind λc=>if(c:Int)≠0 then some c else(Gd N ((b[a.toNat]!).2) 1 128).bind λf=>if f=true then ck (R64 (a+1)) ((Hk N b d e) (a+1))else some 9)else some 0
def KO(N:Nat)(a:List (W2×Int)):Option Int:=(Ka N a).bind λb=>Hk N a b N 0
theorem Xh(N e r)(a:KO N e=some r)(D f)(g:Rd Ab3 D f e):Does prog 154 #[f] D [] (pV (vI r)):=by
 unfold KO at a
 refine Al follows func154 Z 27 Z _ fz1 (λx=> ?_)
 refine AZ Z<|Ad<|rn 1 Z<|kB a λB z a=>gS (Ls:=[]) (cF nH) (λo w z_=>Vj N e _ z z_.view f ((Aw g) o w z_)) (λC y E=> ?_)
 refine rz Z<|Aa λK A=>Ad<|rn 1 Z<|rL (Rd.shp g) Z<|rz Z<|Ai<|Bs _ (Sub.pick [y] [0] Z)<|AH (λtt ll nn=> ∃(c:Nat) (b:Int),(Hk N e B c b=some r)/\Is [(3,C),(9,f),(10,vI (e.length:Int)),(11,vI b)] (List.flatten [y]) tt ll/\nn=c+1) (N+1) ?_ ?_
 ·exact⟨N,0,a,Ag Z Z,Z⟩
 clear a;rintro t l _ ⟨c,b,a,⟨⟨T,rfl⟩,rfl⟩,rfl⟩
 rcases c with _|c
 ·exact absurd a (by simp [Hk])
 rw [Hk] at a
 refine AZ Z<|Aa λF i=>aD a Z (λj a=> ?_) (λj a=> ?_)
 ·refine Ab<|i _ _ ?_
  refine Aa λG m=>Ai<|Ad<|rn 1 Z<|kC a λh a=>rI (Rd.shp g) h Z<|rE (Aw g) h 0 Z<|rA Z λn=>ry [0] Z<|Aa λH p=>Ad<|rn 2 Z<|kB a λI q a=>gV _ (cF dM) (λo w z_=>Ug N B b _ q z_.view C ((Ax E (Aj (Ls:=[(Rl n ((e[b.toNat]!).1) ((e[b.toNat]!).2)),y]) (k:=1) Z Z)) o w z_))<|rz Z<|AZ Z<|aN a Z (λs a=> ?_) (λs a=> ?_)
  ·refine AZ Z ?_
   cases a
   exact aR eV1
  refine Ab<|p _ _ ?_
  refine Ad<|rm 2 [0] Z<|kB a λJ u a=>rc _ (cF KX) (IA N ((e[b.toNat]!).2) 1 128 _ u)<|rz Z<|BI _ Z (λd=> ?_) (λd=> ?_)
  ·replace a:=ifn (Bool.eq_false_iff.1 (Dk d)) a
   refine AZ Z ?_
   cases a
   exact aR eV1
  replace a:=ifp (Dl d) a
  refine Ab<|m _ _ ?_
  refine Ah<|kC a λv a=>rX v Z<|rz Z<|fg _ (Sub.pick [(Rl n ((e[b.toNat]!).1) ((e[b.toNat]!).2)),y] [1] Z) ?_
  exact⟨c+1,by omega,c,(b+1),a,Ag Z Z,Z⟩
 refine AG<|A _ _ ?_
 refine AZ Z ?_
 cases a
 exact aR eV1
def JV(b:List (W2×Int)):Nat->Int->Int->Option Int
  |0,_,_=>none
  |d+1,c,a=>if a<(b.length:Int)then ck (0<=a/\a<(b.length:Int)) (ck ((R64 (c+(b[a.toNat]!).2))) (ck (R64 (a+1)) ((JV b d) (c+(b[a.toNat]!).2) (a+1))))else some c
def Pa(N:Nat)(a:List (W2×Int)):Option Int:=JV a N 0 0
theorem Yu(N j r)(a:Pa N j=some r)(q f)(g:Rd Ab3 q f j):Does prog 155 #[f] q [] (pV (vI r)):=by
 unfold Pa at a
 refine Al follows func155 Z 18 Z _ fz1 (λk=> ?_)
 refine AZ Z<|AZ Z<|Aa λu m=>Ad<|rn 1 Z<|rL (Rd.shp g) Z<|rz Z<|Ai<|AH (λtt ll nn=> ∃(e:Nat) (c:Int) (b:Int),(JV j e c b=some r)/\Is [(3,vI c),(6,f),(7,vI (j.length:Int)),(8,vI b)] [] tt ll/\nn=e+1) (N+1) ?_ ?_
 ·exact⟨N,0,0,a,Ag Z Z,Z⟩
 clear a;rintro t l _ ⟨e,c,b,a,⟨⟨T,rfl⟩,rfl⟩,rfl⟩
 rcases e with _|e
 ·exact absurd a (by simp [JV])
 rw [JV] at a
 refine AZ Z<|Aa λv n=>aD a Z (λo a=> ?_) (λo a=> ?_)
 ·refine Ab<|n _ _ ?_
  refine Aa λw p=>Ai<|Ad<|kC a λd a=>rI (Rd.shp g) d Z<|rE (Aw g) d 0 Z<|rA Z λs=>ry [0] Z<|Ah<|rm 3 [0] Z<|kC a λh a=>rX h Z<|rz Z<|p _ _ ?_
  refine Ah<|kC a λi a=>rX i Z<|rz Z<|fg _ (Sub.of (suC _ suN)) ?_
  exact⟨e+1,by omega,e,(c+(j[b.toNat]!).2),(b+1),a,Ag Z Z,Z⟩
 refine AG<|m _ _ ?_
 refine AZ Z ?_
 cases a
 exact aR eV1
def JZ(N:Nat)(_:W2)(b:List (W2×Int))(d:Int)(a:Int)(c:Int)(e:Int):Option Bool:=if d=0 then if a=0 then if c=0 then some (e==0)else some false else some false else(Gd N d 1 64).bind λh=>if h=true then ck ((R64 ((b.length:Int) - 1))) ((Gd N a 0 ((b.length:Int) - 1)).bind λg=>if g=true then ck (0<=a/\a<(b.length:Int)) (if((b[a.toNat]!).2:Int)<=16 then(Gd N c 1 64).bind λf=>if f=true then(Gd N e 0 4096).bind λi=>some i else some false else some false)else some false)else some false
theorem Vi(N x f n c g o r)(a:JZ N x f n c g o=some r)(E l)(b:Rd Ab3 E l f):Does prog 156 #[vA #[vS x,l,vI n,vI c,vI g,vI o]] E [] (pV (vB r)):=by
 unfold JZ at a
 refine Al follows func156 Z 51 Z _ fz1 (λy=> ?_)
 refine Ad<|rA Z λF=>rz Z<|Aa λH z=>AY [0] Z<|aE a Z (λA a=> ?_) (λA a=> ?_)
 ·refine Aa λI m=>Ah<|rm 4 [0] Z ?_
  rcases p:(c==0)with _|_
  ·replace a:=iG p a
   refine rz Z<|m _ _ ?_
   cases a
   exact aR eV1
  replace a:=iE p a
  refine rn 1 Z<|r_y Z<|rm 4 [0] Z ?_
  rcases q:(g==0)with _|_
  ·replace a:=iG q a
   refine rz Z<|m _ _ ?_
   cases a
   exact aR eV1
  replace a:=iE q a
  refine rn 1 Z<|r_y Z<|ry [0] Z<|m _ _ ?_
  cases a
  exact aR eV1
 refine Ab<|z _ _ ?_
 refine Aa λJ d=>Ah<|rm 2 [0] Z<|kB a λB s a=>rc _ (cF KX) (IA N n 1 64 _ s)<|rn 1 Z ?_
 rcases h:B with _|_
 ·replace a:=iB h a
  refine rz Z<|d _ _ ?_
  refine GS [(2,vB false)] Z (λT=> ?_)
  cases a
  exact aR eV1
 replace a:=ifp h a
 refine rn 1 Z<|r_y Z<|rm 2 [0] Z<|r_y Z<|rm 1 [0] Z<|r_y Z<|rL (Rd.shp b) Z<|r_y Z<|kC a λt a=>rX t Z<|r_y Z<|kB a λC u a=>rc _ (cF KX) (IA N c 0 ((f.length:Int) - 1) _ u)<|rn 2 Z ?_
 rcases i:C with _|_
 ·replace a:=iB i a
  refine rz Z<|d _ _ ?_
  refine GS [(2,vB false)] Z (λT=> ?_)
  cases a
  exact aR eV1
 replace a:=ifp i a
 refine rn 1 Z<|r_y Z<|rm 2 [0] Z<|r_y Z<|rm 1 [0] Z<|r_y Z<|kC a λe a=>rI (Rd.shp b) e Z<|r_y Z<|rF (Rd.shp b) (Bf e) Z<|r_y Z<|rE (Aw b) e 1 Z<|rn 3 Z<|fb [(1,vP F 0),(2,vB false),(41,vB (decide (((f[c.toNat]!).2:Int)<=16)))] Z (λT=> ?_)
 rcases j:(decide (((f[c.toNat]!).2:Int)<=16))with _|_
 ·replace a:=iF j a
  refine rz Z<|d _ _ ?_
  cases a
  exact aR eV1
 replace a:=iD j a
 refine rn 1 Z<|r_y Z<|rm 1 [0] Z<|r_y Z<|kB a λD v a=>rc _ (cF KX) (IA N g 1 64 _ v)<|rn 2 Z ?_
 rcases k:D with _|_
 ·replace a:=iB k a
  refine rz Z<|d _ _ ?_
  cases a
  exact aR eV1
 replace a:=ifp k a
 refine rn 1 Z<|r_y Z<|rm 1 [0] Z<|r_y Z<|kB a λG w a=>rc _ (cF KX) (IA N o 0 4096 _ w)<|rz Z<|d _ _ ?_
 cases a
 exact aR eV1
def Jn(N:Nat)(c:W2)(a:List (W2×Int))(g:Int)(f:Int)(e:Int)(h:Int):Option Int:=(Nv N c).bind λj=>if j=true then if(a.length:Int)>16 then some 2 else if(a.length:Int)=0 then some 5 else(KO N a).bind λd=>if(d:Int)≠0 then some d else(Pa N a).bind λb=>ck (0<=b/\b<=9223372036854775807) (if(b%8:Int)≠0 then some 9 else(JZ N c a g f e h).bind λi=>if i=true then some 0 else some 7)else some 4
theorem eQ(N f e h i j k r)(a:Jn N f e h i j k=some r)(C b)(c:Rd Ab3 C b e):Does prog 98 #[vA #[vS f,b,vI h,vI i,vI j,vI k]] C [] (pV (vI r)):=by
 unfold Jn at a
 refine Al follows func98 Z 35 Z _ fz1 (λz=> ?_)
 refine Ad<|rA Z λD=>rz Z<|Aa λI A=>Ai<|Ad<|rm 2 [0] Z<|kB a λJ B a=>rc _ (cF dP) (Yv N f _ B)<|rz Z<|BI _ Z (λg=> ?_) (λg=> ?_)
 ·replace a:=ifn (Bool.eq_false_iff.1 (Dk g)) a
  refine AZ Z ?_
  cases a
  exact aR eV1
 replace a:=ifp (Dl g) a
 refine Ad<|rm 2 [0] Z<|rL (Rd.shp c) Z<|rz Z<|aD a Z (λl a=> ?_) (λl a=> ?_)
 ·refine AZ Z ?_
  cases a
  exact aR eV1
 refine Ad<|rm 2 [0] Z<|rL (Rd.shp c) Z<|rz Z<|aE a Z (λm a=> ?_) (λm a=> ?_)
 ·refine AZ Z ?_
  cases a
  exact aR eV1
 refine Ab<|A _ _ ?_
 refine Aa λE n=>Ad<|rm 2 [0] Z<|kB a λF p a=>gV _ (cF oP) (λo w z_=>Xh N e _ p z_.view b (z_.r c))<|rz Z<|AZ Z<|aN a Z (λq a=> ?_) (λq a=> ?_)
 ·refine AZ Z ?_
  cases a
  exact aR eV1
 refine Ab<|n _ _ ?_
 refine Aa λG s=>Ai<|Ad<|rm 2 [0] Z<|kB a λt u a=>gV _ (cF dO) (λo w z_=>Yu N e _ u z_.view b (z_.r c))<|kC a λv a=>r_X (vI (t%8)) Z (SA v.1) Z<|rz Z<|GS [(1,vP D 0),(25,vB ((t%8:Int) !=0))] Z (λT=> ?_)
 refine aN a Z (λx a=> ?_) (λx a=> ?_)
 ·refine AZ Z ?_
  cases a
  exact aR eV1
 refine Ad<|rm 1 [0] Z<|kB a λH y a=>gV _ (cF oO) (λo w z_=>Vi N f e h i j k _ y z_.view b (z_.r c))<|rz Z<|BI _ Z (λd=> ?_) (λd=> ?_)
 ·replace a:=ifn (Bool.eq_false_iff.1 (Dk d)) a
  refine AZ Z ?_
  cases a
  exact aR eV1
 replace a:=ifp (Dl d) a
 refine Ab<|s _ _ ?_
 refine AZ Z ?_
 cases a
 exact aR eV1
def Ba(N:Nat)(a:List (W2))(i:Int):Option Int:=ck (0<=i/\i<=(a.length:Int)) (ck (0<=i/\i<(a.length:Int)) ((Iq N (((a).take (i.toNat)).drop 0) (a[i.toNat]!)).bind λc=>(Ap N (decide (c<0)) 6).bind λb=>some b))
theorem Iu(N a i r)(d:Ba N a i=some r)(m b)(c:Rd Aa3 m b a):Does prog 99 #[b,vI i] m [] (pV (vI r)):=by
 unfold Ba at d
 refine Al follows func99 Z 15 Z _ fz2 (λh=> ?_)
 refine AZ Z<|Aa λp j=>BB [(some 12,false)] (conG prog [(12,cV (Iq N (((a).take (i.toNat)).drop 0) (a[i.toNat]!)) λk=>vI k)]) [] (by decide+kernel) (λq=>AK)<|rn 2 Z<|kC d λe d=>r_W (GE b 0 (i.toNat) 1) Z (Fc (Jb Z Z Z Z (Rd.shp c) e))<|rn 2 Z<|kC d λf d=>rI (Rd.shp c) f Z<|rE (Aw c) f 0 Z<|kB d λn g d=>rg _ (cF dN) (λo w z_=>SE N (((a).take (i.toNat)).drop 0) (a[i.toNat]!) _ g z_.view (GE b 0 (i.toNat) 1) ((PL (Aw c) (Nat.zero_le _) (Hp e.2)) o w z_)) (GQ g)<|rn 1 Z<|kB d λs l d=>rc _ (cF Bk) (Az N (decide (n<0)) 6 _ l)<|rz Z<|j _ _ ?_
 cases d
 exact aR eV1
def HH(N:Nat)(i:Int)(d:W2)(c:List (W2×Int))(h:Int)(f:Int)(b:Int)(g:Int)(a:List (W2)):Option Int:=(Jn N d c h f b g).bind λj=>(Ba N a i).bind λk=>(AI N ([j,k])).bind λe=>some e
theorem TQ(N i c m d e f g j r)(q:HH N i c m d e f g j=some r)(A b)(y:Rd Ab3 A b m)(s:Nat)(a)(u:Rd Aa3 A a j)(t:Blk A s [a]):Does prog 97 #[vI i,vA #[vS c,b,vI d,vI e,vI f,vI g],vP s 0] A [] (pV (vI r)):=by
 unfold HH at q
 refine Al follows func97 Z 13 Z _ fz3 (λz=> ?_)
 refine Ad<|rA Z λF=>rz Z<|Aa λJ B=>BB [(some 7,false),(some 10,false),(some 11,false),(some 12,false)] (conG prog [(7,cV (Jn N c m d e f g) λh=>vI h),(10,cV (Ba N j i) λh=>vI h),(12,λ_ _ v_ L_ U_=> ∀h,Jn N c m d e f g=some h-> ∀v,Ba N j i=some v-> ∀x,AI N ([h,v])=some x->(pV (vI x)) v_ L_ U_)]) [] (by decide+kernel) (λK=>AK) ?_
 refine rm 1 [0] Z<|kB q λC n q=>rg _ (cF sa) (λo w z_=>eQ N c m d e f g _ n z_.view b (z_.r y)) (GQ n)<|HO a (vs:=[a]) (o:=0) Z Z (AT t) Z<|rn 1 Z<|kB q λD p q=>rg _ (cF OI) (λo w z_=>Iu N j i _ p z_.view a (z_.r u)) (GQ p) ?_
 refine Ke (Ls:=[(II F c b d e f g)]) 43 BE [C,D] [vI C,vI D] [vI 0,vI 0] Z Z Z Z Z Z Z (by kernel_rfl) (by kernel_rfl) Z Z Z (λG H E=> ?_)
 refine kB q λI l q=>rg _ (cF Fb) (λo w z_=>Cc N ([C,D]) _ l z_.view G ((Ax E (Aj (Ls:=[(II F c b d e f g),H]) (k:=1) Z Z)) o w z_)) (λ_ _ v_ L_ U_=>⟨λh_=>h_ _ n _ p _ l,λh_=>by intro _ e_;cases q1 (e_.symm.trans n);intro _ e_;cases q1 (e_.symm.trans p);intro _ e_;cases q1 (e_.symm.trans l);exact h_⟩) ?_
 refine rz Z<|B _ _ ?_
 cases q
 exact aR eV1
def Ig(N:Nat)(b:List ((W2)×(List (W2×Int))×Int×Int×Int×Int))(c:List (W2)):Nat->Int->Option (Int×Int)
  |0,_=>none
  |e+1,a=>if a<(b.length:Int)then ck (0<=a/\a<(b.length:Int)) ((HH N a (b[a.toNat]!.1) (b[a.toNat]!.2.1) (b[a.toNat]!.2.2.1) (b[a.toNat]!.2.2.2.1) (b[a.toNat]!.2.2.2.2.1) (b[a.toNat]!.2.2.2.2.2) c).bind λd=>if(d:Int)≠0 then some (a,d)else ck (R64 (a+1)) ((Ig N b c e) (a+1)))else some (0,0)
def LY(N:Nat)(c:List ((W2)×(List (W2×Int))×Int×Int×Int×Int))(b:Int)(a:List (W2)):Option (Int×Int):=if(c.length:Int)>b then some (0,2)else Ig N c a N 0
theorem Wi(N b n e r)(d:LY N b n e=some r)(B q)(j:RdN Ad5 B q b)(c:Nat)(f)(i:Rd Aa3 B f e)(g:Blk B c [f]):Does prog 96 #[q,vI n,vF 97 #[] #[vP c 0]] B [] (pV (vT #[vI r.1,vI r.2])):=by
 unfold LY at d
 refine Al follows func96 Z 31 Z _ fz3 (λA=> ?_)
 refine AZ Z<|Aa λK C=>Ad<|rn 1 Z<|rL (RdN.shp j) Z<|rz Z<|aD d Z (λD d=> ?_) (λD d=> ?_)
 ·refine AZ Z ?_
  cases d
  exact aR eV2
 refine Ab<|C _ _ ?_
 refine Aa λL F=>Ad<|rn 1 Z<|rL (RdN.shp j) Z<|rz Z<|Ai<|AH (λtt ll nn=> ∃(p:Nat) (a:Int),(Ig N b e p a=some r)/\Is [(2,vF 97 #[] #[vP c 0]),(15,q),(16,vI (b.length:Int)),(17,vI a)] [] tt ll/\nn=p+1) (N+1) ?_ ?_
 ·exact⟨N,0,d,Ag Z Z,Z⟩
 clear d;rintro t l _ ⟨p,a,d,⟨⟨T,rfl⟩,rfl⟩,rfl⟩
 rcases p with _|p
 ·exact absurd d (by simp [Ig])
 rw [Ig] at d
 refine AZ Z<|Aa λH s=>aD d Z (λu d=> ?_) (λu d=> ?_)
 ·refine Ab<|s _ _ ?_
  refine Aa λI v=>Ai<|Ad<|rn 1 Z<|kC d λk d=> ?_
  obtain⟨_,⟨h,m,rfl⟩,hat17⟩:=RdN.at (E:=Ad5) j (Dx k)
  refine rI (RdN.shp j) k Z<|Oe (vA #[vS (b[a.toNat]!.1),h,vI (b[a.toNat]!.2.2.1),vI (b[a.toNat]!.2.2.2.1),vI (b[a.toNat]!.2.2.2.2.1),vI (b[a.toNat]!.2.2.2.2.2)]) (vs:=[vS (b[a.toNat]!.1),h,vI (b[a.toNat]!.2.2.1),vI (b[a.toNat]!.2.2.2.1),vI (b[a.toNat]!.2.2.2.2.1),vI (b[a.toNat]!.2.2.2.2.2)]) (a.toNat*6) 0 Z Z (λo w z_=>At.mono z_.ro_cell hat17) Z<|rA Z λG=>rn 1 Z<|r_s (II G (b[a.toNat]!.1) h (b[a.toNat]!.2.2.1) (b[a.toNat]!.2.2.2.1) (b[a.toNat]!.2.2.2.2.1) (b[a.toNat]!.2.2.2.2.2)) 0 _ _ _ _ _ (#[vS (b[a.toNat]!.1),h,vI (b[a.toNat]!.2.2.1),vI (b[a.toNat]!.2.2.2.1),vI (b[a.toNat]!.2.2.2.2.1),vI (b[a.toNat]!.2.2.2.2.2)]) Z Z Z Z (.ofS Z Z (Ae Z (Ae (Shp.one (Rd.shp m)) (Ae Z (Ae Z (Ae Z (Ae Z BA))))))) Z Z<|Ak<|Ad<|rn 2 Z ?_
  refine rm 1 [0] Z<|kB d λJ x d=>gV _ (BO (caps:=[vP c 0]) Z sb Z) (λo w z_=>TQ N a (b[a.toNat]!.1) (b[a.toNat]!.2.1) (b[a.toNat]!.2.2.1) (b[a.toNat]!.2.2.2.1) (b[a.toNat]!.2.2.2.2.1) (b[a.toNat]!.2.2.2.2.2) e _ x z_.view h (z_.r m) c f (z_.r i) (AT g o w z_))<|rz Z<|AZ Z<|aN d Z (λy d=> ?_) (λy d=> ?_)
  ·refine AZ Z ?_
   cases d
   exact aR eV2
  refine Ab<|v _ _ ?_
  refine Ah<|kC d λz d=>rX z Z<|rz Z<|fg _ (Sub.of (suC _ suN)) ?_
  exact⟨p+1,by omega,p,(a+1),d,Ag Z Z,Z⟩
 refine AG<|F _ _ ?_
 refine AZ Z ?_
 cases d
 exact aR eV2
def HR(N:Nat)(c:Ao):Option (Int×Int):=(LX N c.2.1).bind λb=>(LY N c.2.1 16 b).bind λa=>some (a.1,a.2)
theorem Wp(N c r)(b:HR N c=some r)(m)(a:AB)(n:Aa1 m a c):Does prog 50 #[vA (Ac c a)] m [] (pV (vT #[vI r.1,vI r.2])):=by
 unfold HR at b
 refine Al follows func50 Z 16 Z _ fz1 (λe=> ?_)
 refine Ad<|rA Z λh=>rz Z<|Ad<|rm 3 [0] Z<|kB b λp i b=>gS (Ls:=[[(h,104,(Ac c a))]]) (cF se) (λo w z_=>Wg N c.2.1 _ i z_.view a.1 (RdN.mono z_.ro_cell n.1)) (λf l j=> ?_)
 refine rA Z λg=>r_s (List.flatten [(SN g f),[(h,104,(Ac c a))],l]) 0 _ _ _ _ _ (#[f]) Z Z Z (Gs Z (Sl.shp j)) (.ofS Z Z (Ae (Shp.one (Sl.shp j)) BA)) Z Z<|Ak<|Ad<|rm 3 [1] Z<|r_W (vF 97 #[] #[vP g 0]) Z (Jc Z)<|kB b λq d b=>gV _ (cF sc) (λo w z_=>Wi N c.2.1 16 p _ d z_.view a.1 (RdN.mono z_.ro_cell n.1) g f ((Ax j (Aj (Ls:=[(SN g f),[(h,104,(Ac c a))],l]) (k:=2) Z Z)) o w z_) (CN 0 Z Z o w z_))<|rz Z ?_
 cases b
 exact aR eV2
def Jm(_:Nat)(i:Int)(a:List (W2×Int×Int)):Option (W2):=ck (0<=i/\i<(a.length:Int)) (some ((a[i.toNat]!).1))
theorem RO(N i f r)(g:Jm N i f=some r)(j)(c:Nat)(a)(b:Rd Ad8 j a f)(d:Blk j c [a]):Does prog 225 #[vI i,vP c 0] j [] (pV (vS r)):=by
 unfold Jm at g
 refine Al follows func225 Z 9 Z _ fz2 (λh=> ?_)
 refine AZ Z<|Ad<|HO a (vs:=[a]) (o:=0) Z Z (AT d) Z<|rn 1 Z<|kC g λe g=>rI (Rd.shp b) e Z<|rF (Rd.shp b) (Bf e) Z<|rE (Aw b) e 0 Z<|rz Z ?_
 cases g
 exact aR eV1
def Gp(N:Nat)(b:Int)(d:List (W2×Int×Int)):Nat->List (W2)->Int->Option (List (W2))
  |0,_,_=>none
  |f+1,c,a=>if a<b then(Jm N a d).bind λe=>ck (0<=a/\a<(c.length:Int)) (ck (R64 (a+1)) ((Gp N b d f) ((c).set (a.toNat) e) (a+1)))else some c
def My(N:Nat)(a:Int)(b:List (W2×Int×Int)):Option (List (W2)):=ck (0<=a/\a<=8796093022208) (Gp N a b N (List.replicate a.toNat ([])) 0)
theorem Xj(N a g r)(c:My N a g=some r)(E)(b:Nat)(f)(m:Rd Ad8 E f g)(j:Blk E b [f]):Does prog 224 #[vI a,vF 225 #[] #[vP b 0]] E [] (p1 (λs_=>s_) 9 Aa3 r):=by
 unfold My at c
 refine Al follows func224 Z 21 Z _ fz2 (λz=> ?_)
 refine AZ Z<|Ad<|rn 1 Z<|kC c λA c=>cB 8<|Tx (Ls:=[]) 9 Aa3 ([]) a Z Z Z Z Z Z Z Z Z Z 8796093022208 Z A (λ_ _ _ _ _=>Iff.rfl) (λB F G=> ?_)
 refine rz Z<|Aa λJ C=>AZ Z<|Ai<|Bs _ (Sub.pick [F] [0] Z)<|AH (λtt ll nn=> ∃(n:Nat) (h:List (W2)) (d:Int),(Gp N a g n h d=some r)/\ ∃(e:List Bl),Sl 9 Aa3 B h e/\Is [(1,vF 225 #[] #[vP b 0]),(5,B),(9,vI a),(10,vI d)] (List.flatten [e]) tt ll/\nn=n+1) (N+1) ?_ ?_
 ·exact⟨N,(List.replicate a.toNat ([])),0,c,F,G,Ag Z Z,Z⟩
 clear c;rintro t l _ ⟨n,h,d,c,e,i,⟨⟨T,rfl⟩,rfl⟩,rfl⟩
 rcases n with _|n
 ·exact absurd c (by simp [Gp])
 rw [Gp] at c
 refine AZ Z<|Aa λH p=>aD c Z (λq c=> ?_) (λq c=> ?_)
 ·refine Ab<|p _ _ ?_
  refine Aa λI s=>Ai<|AZ Z<|Ah<|rn 4 Z<|kB c λu v c=>gV _ (BO (caps:=[vP b 0]) Z nE Z) (λo w z_=>RO N d g _ v z_.view b f (z_.r m) (AT j o w z_))<|kC c λk c=>rI (Sl.shp i) k Z<|RT (Ls:=[e]) 0 (En:=Aa3) (h[d.toNat]!) u (d.toNat) 0 Z Z Z i (Dx k) Z Z Z (Jp Z) Z (λx D=> ?_)
  refine Ak<|s _ _ ?_
  refine Ah<|kC c λy c=>rX y Z<|rz Z<|fg _ (Sub.pick [x] [0] Z) ?_
  exact⟨n+1,by omega,n,(h).set (d.toNat) u,(d+1),c,x,D,Ag Z Z,Z⟩
 refine AG<|C _ _ ?_
 refine AZ Z ?_
 cases c
 refine Bh (λK=>GZ (v0:=B) i (Dy (Sub.pick [e] [0] Z)) Z (FZ Z))
def KP(N:Nat)(a:List (W2×Int×Int)):Option (List (W2)):=(My N (a.length:Int) a).bind λb=>some b
theorem Xi(N f r)(c:KP N f=some r)(h a)(b:Rd Ad8 h a f):Does prog 158 #[a] h [] (p1 (λs_=>s_) 9 Aa3 r):=by
 unfold KP at c
 refine Al follows func158 Z 7 Z _ fz1 (λd=> ?_)
 refine Ad<|r_a (23, #[a]) Z Z (Od Z (Rd.shp b)) (λe=> ?_) (.inr Z)
 refine rz Z<|Ad<|rm 1 [0] Z<|rL (Rd.shp b) Z<|r_W (vF 225 #[] #[vP e 0]) Z (Jc Z)<|kB c λl g c=>gS (Ls:=[(gI e a)]) (cF dy) (λo w z_=>Xj N (f.length:Int) f _ g z_.view e a ((Aw b) o w z_) (CN 0 Z Z o w z_)) (λi j k=> ?_)
 refine rz Z ?_
 cases c
 refine Bh (λm=>GZ (v0:=i) k (Dy (Sub.pick [(gI e a),j] [1] Z)) Z (FZ Z))
def Kq(N:Nat)(_:W2)(_:Int)(a:Int):Option Bool:=(Gd N a 0 4).bind λb=>some b
theorem Ss(N b c a r)(d:Kq N b c a=some r):Gives prog 161 #[vA #[vS b,vI c,vI a]] (vB r):=by
 unfold Kq at d
 refine Aq follows func161 Z 6 Z _ fz1 (λe=> ?_)
 refine Ad<|rA Z λg=>rz Z<|Ad<|rm 2 [0] Z<|kB d λh f d=>rc _ (cF KX) (IA N a 0 4 _ f)<|rz Z ?_
 cases d
 exact aR eE1
def JY(N:Nat)(b:W2)(c:Int)(a:Int):Option Int:=(Kq N b c a).bind λd=>if d=true then some (max a 1)else some 0
theorem Qy(N d e b r)(a:JY N d e b=some r):Gives prog 206 #[vA #[vS d,vI e,vI b]] (vI r):=by
 unfold JY at a
 refine Aq follows func206 Z 9 Z _ fz1 (λf=> ?_)
 refine Ad<|rA Z λi=>rz Z<|Aa λj g=>Ad<|rm 1 [0] Z<|kB a λk h a=>rc _ (cF dL) (Ss N d e b _ h)<|rz Z<|BI _ Z (λc=> ?_) (λc=> ?_)
 ·replace a:=ifn (Bool.eq_false_iff.1 (Dk c)) a
  refine AZ Z ?_
  cases a
  exact aR eE1
 replace a:=ifp (Dl c) a
 refine Ab<|g _ _ ?_
 refine Ad<|rm 2 [0] Z<|r_W (vI (max b 1)) Z (mb Z Z)<|rz Z ?_
 cases a
 exact aR eE1
def Kb(N:Nat)(b:List (W2×Int×Int)):Nat->Int->Int->Option Int
  |0,_,_=>none
  |e+1,c,a=>if a<(b.length:Int)then ck (0<=a/\a<(b.length:Int)) ((JY N ((b[a.toNat]!).1) ((b[a.toNat]!).2.1) ((b[a.toNat]!).2.2)).bind λd=>ck (R64 (c+d)) (ck (R64 (a+1)) ((Kb N b e) (c+d) (a+1))))else some c
def Pg(N:Nat)(a:List (W2×Int×Int)):Option Int:=Kb N a N 0 0
theorem Yw(N f r)(a:Pg N f=some r)(u g)(h:Rd Ad8 u g f):Does prog 162 #[g] u [] (pV (vI r)):=by
 unfold Pg at a
 refine Al follows func162 Z 18 Z _ fz1 (λm=> ?_)
 refine AZ Z<|AZ Z<|Aa λw n=>Ad<|rn 1 Z<|rL (Rd.shp h) Z<|rz Z<|Ai<|AH (λtt ll nn=> ∃(e:Nat) (c:Int) (b:Int),(Kb N f e c b=some r)/\Is [(3,vI c),(6,g),(7,vI (f.length:Int)),(8,vI b)] [] tt ll/\nn=e+1) (N+1) ?_ ?_
 ·exact⟨N,0,0,a,Ag Z Z,Z⟩
 clear a;rintro t l _ ⟨e,c,b,a,⟨⟨T,rfl⟩,rfl⟩,rfl⟩
 rcases e with _|e
 ·exact absurd a (by simp [Kb])
 rw [Kb] at a
 refine AZ Z<|Aa λx o=>aD a Z (λp a=> ?_) (λp a=> ?_)
 ·refine Ab<|o _ _ ?_
  refine Aa λy q=>Ai<|Ad<|kC a λd a=>rI (Rd.shp h) d Z<|rE (Aw h) d 0 Z<|rA Z λv=>ry [0] Z<|Ah<|rm 2 [0] Z<|kB a λs i a=>rc _ (cF WS) (Qy N ((f[b.toNat]!).1) ((f[b.toNat]!).2.1) ((f[b.toNat]!).2.2) _ i)<|kC a λj a=>rX j Z<|rz Z<|q _ _ ?_
  refine Ah<|kC a λk a=>rX k Z<|rz Z<|fg _ (Sub.of (suC _ suN)) ?_
  exact⟨e+1,by omega,e,(c+s),(b+1),a,Ag Z Z,Z⟩
 refine AG<|n _ _ ?_
 refine AZ Z ?_
 cases a
 exact aR eV1
def Kc(N:Nat)(b:List ((W2)×(List (W2×Int))×Int×Int×Int×Int))(c:List (W2×Int×Int))(i:List (W2)):Nat->Int->Option Int
  |0,_=>none
  |h+1,a=>if a<(c.length:Int)then ck (0<=a/\a<(c.length:Int)) ((Lm N i a).bind λd=>if(d:Int)≠0 then some d else ck ((R64 ((b.length:Int) - 1))) ((Gd N ((c[a.toNat]!).2.1) 0 ((b.length:Int) - 1)).bind λg=>if g=true then(Kq N ((c[a.toNat]!).1) ((c[a.toNat]!).2.1) ((c[a.toNat]!).2.2)).bind λe=>if e=true then ck (R64 (a+1)) ((Kc N b c i h) (a+1))else some 7 else some 5))else(Pg N c).bind λf=>if f>32 then some 8 else some 0
def Nw(N:Nat)(a:List ((W2)×(List (W2×Int))×Int×Int×Int×Int))(b:List (W2×Int×Int)):Option Int:=if(b.length:Int)>16 then some 2 else(KP N b).bind λc=>Kc N a b c N 0
theorem iH(N c e r)(a:Nw N c e=some r)(O d)(g:RdN Ad5 O d c)(h)(i:Rd Ad8 O h e):Does prog 100 #[d,h] O [] (pV (vI r)):=by
 unfold Nw at a
 refine Al follows func100 Z 43 Z _ fz2 (λI=> ?_)
 refine AZ Z<|Aa λK2 J=>Ad<|rn 1 Z<|rL (Rd.shp i) Z<|rz Z<|aD a Z (λK a=> ?_) (λK a=> ?_)
 ·refine AZ Z ?_
  cases a
  exact aR eV1
 refine Ab<|J _ _ ?_
 refine Ad<|rn 1 Z<|kB a λP L a=>gS (Ls:=[]) (cF oN) (λo w z_=>Xi N e _ L z_.view h ((Aw i) o w z_)) (λQ n M=> ?_)
 refine rz Z<|Aa λR q=>Ad<|rn 1 Z<|rL (Rd.shp i) Z<|rz Z<|Ai<|Bs _ (Sub.pick [n] [0] Z)<|AH (λtt ll nn=> ∃(f:Nat) (b:Int),(Kc N c e P f b=some r)/\Is [(0,d),(1,h),(5,Q),(14,h),(15,vI (e.length:Int)),(16,vI b)] (List.flatten [n]) tt ll/\nn=f+1) (N+1) ?_ ?_
 ·exact⟨N,0,a,Ag Z Z,Z⟩
 clear a;rintro t l _ ⟨f,b,a,⟨⟨T,rfl⟩,rfl⟩,rfl⟩
 rcases f with _|f
 ·exact absurd a (by simp [Kc])
 rw [Kc] at a
 refine AZ Z<|Aa λS s=>aD a Z (λu a=> ?_) (λu a=> ?_)
 ·refine Ab<|s _ _ ?_
  refine Aa λU v=>Ai<|Ad<|rn 1 Z<|kC a λp a=>rI (Rd.shp i) p Z<|rE (Aw i) p 0 Z<|rA Z λx=>ry [0] Z<|Aa λV y=>Ad<|rn 2 Z<|kB a λW z a=>gV _ (cF dM) (λo w z_=>Ug N P b _ z z_.view Q ((Ax M (Aj (Ls:=[(gH x ((e[b.toNat]!).1) ((e[b.toNat]!).2.1) ((e[b.toNat]!).2.2)),n]) (k:=1) Z Z)) o w z_))<|rz Z<|AZ Z<|aN a Z (λA a=> ?_) (λA a=> ?_)
  ·refine AZ Z ?_
   cases a
   exact aR eV1
  refine Ab<|y _ _ ?_
  refine Ai<|Ad<|rm 3 [0] Z<|rL (RdN.shp g) Z<|kC a λB a=>rX B Z<|kB a λX C a=>rc _ (cF KX) (IA N ((e[b.toNat]!).2.1) 0 ((c.length:Int) - 1) _ C)<|rz Z<|BI _ Z (λj=> ?_) (λj=> ?_)
  ·replace a:=ifn (Bool.eq_false_iff.1 (Dk j)) a
   refine AZ Z<|GS [(4,vI 5)] Z (λT=> ?_)
   cases a
   exact aR eV1
  replace a:=ifp (Dl j) a
  refine Ad<|rm 1 [0] Z<|kB a λY D a=>rc _ (cF dL) (Ss N ((e[b.toNat]!).1) ((e[b.toNat]!).2.1) ((e[b.toNat]!).2.2) _ D)<|rz Z<|BI _ Z (λm=> ?_) (λm=> ?_)
  ·replace a:=ifn (Bool.eq_false_iff.1 (Dk m)) a
   refine AZ Z<|GS [(4,vI 7)] Z (λT=> ?_)
   cases a
   exact aR eV1
  replace a:=ifp (Dl m) a
  refine Ab<|v _ _ ?_
  refine Ah<|kC a λE a=>rX E Z<|rz Z<|fg _ (Sub.pick [(gH x ((e[b.toNat]!).1) ((e[b.toNat]!).2.1) ((e[b.toNat]!).2.2)),n] [1] Z) ?_
  exact⟨f+1,by omega,f,(b+1),a,Ag Z Z,Z⟩
 refine AG<|q _ _ ?_
 refine Aa λaa F=>Ad<|rn 1 Z<|kB a λab G a=>gV _ (cF dK) (λo w z_=>Yw N e _ G z_.view h ((Aw i) o w z_))<|rz Z<|aD a Z (λH a=> ?_) (λH a=> ?_)
 ·refine AZ Z ?_
  cases a
  exact aR eV1
 refine Ab<|F _ _ ?_
 refine AZ Z ?_
 cases a
 exact aR eV1
def Js(N:Nat)(c:Ao):Option (Int×Int):=(Nw N c.2.1 c.2.2.1).bind λa=>some (0,a)
theorem ai(N c r)(a:Js N c=some r)(f)(d:AB)(g:Aa1 f d c):Does prog 51 #[vA (Ac c d)] f [] (pV (vT #[vI r.1,vI r.2])):=by
 unfold Js at a
 refine Al follows func51 Z 11 Z _ fz1 (λb=> ?_)
 refine Ad<|rA Z λh=>rz Z<|Ad<|rm 6 [0,0] Z<|kB a λi e a=>gV _ (cF pJ) (λo w z_=>iH N c.2.1 c.2.2.1 _ e z_.view d.1 (RdN.mono z_.ro_cell g.1) d.2.1 ((Aw g.2.1) o w z_))<|rz Z ?_
 cases a
 exact aR eV2
def QR(_:Nat)(a:W2)(_:Int):Option (W2):=some a
theorem cL(N a b r)(d:QR N a b=some r):Gives prog 102 #[vA #[vS a,vI b]] (vS r):=by
 unfold QR at d
 refine Aq follows func102 Z 5 Z _ fz1 (λc=> ?_)
 refine Ad<|rA Z λe=>rz Z<|AY [0] Z ?_
 cases d
 exact aR eE1
def IT(N:Nat)(c:List (W2×Int)):Nat->List (W2)->Int->Option (List (W2))
  |0,_,_=>none
  |e+1,b,a=>if a<(c.length:Int)then ck (0<=a/\a<(c.length:Int)) ((QR N ((c[a.toNat]!).1) ((c[a.toNat]!).2)).bind λd=>ck (0<=a/\a<(b.length:Int)) (ck (R64 (a+1)) ((IT N c e) ((b).set (a.toNat) d) (a+1))))else some b
def OV(N:Nat)(a:List (W2×Int)):Option (List (W2)):=ck (0<=(a.length:Int)/\(a.length:Int)<=8796093022208) (IT N a N ((List.replicate ((a.length:Int)).toNat ([]))) 0)
theorem XC(N d r)(b:OV N d=some r)(C k)(g:Rd Ab3 C k d):Does prog 163 #[k,vF 102 #[] #[]] C [] (p1 (λs_=>s_) 9 Aa3 r):=by
 unfold OV at b
 refine Al follows func163 Z 26 Z _ fz2 (λw=> ?_)
 refine AZ Z<|Ad<|rn 1 Z<|rL (Rd.shp g) Z<|kC b λx b=>cB 10<|Tx (Ls:=[]) 9 Aa3 ([]) (d.length:Int) Z Z Z Z Z Z Z Z Z Z 8796093022208 Z x (λ_ _ _ _ _=>Iff.rfl) (λy B D=> ?_)
 refine rz Z<|Aa λG z=>Ad<|rn 1 Z<|rL (Rd.shp g) Z<|rz Z<|Ai<|Bs _ (Sub.pick [B] [0] Z)<|AH (λtt ll nn=> ∃(j:Nat) (e:List (W2)) (a:Int),(IT N d j e a=some r)/\ ∃(c:List Bl),Sl 9 Aa3 y e c/\Is [(1,vF 102 #[] #[]),(5,y),(11,k),(12,vI (d.length:Int)),(13,vI a)] (List.flatten [c]) tt ll/\nn=j+1) (N+1) ?_ ?_
 ·exact⟨N,(List.replicate ((d.length:Int)).toNat ([])),0,b,B,D,Ag Z Z,Z⟩
 clear b;rintro t l _ ⟨j,e,a,b,c,f,⟨⟨T,rfl⟩,rfl⟩,rfl⟩
 rcases j with _|j
 ·exact absurd b (by simp [IT])
 rw [IT] at b
 refine AZ Z<|Aa λE m=>aD b Z (λn b=> ?_) (λn b=> ?_)
 ·refine Ab<|m _ _ ?_
  refine Aa λF o=>Ai<|Ad<|rn 1 Z<|kC b λh b=>rI (Rd.shp g) h Z<|rE (Aw g) h 0 Z<|rA Z λp=>ry [0] Z<|Ah<|rm 4 [0] Z<|kB b λq s b=>rc _ (BO (caps:=[]) Z pG Z) (cL N ((d[a.toNat]!).1) ((d[a.toNat]!).2) _ s)<|kC b λi b=>rI (Sl.shp f) i Z<|RT (Ls:=[(Rl p ((d[a.toNat]!).1) ((d[a.toNat]!).2)),c]) 1 (En:=Aa3) (e[a.toNat]!) q (a.toNat) 0 Z Z Z f (Dx i) Z Z Z (Jp Z) Z (λu A=> ?_)
  refine Ak<|o _ _ ?_
  refine Ah<|kC b λv b=>rX v Z<|rz Z<|fg _ (Sub.pick [(Rl p ((d[a.toNat]!).1) ((d[a.toNat]!).2)),u] [1] Z) ?_
  exact⟨j+1,by omega,j,(e).set (a.toNat) q,(a+1),b,u,A,Ag Z Z,Z⟩
 refine AG<|z _ _ ?_
 refine AZ Z ?_
 cases b
 refine Bh (λH=>GZ (v0:=y) f (Dy (Sub.pick [c] [0] Z)) Z (FZ Z))
def EZ(N:Nat)(s:W2):Option Bool:=(Li N s).bind λb=>if b=true then(LG N s ([46]:W2)).bind λa=>some (!(a))else some false
theorem Mo(N s r)(a:EZ N s=some r):Gives prog 166 #[vS s] (vB r):=by
 unfold EZ at a
 refine Aq follows func166 Z 10 Z _ fz1 (λd=> ?_)
 refine AZ Z<|Aa λh b=>Ah<|rn 1 Z<|kB a λg e a=>rc _ (cF aO) (RV N s _ e)<|rn 1 Z ?_
 rcases c:g with _|_
 ·replace a:=iB c a
  refine rz Z<|b _ _ ?_
  cases a
  exact aR eE1
 replace a:=ifp c a
 refine rn 1 Z<|r_y Z<|kB a λi f a=>rc _ (cF dA) (Su N s ([46]:W2) _ f)<|rz Z<|b _ _ ?_
 cases a
 exact aR eE1
def Iv(N:Nat)(w:Int):Option Int:=(AA N w 1 128).bind λa=>(Ap N a 9).bind λb=>some b
theorem PU(N w r)(a:Iv N w=some r):Gives prog 104 #[vI w] (vI r):=by
 unfold Iv at a
 refine Aq follows func104 Z 6 Z _ fz1 (λb=> ?_)
 refine AZ Z<|Ad<|rn 1 Z<|kB a λe c a=>rc _ (cF Fz) (AR N w 1 128 _ c)<|kB a λf d a=>rc _ (cF Bk) (Az N e 9 _ d)<|rz Z ?_
 cases a
 exact aR eE1
def OE(N:Nat)(_:W2)(a:Int):Option Int:=(Iv N a).bind λb=>some b
theorem cK(N b a r)(c:OE N b a=some r):Gives prog 103 #[vA #[vS b,vI a]] (vI r):=by
 unfold OE at c
 refine Aq follows func103 Z 6 Z _ fz1 (λd=> ?_)
 refine Ad<|rA Z λf=>rz Z<|Ad<|rm 2 [0] Z<|kB c λg e c=>rc _ (cF WX) (PU N a _ e)<|rz Z ?_
 cases c
 exact aR eE1
def Lc(N:Nat)(i:Int)(b:W2)(c:Int)(a:List (W2)):Option Int:=ck (0<=i/\i<(a.length:Int)) ((EZ N (a[i.toNat]!)).bind λg=>(Ap N g 4).bind λh=>(Ba N a i).bind λf=>(OE N b c).bind λe=>(AI N ([h,f,e])).bind λd=>some d)
theorem UA(N i e f b r)(c:Lc N i e f b=some r)(C)(n:Nat)(a)(g:Rd Aa3 C a b)(h:Blk C n [a])(p:Nat)(q:Blk C p [vF 103 #[] #[]]):Does prog 165 #[vI i,vA #[vS e,vI f],vP n 0,vP p 0] C [] (pV (vI r)):=by
 unfold Lc at c
 refine Al follows func165 Z 21 Z _ fz4 (λB=> ?_)
 refine Ad<|rA Z λJ=>rz Z<|Aa λM D=>BB [(some 15,false),(some 19,false),(some 20,false)] (conG prog [(15,cV (Ba N b i) λm=>vI m),(20,λ_ _ v_ L_ U_=> ∀m,EZ N (b[i.toNat]!)=some m-> ∀v,Ap N m 4=some v-> ∀x,Ba N b i=some x-> ∀y,OE N e f=some y-> ∀z,AI N ([v,x,y])=some z->(pV (vI z)) v_ L_ U_)]) [] (by decide+kernel) (λO=>AK)<|HO a (vs:=[a]) (o:=0) Z Z (AT h) Z<|rn 1 Z<|kC c λA c=>rI (Rd.shp g) A Z<|rE (Aw g) A 0 Z<|kB c λK s c=>rc _ (cF Oc) (Mo N (b[i.toNat]!) _ s)<|kB c λE t c=>rc _ (cF Bk) (Az N K 4 _ t)<|HO a (vs:=[a]) (o:=0) Z Z (AT h) Z<|rn 1 Z<|kB c λF d c=>rg _ (cF OI) (λo w z_=>Iu N b i _ d z_.view a (z_.r g)) (GQ d)<|HO (vF 103 #[] #[]) (vs:=[vF 103 #[] #[]]) (o:=0) Z Z (AT q) Z<|rm 1 [0] Z<|kB c λu j c=>rc _ (BO (caps:=[]) Z pF Z) (cK N e f _ j) ?_
 refine Ke (Ls:=[(Rl J e f)]) 43 BE [E,F,u] [vI E,vI F,vI u] [vI 0,vI 0,vI 0] Z Z Z Z Z Z Z (by kernel_rfl) (by kernel_rfl) Z Z Z (λG H I=> ?_)
 refine kB c λL l c=>rg _ (cF Fb) (λo w z_=>Cc N ([E,F,u]) _ l z_.view G ((Ax I (Aj (Ls:=[(Rl J e f),H]) (k:=1) Z Z)) o w z_)) (λ_ _ v_ L_ U_=>⟨λh_=>h_ _ s _ t _ d _ j _ l,λh_=>by intro _ e_;cases q1 (e_.symm.trans s);intro _ e_;cases q1 (e_.symm.trans t);intro _ e_;cases q1 (e_.symm.trans d);intro _ e_;cases q1 (e_.symm.trans j);intro _ e_;cases q1 (e_.symm.trans l);exact h_⟩) ?_
 refine rz Z<|D _ _ ?_
 cases c
 exact aR eV1
def IX(N:Nat)(c:List (W2×Int))(b:List (W2)):Nat->Int->Option (Int×Int)
  |0,_=>none
  |e+1,a=>if a<(c.length:Int)then ck (0<=a/\a<(c.length:Int)) ((Lc N a ((c[a.toNat]!).1) ((c[a.toNat]!).2) b).bind λd=>if(d:Int)≠0 then some (a,d)else ck (R64 (a+1)) ((IX N c b e) (a+1)))else some (0,0)
def MI(N:Nat)(c:List (W2×Int))(b:Int)(a:List (W2)):Option (Int×Int):=if(c.length:Int)>b then some (0,2)else IX N c a N 0
theorem XG(N q m d r)(c:MI N q m d=some r)(A p)(j:Rd Ab3 A p q)(a:Nat)(e)(i:Rd Aa3 A e d)(g:Blk A a [e])(b:Nat)(h:Blk A b [vF 103 #[] #[]]):Does prog 164 #[p,vI m,vF 165 #[] #[vP a 0,vP b 0]] A [] (pV (vT #[vI r.1,vI r.2])):=by
 unfold MI at c
 refine Al follows func164 Z 31 Z _ fz3 (λB=> ?_)
 refine AZ Z<|Aa λJ C=>Ad<|rn 1 Z<|rL (Rd.shp j) Z<|rz Z<|aD c Z (λD c=> ?_) (λD c=> ?_)
 ·refine AZ Z ?_
  cases c
  exact aR eV2
 refine Ab<|C _ _ ?_
 refine Aa λK E=>Ad<|rn 1 Z<|rL (Rd.shp j) Z<|rz Z<|Ai<|AH (λtt ll nn=> ∃(n:Nat) (f:Int),(IX N q d n f=some r)/\Is [(2,vF 165 #[] #[vP a 0,vP b 0]),(15,p),(16,vI (q.length:Int)),(17,vI f)] [] tt ll/\nn=n+1) (N+1) ?_ ?_
 ·exact⟨N,0,c,Ag Z Z,Z⟩
 clear c;rintro t l _ ⟨n,f,c,⟨⟨T,rfl⟩,rfl⟩,rfl⟩
 rcases n with _|n
 ·exact absurd c (by simp [IX])
 rw [IX] at c
 refine AZ Z<|Aa λF s=>aD c Z (λu c=> ?_) (λu c=> ?_)
 ·refine Ab<|s _ _ ?_
  refine Aa λG v=>Ai<|Ad<|rn 1 Z<|kC c λk c=>rI (Rd.shp j) k Z<|rE (Aw j) k 0 Z<|rA Z λH=>ry [0] Z<|Ad<|rm 3 [0] Z<|kB c λI x c=>gV _ (BO (caps:=[vP a 0,vP b 0]) Z oK Z) (λo w z_=>UA N f ((q[f.toNat]!).1) ((q[f.toNat]!).2) d _ x z_.view a e (z_.r i) (AT g o w z_) b (AT h o w z_))<|rz Z<|AZ Z<|aN c Z (λy c=> ?_) (λy c=> ?_)
  ·refine AZ Z ?_
   cases c
   exact aR eV2
  refine Ab<|v _ _ ?_
  refine Ah<|kC c λz c=>rX z Z<|rz Z<|fg _ (Sub.of (suC _ suN)) ?_
  exact⟨n+1,by omega,n,(f+1),c,Ag Z Z,Z⟩
 refine AG<|E _ _ ?_
 refine AZ Z ?_
 cases c
 exact aR eV2
def OR(N:Nat)(c:List (W2×Int))(b:Int):Option (Int×Int):=(OV N c).bind λd=>(MI N c b d).bind λa=>some (a.1,a.2)
theorem Xy(N j a r)(c:OR N j a=some r)(p b)(f:Rd Ab3 p b j):Does prog 101 #[b,vI a,vF 102 #[] #[],vF 103 #[] #[]] p [] (pV (vT #[vI r.1,vI r.2])):=by
 unfold OR at c
 refine Al follows func101 Z 20 Z _ fz4 (λg=> ?_)
 refine Ad<|rA Z λd=>rz Z<|Ad<|rn 2 Z<|kB c λq l c=>gS (Ls:=[(VV d (vF 103 #[] #[]))]) (cF oM) (λo w z_=>XC N j _ l z_.view b ((Aw f) o w z_)) (λh n m=> ?_)
 refine rA Z λi=>r_s (List.flatten [(SN i h),(VV d (vF 103 #[] #[])),n]) 0 _ _ _ _ _ (#[h]) Z Z Z (Gs Z (Sl.shp m)) (.ofS Z Z (Ae (Shp.one (Sl.shp m)) BA)) Z Z<|Ak<|Ad<|rn 2 Z<|r_W (vF 165 #[] #[vP i 0,vP d 0]) Z (Jc Z)<|kB c λs e c=>gV _ (cF oL) (λo w z_=>XG N j a q _ e z_.view b ((Aw f) o w z_) i h ((Ax m (Aj (Ls:=[(SN i h),(VV d (vF 103 #[] #[])),n]) (k:=2) Z Z)) o w z_) (CN 0 Z Z o w z_) d (CN 1 Z Z o w z_))<|rz Z ?_
 cases c
 exact aR eV2
def KK(N:Nat)(c:Ao):Option (Int×Int):=(OR N c.2.2.2.1 16).bind λa=>some (a.1,a.2)
theorem ae(N c r)(a:KK N c=some r)(f)(e:AB)(g:Aa1 f e c):Does prog 52 #[vA (Ac c e)] f [] (pV (vT #[vI r.1,vI r.2])):=by
 unfold KK at a
 refine Al follows func52 Z 10 Z _ fz1 (λb=> ?_)
 refine Ad<|rA Z λh=>rz Z<|Ad<|rm 3 [0] Z<|kB a λi d a=>gV _ (cF pI) (λo w z_=>Xy N c.2.2.2.1 16 _ d z_.view e.2.2.1 ((Aw g.2.2.1) o w z_))<|rz Z ?_
 cases a
 exact aR eV2
def Na(_:Nat)(a:W2)(_:List (Int×Int))(_:List (Int×Int×Int))(_:List (Int×W3×Int×W3×Int))(_:Int):Option (W2):=some a
theorem UF(N d e f g h r)(k:Na N d e f g h=some r)(j:Ro)(a:Value)(_hs_1:Rd Af3 j a e)(b:Value)(_hs_2:Rd Ad1 j b f)(c:Value)(_hs_3:Rd Af4 j c g):Does prog 106 #[vA #[vS d,a,b,c,vI h]] j [] (pV (vS r)):=by
 unfold Na at k
 refine Al follows func106 Z 5 Z _ fz1 (λi=> ?_)
 refine Ad<|rA Z λl=>rz Z<|AY [0] Z ?_
 cases k
 exact aR eV1
def IR(N:Nat)(b:List ((W2)×(List (Int×Int))×(List (Int×Int×Int))×(List (Int×W3×Int×W3×Int))×Int)):Nat->List (W2)->Int->Option (List (W2))
  |0,_,_=>none
  |e+1,c,a=>if a<(b.length:Int)then ck (0<=a/\a<(b.length:Int)) ((Na N (b[a.toNat]!.1) (b[a.toNat]!.2.1) (b[a.toNat]!.2.2.1) (b[a.toNat]!.2.2.2.1) (b[a.toNat]!.2.2.2.2)).bind λd=>ck (0<=a/\a<(c.length:Int)) (ck (R64 (a+1)) ((IR N b e) ((c).set (a.toNat) d) (a+1))))else some c
def OT(N:Nat)(a:List ((W2)×(List (Int×Int))×(List (Int×Int×Int))×(List (Int×W3×Int×W3×Int))×Int)):Option (List (W2)):=ck (0<=(a.length:Int)/\(a.length:Int)<=8796093022208) (IR N a N ((List.replicate ((a.length:Int)).toNat ([]))) 0)
theorem XA(N b r)(c:OT N b=some r)(L v)(j:RdN Ae1 L v b):Does prog 167 #[v,vF 106 #[] #[]] L [] (p1 (λs_=>s_) 9 Aa3 r):=by
 unfold OT at c
 refine Al follows func167 Z 26 Z _ fz2 (λF=> ?_)
 refine AZ Z<|Ad<|rn 1 Z<|rL (RdN.shp j) Z<|kC c λG c=>cB 10<|Tx (Ls:=[]) 9 Aa3 ([]) (b.length:Int) Z Z Z Z Z Z Z Z Z Z 8796093022208 Z G (λ_ _ _ _ _=>Iff.rfl) (λH K M=> ?_)
 refine rz Z<|Aa λQ I=>Ad<|rn 1 Z<|rL (RdN.shp j) Z<|rz Z<|Ai<|Bs _ (Sub.pick [K] [0] Z)<|AH (λtt ll nn=> ∃(s:Nat) (h:List (W2)) (a:Int),(IR N b s h a=some r)/\ ∃(d:List Bl),Sl 9 Aa3 H h d/\Is [(1,vF 106 #[] #[]),(5,H),(11,v),(12,vI (b.length:Int)),(13,vI a)] (List.flatten [d]) tt ll/\nn=s+1) (N+1) ?_ ?_
 ·exact⟨N,(List.replicate ((b.length:Int)).toNat ([])),0,c,K,M,Ag Z Z,Z⟩
 clear c;rintro t l _ ⟨s,h,a,c,d,i,⟨⟨T,rfl⟩,rfl⟩,rfl⟩
 rcases s with _|s
 ·exact absurd c (by simp [IR])
 rw [IR] at c
 refine AZ Z<|Aa λO x=>aD c Z (λy c=> ?_) (λy c=> ?_)
 ·refine Ab<|x _ _ ?_
  refine Aa λP z=>Ai<|Ad<|rn 1 Z<|kC c λk c=> ?_
  obtain⟨_,⟨e,f,g,m,n,p,rfl⟩,hat22⟩:=RdN.at (E:=Ae1) j (Dx k)
  refine rI (RdN.shp j) k Z<|Oe (vA #[vS (b[a.toNat]!.1),e,f,g,vI (b[a.toNat]!.2.2.2.2)]) (vs:=[vS (b[a.toNat]!.1),e,f,g,vI (b[a.toNat]!.2.2.2.2)]) (a.toNat*5) 0 Z Z (λo w z_=>At.mono z_.ro_cell hat22) Z<|rA Z λu=>rn 1 Z<|r_s (List.flatten [(VW u (b[a.toNat]!.1) e f g (b[a.toNat]!.2.2.2.2)),d]) 0 _ _ _ _ _ (#[vS (b[a.toNat]!.1),e,f,g,vI (b[a.toNat]!.2.2.2.2)]) Z Z Z Z (.ofS Z Z (Ae Z (Ae (Shp.one (Rd.shp m)) (Ae (Shp.one (Rd.shp n)) (Ae (Shp.one (Rd.shp p)) (Ae Z BA)))))) Z Z<|Ak<|Ah<|rm 4 [0] Z<|kB c λA B c=>gV _ (BO (caps:=[]) Z pD Z) (λo w z_=>UF N (b[a.toNat]!.1) (b[a.toNat]!.2.1) (b[a.toNat]!.2.2.1) (b[a.toNat]!.2.2.2.1) (b[a.toNat]!.2.2.2.2) _ B z_.view e (z_.r m) f (z_.r n) g (z_.r p))<|kC c λq c=>rI (Sl.shp i) q Z<|RT (Ls:=[(VW u (b[a.toNat]!.1) e f g (b[a.toNat]!.2.2.2.2)),d]) 1 (En:=Aa3) (h[a.toNat]!) A (a.toNat) 0 Z Z Z i (Dx q) Z Z Z (Jp Z) Z (λC J=> ?_)
  refine Ak<|z _ _ ?_
  refine Ah<|kC c λD c=>rX D Z<|rz Z<|fg _ (Sub.pick [(VW u (b[a.toNat]!.1) e f g (b[a.toNat]!.2.2.2.2)),C] [1] Z) ?_
  exact⟨s+1,by omega,s,(h).set (a.toNat) A,(a+1),c,C,J,Ag Z Z,Z⟩
 refine AG<|I _ _ ?_
 refine AZ Z ?_
 cases c
 refine Bh (λR=>GZ (v0:=H) i (Dy (Sub.pick [d] [0] Z)) Z (FZ Z))
def Oh(N:Nat)(c:List (W2×Int×Int)):Nat->Int->Int->Option (Int×Int×Bool)
  |0,_,_=>none
  |e+1,a,b=>if b<(c.length:Int)then ck (0<=b/\b<(c.length:Int)) ((JY N ((c[b.toNat]!).1) ((c[b.toNat]!).2.1) ((c[b.toNat]!).2.2)).bind λd=>if a<d then some (b,a,true)else ck (R64 (a - d)) (ck (R64 (b+1)) ((Oh N c e) (a - d) (b+1))))else some (0,0,false)
def RP(N:Nat)(b:List (W2×Int×Int))(a:Int):Option (Int×Int×Bool):=if a<0 then some (0,0,false)else Oh N b N a 0
theorem eP(N g d r)(a:RP N g d=some r)(z h)(i:Rd Ad8 z h g):Does prog 131 #[h,vI d] z [] (pV (vT #[vI r.1,vI r.2.1,vB r.2.2])):=by
 unfold RP at a
 refine Al follows func131 Z 30 Z _ fz2 (λu=> ?_)
 refine AZ Z<|Aa λE v=>AZ Z<|aD a Z (λw a=> ?_) (λw a=> ?_)
 ·refine AZ Z ?_
  cases a
  exact aR eV3
 refine Ab<|v _ _ ?_
 refine Aa λF x=>Ad<|rn 1 Z<|rL (Rd.shp i) Z<|rz Z<|Ai<|AH (λtt ll nn=> ∃(f:Nat) (b:Int) (c:Int),(Oh N g f b c=some r)/\Is [(1,vI b),(12,h),(13,vI (g.length:Int)),(14,vI c)] [] tt ll/\nn=f+1) (N+1) ?_ ?_
 ·exact⟨N,d,0,a,Ag Z Z,Z⟩
 clear a;rintro t l _ ⟨f,b,c,a,⟨⟨T,rfl⟩,rfl⟩,rfl⟩
 rcases f with _|f
 ·exact absurd a (by simp [Oh])
 rw [Oh] at a
 refine AZ Z<|Aa λA j=>aD a Z (λk a=> ?_) (λk a=> ?_)
 ·refine Ab<|j _ _ ?_
  refine Aa λB m=>Ai<|Ad<|rn 1 Z<|kC a λe a=>rI (Rd.shp i) e Z<|rE (Aw i) e 0 Z<|rA Z λC=>ry [0] Z<|Ad<|rm 1 [0] Z<|kB a λy n a=>rc _ (cF WS) (Qy N ((g[c.toNat]!).1) ((g[c.toNat]!).2.1) ((g[c.toNat]!).2.2) _ n)<|rz Z<|Aa λD o=>AZ Z<|aD a Z (λp a=> ?_) (λp a=> ?_)
  ·refine AZ Z ?_
   cases a
   exact aR eV3
  refine Ab<|o _ _ ?_
  refine Ah<|rn 2 Z<|kC a λq a=>rX q Z<|rz Z<|m _ _ ?_
  refine Ah<|kC a λs a=>rX s Z<|rz Z<|fg _ (Sub.of (suC _ suN)) ?_
  exact⟨f+1,by omega,f,(b - y),(c+1),a,Ag Z Z,Z⟩
 refine AG<|x _ _ ?_
 refine AZ Z ?_
 cases a
 exact aR eV3
def PI(N:Nat)(a:List (W2×Int×Int))(i:Int):Option (Int×Bool):=ck (0<=i/\i<=(a.length:Int)) ((Pg N (((a).take (i.toNat)).drop 0)).bind λb=>some (b,true))
def Ph(N:Nat)(a:List (W2×Int×Int))(i:Int):Option (Int×Bool):=ck ((R64 ((a.length:Int) - 1))) ((Gd N i 0 ((a.length:Int) - 1)).bind λc=>if c=true then ck (0<=i/\i<(a.length:Int)) ((JY N ((a[i.toNat]!).1) ((a[i.toNat]!).2.1) ((a[i.toNat]!).2.2)).bind λb=>if b=0 then some (0,false)else PI N a i)else some (0,false))
theorem iI(N f i r)(a:Ph N f i=some r)(s b)(c:Rd Ad8 s b f):Does prog 132 #[b,vI i] s [] (pV (vT #[vI r.1,vB r.2])):=by
 unfold Ph at a
 refine Al follows func132 Z 24 Z _ fz2 (λm=> ?_)
 refine AZ Z<|Cb (λtt ll=>(PI N f i  =some r)/\Is [(0,b),(1,vI i)] [] tt ll) ?_ ?_
 ·refine Aa λx g=>Ah<|rn 2 Z<|rL (Rd.shp c) Z<|kC a λn a=>rX n Z<|kB a λu p a=>rc _ (cF KX) (IA N i 0 ((f.length:Int) - 1) _ p)<|rn 2 Z ?_
  rcases d:(!(u))with _|_
  ·replace a:=ifp (Dl d) a
   refine rn 2 Z<|r_y Z<|kC a λe a=>rI (Rd.shp c) e Z<|r_y Z<|rE (Aw c) e 0 Z<|r_y Z<|kB a λv h a=>rc _ (cF WS) (Qy N ((f[i.toNat]!).1) ((f[i.toNat]!).2.1) ((f[i.toNat]!).2.2) _ h)<|rz Z<|g _ _ ?_
   refine aE a Z (λj a=> ?_) (λj a=> ?_)
   ·refine AZ Z ?_
    cases a
    exact aR eV2
   refine Ab<|fg _ (Sub.of suN) ?_
   exact⟨a,Ag Z Z⟩
  replace a:=ifn (Bool.eq_false_iff.1 (Dk d)) a
  refine rz Z<|g _ _ ?_
  refine Nt Z ?_
  refine AZ Z ?_
  cases a
  exact aR eV2
 clear a;rintro t l ⟨a,⟨T,rfl⟩,rfl⟩
 unfold PI at a
 refine Ad<|rn 2 Z<|kC a λk a=>r_W (GE b 0 (i.toNat) 3) Z (Fc (Jb Z Z Z Z (Rd.shp c) k))<|kB a λy q a=>gV _ (cF dK) (λo w z_=>Yw N (((f).take (i.toNat)).drop 0) _ q z_.view (GE b 0 (i.toNat) 3) ((PL (Aw c) (Nat.zero_le _) (Hp k.2)) o w z_))<|rz Z ?_
 cases a
 exact aR eV2
def Ic(m:Ao)(a:Int)(b:Int×Bool):Option (Int×Int×Bool):=ck (0<=a/\a<(m.2.2.1.length:Int)) (some (b.1,((m.2.2.1)[a.toNat]!).2.2,true))
def ED(N:Nat)(m:Ao)(a:Int):Option (Int×Int×Bool):=(Ph N m.2.2.1 a).bind λb=>if b.2=true then ck (0<=a/\a<(m.2.2.1.length:Int)) (if(((m.2.2.1)[a.toNat]!).2.2:Int)=0 then some (0,0,false)else Ic m a b)else some (0,0,false)
theorem NN(N m b r)(a:ED N m b=some r)(s)(j:AB)(e:Aa1 s j m):Does prog 73 #[vA (Ac m j),vI b] s [] (pV (vT #[vI r.1,vI r.2.1,vB r.2.2])):=by
 unfold ED at a
 refine Al follows func73 Z 34 Z _ fz2 (λi=> ?_)
 refine Ad<|rA Z λq=>rz Z<|Ad<|rm 3 [0] Z<|kB a λk n a=>gV _ (cF pf) (λo w z_=>iI N m.2.2.1 b _ n z_.view j.2.1 ((Aw e.2.1) o w z_))<|rz Z<|Cb (λtt ll=>(Ic m b k  =some r)/\Is [(1,vI b),(2,vP q 0),(7,vI k.1)] [(q,35,(Ac m j))] tt ll) ?_ ?_
 ·refine Aa λu f=>Ah<|rn 3 Z ?_
  rcases g:(!(k.2))with _|_
  ·replace a:=ifp (Dl g) a
   refine rn 1 Z<|r_y Z<|rm 2 [0] Z<|r_y Z<|kC a λc a=>rI (Rd.shp e.2.1) c Z<|r_y Z<|rF (Rd.shp e.2.1) (Bf c) Z<|r_y Z<|rE (Aw e.2.1) c 2 Z<|rz Z<|f _ _ ?_
   refine aE a Z (λh a=> ?_) (λh a=> ?_)
   ·refine AZ Z ?_
    cases a
    exact aR eV3
   refine Ab<|fg _ (Sub.of (suK _ suN)) ?_
   exact⟨a,Ag Z Z⟩
  replace a:=ifn (Bool.eq_false_iff.1 (Dk g)) a
  refine rz Z<|f _ _ ?_
  refine Nt Z ?_
  refine AZ Z ?_
  cases a
  exact aR eV3
 clear a;rintro t l ⟨a,⟨T,rfl⟩,rfl⟩
 unfold Ic at a
 refine Aa λv p=>Ia [] (by decide+kernel) (λx=>AK)<|rm 4 [0] Z<|kC a λd a=>rI (Rd.shp e.2.1) d Z<|rF (Rd.shp e.2.1) (Bf d) Z<|rE (Aw e.2.1) d 2 Z<|rz Z<|p _ _ ?_
 cases a
 exact aR eV3
def Mr(N:Nat)(c:Ao)(_:Int)(a:Int)(b:Int):Option Int:=if a=0 then(RP N c.2.2.1 b).bind λd=>if d.2.2=true then ck (0<=d.1/\d.1<(c.2.2.1.length:Int)) ((Ap N ((((c.2.2.1)[(d.1).toNat]!).2.2:Int)==0) 5).bind λg=>some g)else(Ap N false 5).bind λi=>some i else if a=1 then(ED N c b).bind λe=>(Ap N e.2.2 5).bind λj=>some j else if a=2 then(AA N b 1 64).bind λf=>(Ap N f 7).bind λh=>some h else some 10
theorem fm(N c x q d r)(a:Mr N c x q d=some r)(E)(u:AB)(s:Aa1 E u c):Does prog 171 #[vA (Ac c u),vI x,vA #[vI q,vI d]] E [] (pV (vI r)):=by
 unfold Mr at a
 refine Al follows func171 Z 58 Z _ fz3 (λt=> ?_)
 refine Ad<|rA Z λI=>rA Z λJ=>rz Z<|Aa λK v=>AY [0] Z<|Ai<|AZ Z<|aE a Z (λy a=> ?_) (λy a=> ?_)
 ·refine Ad<|rm 5 [1,0] Z<|kB a λD g a=>gV _ (cF WU) (λo w z_=>eP N c.2.2.1 d _ g z_.view u.2.1 ((Aw s.2.1) o w z_))<|rz Z<|Aa λF e=>Ah<|rn 2 Z ?_
  rcases f:D.2.2 with _|_
  ·replace a:=iB f a
   refine rn 9 Z<|kB a λz h a=>rc _ (cF Bk) (Az N false 5 _ h)<|rz Z<|e _ _ ?_
   refine GS [(6,vI z)] Z (λT=> ?_)
   cases a
   exact aR eV1
  replace a:=ifp f a
  refine rn 2 Z<|r_y Z<|rm 2 [1] Z<|r_y Z<|kC a λb a=>rI (Rd.shp s.2.1) b Z<|r_y Z<|rF (Rd.shp s.2.1) (Bf b) Z<|r_y Z<|rE (Aw s.2.1) b 2 Z<|rn 2 Z<|kB a λA i a=>rc _ (cF Bk) (Az N ((((c.2.2.1)[(D.1).toNat]!).2.2:Int)==0) 5 _ i)<|rz Z<|e _ _ ?_
  refine GS [(6,vI A)] Z (λT=> ?_)
  cases a
  exact aR eV1
 refine AZ Z<|aE a Z (λj a=> ?_) (λj a=> ?_)
 ·refine Ad<|rm 4 [1,0] Z<|kB a λB k a=>gV _ (cF aS) (λo w z_=>NN N c d _ k z_.view u (Aa1.mono z_.ro_cell s))<|rz Z<|Ad<|rn 1 Z<|kB a λG l a=>rc _ (cF Bk) (Az N B.2.2 5 _ l)<|rz Z ?_
  cases a
  exact aR eV1
 refine AZ Z<|aE a Z (λm a=> ?_) (λm a=> ?_)
 ·refine Ad<|rm 2 [0] Z<|kB a λC n a=>rc _ (cF Fz) (AR N d 1 64 _ n)<|kB a λH p a=>rc _ (cF Bk) (Az N C 7 _ p)<|rz Z ?_
  cases a
  exact aR eV1
 refine Ab<|v _ _ ?_
 refine AZ Z ?_
 cases a
 exact aR eV1
def KH(N:Nat)(c:List (Int×Int))(b:Ao):Nat->Int->Option (Int×Int)
  |0,_=>none
  |e+1,a=>if a<(c.length:Int)then ck (0<=a/\a<(c.length:Int)) ((Mr N b a ((c[a.toNat]!).1) ((c[a.toNat]!).2)).bind λd=>if(d:Int)≠0 then some (a,d)else ck (R64 (a+1)) ((KH N c b e) (a+1)))else some (0,0)
def OD(N:Nat)(c:List (Int×Int))(b:Int)(a:Ao):Option (Int×Int):=if(c.length:Int)>b then some (0,2)else KH N c a N 0
theorem cI(N k h a r)(c:OD N k h a=some r)(A j)(f:Rd Af3 A j k)(b:AB)(e:Aa1 A b a):Does prog 170 #[j,vI h,vF 171 #[vA (Ac a b)] #[]] A [] (pV (vT #[vI r.1,vI r.2])):=by
 unfold OD at c
 refine Al follows func170 Z 31 Z _ fz3 (λv=> ?_)
 refine AZ Z<|Aa λF x=>Ad<|rn 1 Z<|rL (Rd.shp f) Z<|rz Z<|aD c Z (λy c=> ?_) (λy c=> ?_)
 ·refine AZ Z ?_
  cases c
  exact aR eV2
 refine Ab<|x _ _ ?_
 refine Aa λG z=>Ad<|rn 1 Z<|rL (Rd.shp f) Z<|rz Z<|Ai<|AH (λtt ll nn=> ∃(i:Nat) (d:Int),(KH N k a i d=some r)/\Is [(2,vF 171 #[vA (Ac a b)] #[]),(15,j),(16,vI (k.length:Int)),(17,vI d)] [] tt ll/\nn=i+1) (N+1) ?_ ?_
 ·exact⟨N,0,c,Ag Z Z,Z⟩
 clear c;rintro t l _ ⟨i,d,c,⟨⟨T,rfl⟩,rfl⟩,rfl⟩
 rcases i with _|i
 ·exact absurd c (by simp [KH])
 rw [KH] at c
 refine AZ Z<|Aa λB m=>aD c Z (λn c=> ?_) (λn c=> ?_)
 ·refine Ab<|m _ _ ?_
  refine Aa λC p=>Ai<|Ad<|rn 1 Z<|kC c λg c=>rI (Rd.shp f) g Z<|rE (Aw f) g 0 Z<|rA Z λD=>ry [0] Z<|Ad<|rm 3 [0] Z<|kB c λE q c=>gV _ (QW (bd:=[vA (Ac a b)]) (caps:=[]) Z oD Z) (λo w z_=>fm N a d ((k[d.toNat]!).1) ((k[d.toNat]!).2) _ q z_.view b (Aa1.mono z_.ro_cell e))<|rz Z<|AZ Z<|aN c Z (λs c=> ?_) (λs c=> ?_)
  ·refine AZ Z ?_
   cases c
   exact aR eV2
  refine Ab<|p _ _ ?_
  refine Ah<|kC c λu c=>rX u Z<|rz Z<|fg _ (Sub.of (suC _ suN)) ?_
  exact⟨i+1,by omega,i,(d+1),c,Ag Z Z,Z⟩
 refine AG<|z _ _ ?_
 refine AZ Z ?_
 cases c
 exact aR eV2
def Rm(_:Nat)(s:W2):Option (W2):=if(s.length:Int)=0 then some ([])else ck (0<=(s.length:Int)/\(s.length:Int)<=140737488355328) (ck (0<=(0:Int)/\(0:Int)<((((s).take ((List.replicate ((s.length:Int)).toNat (0:UInt8))).length++((List.replicate ((s.length:Int)).toNat (0:UInt8))).drop (s).length)).length:Int)) (ck ((((s).take ((List.replicate ((s.length:Int)).toNat (0:UInt8))).length++((List.replicate ((s.length:Int)).toNat (0:UInt8))).drop (s).length)).length<=140737488355328) (some (((s).take ((List.replicate ((s.length:Int)).toNat (0:UInt8))).length++((List.replicate ((s.length:Int)).toNat (0:UInt8))).drop (s).length)))))
theorem jm(N s r)(b:Rm N s=some r):Gives prog 262 #[vS s] (vS r):=by
 unfold Rm at b
 refine Aq follows func262 Z 18 Z _ fz1 (λf=> ?_)
 refine AZ Z<|Aa λm g=>Ad<|rn 1 Z<|r_W (vI (s.length:Int)) Z (Ns Z Z Z)<|rz Z<|aE b Z (λh b=> ?_) (λh b=> ?_)
 ·refine AZ Z ?_
  cases b
  exact aR eE1
 refine Ab<|g _ _ ?_
 refine Ad<|rn 1 Z<|r_W (vI (s.length:Int)) Z (Ns Z Z Z)<|kC b λi b=>cB 9<|Tx (Ls:=[]) 5 encY (0:UInt8) (s.length:Int) Z Z Z Z Z Z Z Z Z Z 140737488355328 Z i (λ_ _ _ _ _=>Iff.rfl) (λk l j=> ?_)
 refine rz Z<|Ad<|rn 2 Z<|cA 12 (p:=(pUp (λv_ U_=>v_= .int .i64 ((min (s).length ((List.replicate ((s.length:Int)).toNat (0:UInt8))).length:Nat):Int)/\Sl 5 encY k ((s).take ((List.replicate ((s.length:Int)).toNat (0:UInt8))).length++((List.replicate ((s.length:Int)).toNat (0:UInt8))).drop (s).length) U_/\U_.map (·.1)=l.map (·.1))))<|uy (Lo:=True) (Ls:=[l]) 0 s Z Z Z Z Z Z j Z Z Z (λ_ _ _ _ _=>Iff.rfl) (λd c=> ?_)
 refine Ak<|Ad<|rn 1 Z<|kC b λa b=>rI (Sl.shp c) a Z<|rn 1 Z<|rL (Sl.shp c) Z<|kC b λe b=>cA 17 (p:=(pUp (λv_ U_=>v_= .string ⟨(((s).take ((List.replicate ((s.length:Int)).toNat (0:UInt8))).length++((List.replicate ((s.length:Int)).toNat (0:UInt8))).drop (s).length)).toArray⟩/\U_=OH d)))<|kE (Ls:=[d]) 0 (xs:=((s).take ((List.replicate ((s.length:Int)).toNat (0:UInt8))).length++((List.replicate ((s.length:Int)).toNat (0:UInt8))).drop (s).length)) Z Z Z Z Z Z (Sl.strict c (Bf a)) (uj k (Sl.strict c (Bf a)) (Bf a)) Z (by kernel_rfl) Z e (λ_ _ _ _ _=>Iff.rfl)<|Dv (Ls:=[OH d]) (Ls':=[]) [] Z Z ?_
 refine rz Z ?_
 cases b
 exact aR eE1
def Nx(N:Nat)(s:W2):Option (W2):=(Rm N s).bind λa=>some a
theorem Yx(N s r)(a:Nx N s=some r):Gives prog 255 #[vS s] (vS r):=by
 unfold Nx at a
 refine Aq follows func255 Z 5 Z _ fz1 (λb=> ?_)
 refine AZ Z<|Ad<|rn 1 Z<|kB a λd c a=>rc _ (cF mV) (jm N s _ c)<|rz Z ?_
 cases a
 exact aR eE1
def DU(_:Nat)(s:List (W2×Int)):Option (List (W2×Int)):=ck ((([]:List (W2×Int))).length+(s).length<=5864062014805) (some (([]:List (W2×Int))++s))
theorem Lw(N s r)(a:DU N s=some r)(m n)(l:Rd Ab3 m n s):Does prog 256 #[n] m [] (p1 (λs_=>s_) 92 Ab3 r):=by
 unfold DU at a
 refine Al follows func256 Z 8 Z _ fz1 (λd=> ?_)
 refine AZ Z<|Aa λq e=>Aa λt c=>Ah<|rn 1 Z ?_
 rcases qW (Rd.shp l)with⟨f,g⟩|hne6
 ·obtain rfl:=f;obtain rfl:=List.eq_nil_of_length_eq_zero g
  replace a:(some ([]))=some r:=(by first|exact a|(simp at a ⊢;exact a))
  refine rz Z<|c _ _ ?_
  refine Nt Z ?_
  refine AZ Z ?_
  cases a
  refine Bh (λo=>GZ (v0:=nS) Sl.nil (Sub.nil _) Z (FZ Z))
 refine r_W (.bool false) Z (jt Z Z Z (Rd.shp l) hne6)<|Ak<|c _ _ ?_
 refine Co Z ?_
 refine Ab<|e _ _ ?_
 refine Ad<|gB (Ls:=[]) 92 Ab3 ([]:List (W2×Int)) (λu p h=> ?_)
 refine rn 1 Z<|kC a λb a=>cC 7<|LK (cs0:=[]) (Ls:=[p]) 0 (En:=Ab3) Z Z Z Z Z h Z (Aw l) Z Z Z Z Z (Mf b Z) (Me b Z) Z (λi j k=> ?_)
 refine rz Z ?_
 cases a
 refine Bh (λo=>GZ (v0:=i) k (Dy (Sub.pick [j] [0] Z)) Z (FZ Z))
def HC(N:Nat)(e:Int)(d:Int)(c:Int)(f:Int)(i:W2)(g:List (W2×Int)):Nat->Int->List (W2×Int)->Option ((W2)×(List (W2×Int))×Int×Int×Int×Int)
  |0,_,_=>none
  |j+1,a,b=>if a<(g.length:Int)then ck (0<=a/\a<(b.length:Int)) ((Nx N ((b[a.toNat]!).1)).bind λh=>ck (0<=a/\a<(b.length:Int)) (ck (R64 (a+1)) ((HC N e d c f i g j) (a+1) ((b).set (a.toNat) (h,(b[a.toNat]!).2)))))else some (i,b,e,d,c,f)
def LF(N:Nat)(d:W2)(c:List (W2×Int))(f:Int)(e:Int)(b:Int)(g:Int):Option ((W2)×(List (W2×Int))×Int×Int×Int×Int):=(Nx N d).bind λh=>(DU N c).bind λa=>HC N f e b g h a N 0 a
theorem Zp(N z A a b c d r)(g:LF N z A a b c d=some r)(R p)(J:Rd Ab3 R p A):Does prog 243 #[vA #[vS z,p,vI a,vI b,vI c,vI d]] R [] (p1 (λs_=>vA #[vS r.1,s_,vI r.2.2.1,vI r.2.2.2.1,vI r.2.2.2.2.1,vI r.2.2.2.2.2]) 92 Ab3 r.2.1):=by
 unfold LF at g
 refine Al follows func243 Z 32 Z _ fz1 (λK=> ?_)
 refine Ad<|rA Z λu=>rA Z λv=>Ak<|Ad<|rm 2 [1] Z<|kB g λm L g=>rc _ (cF du) (Yx N z _ L)<|ry [1] Z<|Ad<|rm 2 [1] Z<|kB g λM O g=>gS (Ls:=[(LS v (Value.string (⟨#[]⟩)) nS 0 0 0 0),(II u m p a b c d)]) (cF mY) (λo w z_=>Lw N A _ O z_.view p (z_.r J)) (λe y x=> ?_)
 refine rn 1 Z<|r_s (List.flatten [(LS v (Value.string (⟨#[]⟩)) nS 0 0 0 0),(II u m e a b c d),y]) 1 _ _ _ _ _ (#[vS m,e,vI a,vI b,vI c,vI d]) Z Z Z (Gs Z (Sl.shp x)) (.ofS Z Z (Ae (Shp.one (Sl.shp x)) BA)) Z Z<|Ak<|Aa λS B=>Ad<|rm 2 [1] Z<|rL (Sl.shp x) Z<|rz Z<|Ai ?_
 refine Bs _ (Sub.pick [(LS v (Value.string (⟨#[]⟩)) nS 0 0 0 0),(II u m e a b c d),y] [0,1,2] Z)<|AH (λtt ll nn=> ∃(n:Nat) (i:Int) (j:List (W2×Int)),(HC N a b c d m M n i j=some r)/\ ∃(h:List Bl),Sl 92 Ab3 e j h/\Is [(1,vP u 0),(2,vP v 0),(14,vI (M.length:Int)),(15,vI i)] (List.flatten [(LS v (Value.string (⟨#[]⟩)) nS 0 0 0 0),(II u m e a b c d),h]) tt ll/\nn=n+1) (N+1) ?_ ?_
 ·exact⟨N,0,M,g,y,x,Ag Z Z,Z⟩
 clear g;rintro t l _ ⟨n,i,j,g,h,f,⟨⟨T,rfl⟩,rfl⟩,rfl⟩
 rcases n with _|n
 ·exact absurd g (by simp [HC])
 rw [HC] at g
 refine AZ Z<|Aa λU C=>aD g Z (λD g=> ?_) (λD g=> ?_)
 ·refine Ab<|C _ _ ?_
  refine Aa λV E=>Ai<|AZ Z<|Ia [] (by decide+kernel) (λQ=>AK)<|rm 6 [1,1] Z<|kC g λq g=>rI (Sl.shp f) q Z<|rF (Sl.shp f) (Bf q) Z<|rE (Ax f (Aj (Ls:=[(LS v (Value.string (⟨#[]⟩)) nS 0 0 0 0),(II u m e a b c d),h]) (k:=2) Z Z)) q 0 Z<|kB g λF G g=>rc _ (cF du) (Yx N ((j[i.toNat]!).1) _ G)<|kC g λs g=>rI (Sl.shp f) s Z<|rF (Sl.shp f) (Bf s) Z<|RT (Ls:=[(LS v (Value.string (⟨#[]⟩)) nS 0 0 0 0),(II u m e a b c d),h]) 2 (En:=Ab3) (j[i.toNat]!) (F,(j[i.toNat]!).2) (i.toNat) 0 Z Z Z f (Dx s) Z Z Z (Jp Z) Z (λH P=> ?_)
  refine Ak<|E _ _ ?_
  refine Ah<|kC g λI g=>rX I Z<|rz Z<|fg _ (Sub.pick [(LS v (Value.string (⟨#[]⟩)) nS 0 0 0 0),(II u m e a b c d),H] [0,1,2] Z) ?_
  exact⟨n+1,by omega,n,(i+1),(j).set (i.toNat) (F,(j[i.toNat]!).2),g,H,P,Ag Z Z,Z⟩
 refine AG<|B _ _ ?_
 refine Ad<|rm 1 [1] Z<|r_s (List.flatten [(II v m e a b c d),(II u m e a b c d),h]) 0 _ _ _ _ _ (#[vS m,e,vI a,vI b,vI c,vI d]) Z Z Z Z (.ofS Z Z (Ae Z (Ae (Shp.one (Sl.shp f)) (Ae Z (Ae Z (Ae Z (Ae Z BA))))))) Z Z<|Ak ?_
 cases g
 refine Bh (λQ=>GZ (v0:=vA #[vS m,e,vI a,vI b,vI c,vI d]) f (Dy (Sub.pick [(II v m e a b c d),(II u m e a b c d),h] [2] Z)) Z (FZ (AW Q 0 Z Z Z)))
def Oi(N:Nat)(a:List ((W2)×(List (W2×Int))×Int×Int×Int×Int))(d:List (W2×Int×Int))(b:Int×Int×Bool):Option ((W2)×(List (W2×Int))×Int×Int×Int×Int×Bool):=ck (0<=b.1/\b.1<(d.length:Int)) (ck (0<=(d[(b.1).toNat]!).2.1/\(d[(b.1).toNat]!).2.1<(a.length:Int)) ((LF N (a[((d[(b.1).toNat]!).2.1).toNat]!.1) (a[((d[(b.1).toNat]!).2.1).toNat]!.2.1) (a[((d[(b.1).toNat]!).2.1).toNat]!.2.2.1) (a[((d[(b.1).toNat]!).2.1).toNat]!.2.2.2.1) (a[((d[(b.1).toNat]!).2.1).toNat]!.2.2.2.2.1) (a[((d[(b.1).toNat]!).2.1).toNat]!.2.2.2.2.2)).bind λc=>some (c.1,c.2.1,c.2.2.1,c.2.2.2.1,c.2.2.2.2.1,c.2.2.2.2.2,true)))
def ND(N:Nat)(a:List ((W2)×(List (W2×Int))×Int×Int×Int×Int))(c:List (W2×Int×Int))(d:Int):Option ((W2)×(List (W2×Int))×Int×Int×Int×Int×Bool):=(RP N c d).bind λb=>if b.2.2=true then ck (0<=b.1/\b.1<(c.length:Int)) (ck ((R64 ((a.length:Int) - 1))) ((Gd N ((c[(b.1).toNat]!).2.1) 0 ((a.length:Int) - 1)).bind λe=>if e=true then Oi N a c b  else some ([],[],0,0,0,0,false)))else some ([],[],0,0,0,0,false)
theorem eR(N a f k r)(c:ND N a f k=some r)(I d)(e:RdN Ad5 I d a)(p)(h:Rd Ad8 I p f):Does prog 205 #[d,p,vI k] I [] (p1 (λs_=>vT #[vA #[vS r.1,s_,vI r.2.2.1,vI r.2.2.2.1,vI r.2.2.2.2.1,vI r.2.2.2.2.2.1],vB r.2.2.2.2.2.2]) 92 Ab3 r.2.1):=by
 unfold ND at c
 refine Al follows func205 Z 42 Z _ fz3 (λF=> ?_)
 refine Ad<|rA Z λm=>rz Z<|Ad<|rn 2 Z<|kB c λg G c=>gV _ (cF WU) (λo w z_=>eP N f k _ G z_.view p ((Aw h) o w z_))<|rz Z<|Cb (λtt ll=>(Oi N a f g  =some r)/\Is [(0,d),(1,p),(6,vP m 0),(8,vI g.1)] (LS m (Value.string (⟨#[]⟩)) nS 0 0 0 0) tt ll) ?_ ?_
 ·refine Aa λJ q=>Ah<|rn 3 Z ?_
  rcases s:(!(g.2.2))with _|_
  ·replace c:=ifp (Dl s) c
   refine rn 2 Z<|r_y Z<|kC c λi c=>rI (Rd.shp h) i Z<|r_y Z<|rF (Rd.shp h) (Bf i) Z<|r_y Z<|rE (Aw h) i 1 Z<|rn 1 Z<|r_y Z<|rL (RdN.shp e) Z<|r_y Z<|kC c λv c=>rX v Z<|r_y Z<|kB c λK x c=>rc _ (cF KX) (IA N ((f[(g.1).toNat]!).2.1) 0 ((a.length:Int) - 1) _ x)<|rz Z<|q _ _ ?_
   refine BI _ Z (λj=> ?_) (λj=> ?_)
   ·replace c:=ifn (Bool.eq_false_iff.1 (Dk j)) c
    refine Ad<|r_W (vA #[Value.string (⟨#[]⟩),nS,vI 0,vI 0,vI 0,vI 0]) Z (Ar Z Z Z Z)<|r_s (LS m (Value.string (⟨#[]⟩)) nS 0 0 0 0) 0 _ _ _ _ _ (#[Value.string (⟨#[]⟩),nS,vI 0,vI 0,vI 0,vI 0]) Z Z Z Z (.ofS Z Z (Ae Z (Ae (Shp.one (.inl ⟨Z,Z⟩)) (Ae Z (Ae Z (Ae Z (Ae Z BA))))))) Z Z<|rz Z<|GS [(6,vP m 0),(7,vB false)] Z (λT=> ?_)
    cases c
    refine Bh (λy=>GZ (v0:=vT #[vA #[Value.string (⟨#[]⟩),nS,vI 0,vI 0,vI 0,vI 0],vB false]) Sl.nil (Sub.nil _) Z (LI (AW y 0 Z Z Z) Z))
   replace c:=ifp (Dl j) c
   refine Ab<|fg _ (Sub.of (suK _ suN)) ?_
   exact⟨c,Ag Z Z⟩
  replace c:=ifn (Bool.eq_false_iff.1 (Dk s)) c
  refine rz Z<|q _ _ ?_
  refine Nt Z ?_
  refine Ad<|r_W (vA #[Value.string (⟨#[]⟩),nS,vI 0,vI 0,vI 0,vI 0]) Z (Ar Z Z Z Z)<|r_s (LS m (Value.string (⟨#[]⟩)) nS 0 0 0 0) 0 _ _ _ _ _ (#[Value.string (⟨#[]⟩),nS,vI 0,vI 0,vI 0,vI 0]) Z Z Z Z (.ofS Z Z (Ae Z (Ae (Shp.one (.inl ⟨Z,Z⟩)) (Ae Z (Ae Z (Ae Z (Ae Z BA))))))) Z Z<|rz Z<|GS [(6,vP m 0),(7,vB false)] Z (λT=> ?_)
  cases c
  refine Bh (λy=>GZ (v0:=vT #[vA #[Value.string (⟨#[]⟩),nS,vI 0,vI 0,vI 0,vI 0],vB false]) Sl.nil (Sub.nil _) Z (LI (AW y 0 Z Z Z) Z))
 clear c;rintro t l ⟨c,⟨T,rfl⟩,rfl⟩
 unfold Oi at c
 refine Ad<|rn 3 Z<|kC c λu c=>rI (Rd.shp h) u Z<|rF (Rd.shp h) (Bf u) Z<|rE (Aw h) u 1 Z<|kC c λz c=> ?_
 obtain⟨_,⟨H,A,rfl⟩,hat11⟩:=RdN.at (E:=Ad5) e (Dx z)
 refine rI (RdN.shp e) z Z ?_
 refine Oe (vA #[vS (a[((f[(g.1).toNat]!).2.1).toNat]!.1),H,vI (a[((f[(g.1).toNat]!).2.1).toNat]!.2.2.1),vI (a[((f[(g.1).toNat]!).2.1).toNat]!.2.2.2.1),vI (a[((f[(g.1).toNat]!).2.1).toNat]!.2.2.2.2.1),vI (a[((f[(g.1).toNat]!).2.1).toNat]!.2.2.2.2.2)]) (vs:=[vS (a[((f[(g.1).toNat]!).2.1).toNat]!.1),H,vI (a[((f[(g.1).toNat]!).2.1).toNat]!.2.2.1),vI (a[((f[(g.1).toNat]!).2.1).toNat]!.2.2.2.1),vI (a[((f[(g.1).toNat]!).2.1).toNat]!.2.2.2.2.1),vI (a[((f[(g.1).toNat]!).2.1).toNat]!.2.2.2.2.2)]) (((f[(g.1).toNat]!).2.1).toNat*6) 0 Z Z (λo w z_=>At.mono z_.ro_cell hat11) Z<|kB c λb B c=>gS (Ls:=[(LS m (Value.string (⟨#[]⟩)) nS 0 0 0 0)]) (cF nk) (λo w z_=>Zp N (a[((f[(g.1).toNat]!).2.1).toNat]!.1) (a[((f[(g.1).toNat]!).2.1).toNat]!.2.1) (a[((f[(g.1).toNat]!).2.1).toNat]!.2.2.1) (a[((f[(g.1).toNat]!).2.1).toNat]!.2.2.2.1) (a[((f[(g.1).toNat]!).2.1).toNat]!.2.2.2.2.1) (a[((f[(g.1).toNat]!).2.1).toNat]!.2.2.2.2.2) _ B z_.view H (z_.r A)) (λn C D=> ?_)
 refine r_s (List.flatten [(II m b.1 n b.2.2.1 b.2.2.2.1 b.2.2.2.2.1 b.2.2.2.2.2),C]) 0 _ _ _ _ _ (#[vS b.1,n,vI b.2.2.1,vI b.2.2.2.1,vI b.2.2.2.2.1,vI b.2.2.2.2.2]) Z Z Z Z (.ofS Z Z (Ae Z (Ae (Shp.one (Sl.shp D)) (Ae Z (Ae Z (Ae Z (Ae Z BA))))))) Z Z<|rz Z ?_
 cases c
 refine Bh (λy=>GZ (v0:=vT #[vA #[vS b.1,n,vI b.2.2.1,vI b.2.2.2.1,vI b.2.2.2.2.1,vI b.2.2.2.2.2],vB true]) D (Dy (Sub.pick [(II m b.1 n b.2.2.1 b.2.2.2.1 b.2.2.2.2.1 b.2.2.2.2.2),C] [1] Z)) Z (LI (AW y 0 Z Z Z) Z))
end Go.Proofs.YtjlomkippigejaaGreatDoor
