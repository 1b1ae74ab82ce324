import Derived.Test.YtjnanfkpdhmnpaaGreatDoorBe
namespace Go.Proofs.YtjnanfkpdhmnpaaGreatDoor
open Go Go.RowKit Go.Eng _root_.Go.Proofs.Tryz
set_option linter.unusedSimpArgs false
set_option linter.unusedVariables false
set_option maxRecDepth 100000
set_option maxHeartbeats 80000000
abbrev PN(b:Nat)(x0:W2)(x1:Int):Y0 Bl:=[(b,136, #[vS x0,vI x1])]
abbrev Iv(b:Nat)(x0:W2)(x1:Y2)(x2 x3 x4 x5:Int):Y0 Bl:=[(b,97, #[vS x0,x1,vI x2,vI x3,vI x4,vI x5])]
abbrev Tn(b:Nat)(x0:Y2):Y0 Bl:=[(b,101, #[x0])]
abbrev iA(b:Nat)(x0:Y2):Y0 Bl:=[(b,23, #[x0])]
abbrev cS(b:Nat)(x0:W2)(x1 x2:Int):Y0 Bl:=[(b,124, #[vS x0,vI x1,vI x2])]
abbrev Wt(b:Nat)(x0:Y2):Y0 Bl:=[(b,157, #[x0])]
abbrev aI(b:Nat)(x0:W2)(x1 x2 x3:Y2)(x4:Int):Y0 Bl:=[(b,72, #[vS x0,x1,x2,x3,vI x4])]
abbrev LE(b:Nat)(x0 x1:Y2)(x2 x3 x4 x5:Int):Y0 Bl:=[(b,97, #[x0,x1,vI x2,vI x3,vI x4,vI x5])]
def Gw(_:Nat)(n a b:Int):Y1 Y3:=if n>=a then some (decide (n<=b))else some false
theorem IR(N n a b r)(c:Gw N n a b=some r):Gives prog 133 #[vI n,vI a,vI b] (vB r):=by
 unfold Gw at c
 refine Au follows func133 Z 15 Z _ fz3 (λf=> ?_)
 refine AZ Z<|Aa λg d=>Ah<|rn 4 Z ?_
 rcases e:(decide (n>=a))with _|_
 ·replace c:=iF e c
  refine rz Z<|d _ _ ?_
  cases c
  exact aR eE1
 replace c:=iD e c
 refine rz Z<|d _ _ ?_
 cases c
 exact aR eE1
def HB(N:Nat)(b:Y0 (W2×Int))(f:Y0 (W2)):Nat->Int->Y1 Int
  |0,_=>none
  |e+1,a=>if a<(b.length:Int)then ck (0<=a/\a<(b.length:Int)) ((LT N f a).bind λc=>if(c:Int)≠0 then some c else(Gw N ((b[a.toNat]!).2) 1 128).bind λd=>if d=true then ck (R64 (a+1)) ((HB N b f e) (a+1))else some 9)else some 0
def Ll(N:Nat)(a:Y0 (W2×Int)):Y1 Int:=(Ku N a).bind λb=>HB N a b N 0
theorem XG(N e r)(a:Ll N e=some r)(D f)(g:Rd Ab3 D f e):Does prog 127 #[f] D [] (pV (vI r)):=by
 unfold Ll at a
 refine Ak follows func127 Z 27 Z _ fz1 (λx=> ?_)
 refine AZ Z<|Ad<|rn 1 Z<|kB a λB z a=>gS (Ls:=[]) (cF pD) (λo w z_=>VJ N e _ z z_.view f ((Ay g) o w z_)) (λC y E=> ?_)
 refine rz Z<|Aa λK A=>Ad<|rn 1 Z<|rL (W8 g) Z<|rz Z<|Ai<|BF _ (W5 [y] [0] Z)<|AL (λtt ll nn=> ∃(c:Nat) (b:Int),(HB N e B c b=some r)/\Is [(3,C),(9,f),(10,vI (e.length:Int)),(11,vI b)] (V2 [y]) tt ll/\nn=c+1) (N+1) ?_ ?_
 ·exact⟨N,0,a,Ag Z Z,Z⟩
 clear a;rintro t l _ ⟨c,b,a,⟨⟨T,rfl⟩,rfl⟩,rfl⟩
 rcases c with _|c
 ·exact absurd a (by simp [HB])
 rw [HB] at a
 refine AZ Z<|Aa λF i=>aD a Z (λj a=> ?_) (λj a=> ?_)
 ·refine Ac<|i _ _ ?_
  refine Aa λG m=>Ai<|Ad<|rn 1 Z<|kC a λh a=>rI (W8 g) h Z<|rE (Ay g) h 0 Z<|rA Z λn=>ry [0] Z<|Aa λH p=>Ad<|rn 2 Z<|kB a λI q a=>gV _ (cF eF) (λo w z_=>UD N B b _ q z_.view C ((AB E (Al (Ls:=[(PN n ((e[b.toNat]!).1) ((e[b.toNat]!).2)),y]) (k:=1) Z Z)) o w z_))<|rz Z<|AZ Z<|aN a Z (λs a=> ?_) (λs a=> ?_)
  ·refine AZ Z ?_
   cases a
   exact aR eV1
  refine Ac<|p _ _ ?_
  refine Ad<|rm 2 [0] Z<|kB a λJ u a=>rc _ (cF Ly) (IR N _ 1 128 _ u)<|rz Z<|BS _ Z (λd=> ?_) (λd=> ?_)
  ·replace a:=ifn (Bool.eq_false_iff.1 (DG d)) a
   refine AZ Z ?_
   cases a
   exact aR eV1
  replace a:=ifp (DH d) a
  refine Ac<|m _ _ ?_
  refine Ah<|kC a λv a=>rX v Z<|rz Z<|fg _ (W5 [(PN n ((e[b.toNat]!).1) ((e[b.toNat]!).2)),y] [1] Z) ?_
  exact⟨c+1,by omega,c,(b+1),a,Ag Z Z,Z⟩
 refine AM<|A _ _ ?_
 refine AZ Z ?_
 cases a
 exact aR eV1
def Kq(b:Y0 (W2×Int)):Nat->Int->Int->Y1 Int
  |0,_,_=>none
  |d+1,c,a=>if a<(b.length:Int)then ck (0<=a/\a<(b.length:Int)) (ck ((R64 (c+(b[a.toNat]!).2))) (ck (R64 (a+1)) ((Kq b d) (c+(b[a.toNat]!).2) (a+1))))else some c
def Pv(N:Nat)(a:Y0 (W2×Int)):Y1 Int:=Kq a N 0 0
theorem YR(N j r)(a:Pv N j=some r)(q f)(g:Rd Ab3 q f j):Does prog 128 #[f] q [] (pV (vI r)):=by
 unfold Pv at a
 refine Ak follows func128 Z 18 Z _ fz1 (λk=> ?_)
 refine AZ Z<|AZ Z<|Aa λu m=>Ad<|rn 1 Z<|rL (W8 g) Z<|rz Z<|Ai<|AL (λtt ll nn=> ∃(e:Nat) (c:Int) (b:Int),(Kq j e c b=some r)/\Is [(3,vI c),(6,f),(7,vI (j.length:Int)),(8,vI b)] [] tt ll/\nn=e+1) (N+1) ?_ ?_
 ·exact⟨N,0,0,a,Ag Z Z,Z⟩
 clear a;rintro t l _ ⟨e,c,b,a,⟨⟨T,rfl⟩,rfl⟩,rfl⟩
 rcases e with _|e
 ·exact absurd a (by simp [Kq])
 rw [Kq] at a
 refine AZ Z<|Aa λv n=>aD a Z (λo a=> ?_) (λo a=> ?_)
 ·refine Ac<|n _ _ ?_
  refine Aa λw p=>Ai<|Ad<|kC a λd a=>rI (W8 g) d Z<|rE (Ay g) d 0 Z<|rA Z λs=>ry [0] Z<|Ah<|rm 3 [0] Z<|kC a λh a=>rX h Z<|rz Z<|p _ _ ?_
  refine Ah<|kC a λi a=>rX i Z<|rz Z<|fg _ (Sub.of (suC _ suN)) ?_
  exact⟨e+1,by omega,e,(c+(j[b.toNat]!).2),(b+1),a,Ag Z Z,Z⟩
 refine AM<|m _ _ ?_
 refine AZ Z ?_
 cases a
 exact aR eV1
def Kt(N:Nat)(_:W2)(b:Y0 (W2×Int))(c a e d:Int):Y1 Y3:=if c=0 then if a=0 then if e=0 then some (d==0)else some false else some false else(Gw N c 1 64).bind λg=>if g=true then ck ((R64 ((b.length:Int) - 1))) ((Gw N a 0 ((b.length:Int) - 1)).bind λf=>if f=true then ck (0<=a/\a<(b.length:Int)) (if((b[a.toNat]!).2:Int)<=16 then(Gw N e 1 64).bind λi=>if i=true then(Gw N d 0 4096).bind λh=>some h else some false else some false)else some false)else some false
theorem VI(N x f n c g o r)(a:Kt N x f n c g o=some r)(E l)(b:Rd Ab3 E l f):Does prog 129 #[vA #[vS x,l,vI n,vI c,vI g,vI o]] E [] (pV (vB r)):=by
 unfold Kt at a
 refine Ak follows func129 Z 51 Z _ fz1 (λy=> ?_)
 refine Ad<|rA Z λF=>rz Z<|Aa λH z=>AY [0] Z<|aE a Z (λA a=> ?_) (λA a=> ?_)
 ·refine Aa λI m=>Ah<|rm 4 [0] Z ?_
  rcases p:(c==0)with _|_
  ·replace a:=iG p a
   refine rz Z<|m _ _ ?_
   cases a
   exact aR eV1
  replace a:=iE p a
  refine rn 1 Z<|r_y Z<|rm 4 [0] Z ?_
  rcases q:(g==0)with _|_
  ·replace a:=iG q a
   refine rz Z<|m _ _ ?_
   cases a
   exact aR eV1
  replace a:=iE q a
  refine rn 1 Z<|r_y Z<|ry [0] Z<|m _ _ ?_
  cases a
  exact aR eV1
 refine Ac<|z _ _ ?_
 refine Aa λJ d=>Ah<|rm 2 [0] Z<|kB a λB s a=>rc _ (cF Ly) (IR N n 1 64 _ s)<|rn 1 Z ?_
 rcases h:B with _|_
 ·replace a:=iB h a
  refine rz Z<|d _ _ ?_
  refine CJ [(2,vB false)] Z (λT=> ?_)
  cases a
  exact aR eV1
 replace a:=ifp h a
 refine rn 1 Z<|r_y Z<|rm 2 [0] Z<|r_y Z<|rm 1 [0] Z<|r_y Z<|rL (W8 b) Z<|r_y Z<|kC a λt a=>rX t Z<|r_y Z<|kB a λC u a=>rc _ (cF Ly) (IR N c 0 _ _ u)<|rn 2 Z ?_
 rcases i:C with _|_
 ·replace a:=iB i a
  refine rz Z<|d _ _ ?_
  refine CJ [(2,vB false)] Z (λT=> ?_)
  cases a
  exact aR eV1
 replace a:=ifp i a
 refine rn 1 Z<|r_y Z<|rm 2 [0] Z<|r_y Z<|rm 1 [0] Z<|r_y Z<|kC a λe a=>rI (W8 b) e Z<|r_y Z<|rF (W8 b) (Bp e) Z<|r_y Z<|rE (Ay b) e 1 Z<|rn 3 Z<|fJ [(1,vP F 0),(2,vB false),(41,vB (decide (((f[c.toNat]!).2:Int)<=16)))] Z (λT=> ?_)
 rcases j:(decide (((f[c.toNat]!).2:Int)<=16))with _|_
 ·replace a:=iF j a
  refine rz Z<|d _ _ ?_
  cases a
  exact aR eV1
 replace a:=iD j a
 refine rn 1 Z<|r_y Z<|rm 1 [0] Z<|r_y Z<|kB a λD v a=>rc _ (cF Ly) (IR N g 1 64 _ v)<|rn 2 Z ?_
 rcases k:D with _|_
 ·replace a:=iB k a
  refine rz Z<|d _ _ ?_
  cases a
  exact aR eV1
 replace a:=ifp k a
 refine rn 1 Z<|r_y Z<|rm 1 [0] Z<|r_y Z<|kB a λG w a=>rc _ (cF Ly) (IR N o 0 4096 _ w)<|rz Z<|d _ _ ?_
 cases a
 exact aR eV1
def JE(N:Nat)(c:W2)(a:Y0 (W2×Int))(f e i h:Int):Y1 Int:=(NP N c).bind λj=>if j=true then if(a.length:Int)>16 then some 2 else if(a.length:Int)=0 then some 5 else(Ll N a).bind λd=>if(d:Int)≠0 then some d else(Pv N a).bind λb=>ck (0<=b/\b<=9223372036854775807) (if(b%8:Int)≠0 then some 9 else(Kt N c a f e i h).bind λg=>if g=true then some 0 else some 7)else some 4
theorem fx(N f e h i j k r)(a:JE N f e h i j k=some r)(C b)(c:Rd Ab3 C b e):Does prog 73 #[vA #[vS f,b,vI h,vI i,vI j,vI k]] C [] (pV (vI r)):=by
 unfold JE at a
 refine Ak follows func73 Z 35 Z _ fz1 (λz=> ?_)
 refine Ad<|rA Z λD=>rz Z<|Aa λI A=>Ai<|Ad<|rm 2 [0] Z<|kB a λJ B a=>rc _ (cF eI) (YS N f _ B)<|rz Z<|BS _ Z (λg=> ?_) (λg=> ?_)
 ·replace a:=ifn (Bool.eq_false_iff.1 (DG g)) a
  refine AZ Z ?_
  cases a
  exact aR eV1
 replace a:=ifp (DH g) a
 refine Ad<|rm 2 [0] Z<|rL (W8 c) Z<|rz Z<|aD a Z (λl a=> ?_) (λl a=> ?_)
 ·refine AZ Z ?_
  cases a
  exact aR eV1
 refine Ad<|rm 2 [0] Z<|rL (W8 c) Z<|rz Z<|aE a Z (λm a=> ?_) (λm a=> ?_)
 ·refine AZ Z ?_
  cases a
  exact aR eV1
 refine Ac<|A _ _ ?_
 refine Aa λE n=>Ad<|rm 2 [0] Z<|kB a λF p a=>gV _ (cF qC) (λo w z_=>XG N e _ p z_.view b (z_.r c))<|rz Z<|AZ Z<|aN a Z (λq a=> ?_) (λq a=> ?_)
 ·refine AZ Z ?_
  cases a
  exact aR eV1
 refine Ac<|n _ _ ?_
 refine Aa λG s=>Ai<|Ad<|rm 2 [0] Z<|kB a λt u a=>gV _ (cF eH) (λo w z_=>YR N e _ u z_.view b (z_.r c))<|kC a λv a=>r_X (vI (t%8)) Z (SY v.1) Z<|rz Z<|CJ [(1,vP D 0),(25,vB ((t%8:Int) !=0))] Z (λT=> ?_)
 refine aN a Z (λx a=> ?_) (λx a=> ?_)
 ·refine AZ Z ?_
  cases a
  exact aR eV1
 refine Ad<|rm 1 [0] Z<|kB a λH y a=>gV _ (cF qB) (λo w z_=>VI N f e h i j k _ y z_.view b (z_.r c))<|rz Z<|BS _ Z (λd=> ?_) (λd=> ?_)
 ·replace a:=ifn (Bool.eq_false_iff.1 (DG d)) a
  refine AZ Z ?_
  cases a
  exact aR eV1
 replace a:=ifp (DH d) a
 refine Ac<|s _ _ ?_
 refine AZ Z ?_
 cases a
 exact aR eV1
def Bk(N:Nat)(a:Y0 (W2))(i:Int):Y1 Int:=ck (0<=i/\i<=(a.length:Int)) (ck (0<=i/\i<(a.length:Int)) ((IH N (((a).take (i.toNat)).drop 0) (a[i.toNat]!)).bind λb=>(Ap N (decide (b<0)) 6).bind λc=>some c))
theorem IL(N c i r)(d:Bk N c i=some r)(m a)(b:Rd Aa4 m a c):Does prog 74 #[a,vI i] m [] (pV (vI r)):=by
 unfold Bk at d
 refine Ak follows func74 Z 15 Z _ fz2 (λh=> ?_)
 refine AZ Z<|Aa λn j=>BO [(some 12,false)] (conG prog [(12,cV (IH N (((c).take (i.toNat)).drop 0) (c[i.toNat]!)) λk=>vI k)]) [] (by decide+kernel) (λp=>AN)<|rn 2 Z<|kC d λe d=>r_W (GX a 0 (i.toNat) 1) Z (GV (ID Z Z Z Z (W8 b) e))<|rn 2 Z<|kC d λf d=>rI (W8 b) f Z<|rE (Ay b) f 0 Z<|kB d λq g d=>rg _ (cF eG) (λo w z_=>Tf N _ _ _ g z_.view (GX a 0 (i.toNat) 1) ((Ql (Ay b) (Nat.zero_le _) (Fy e.2)) o w z_)) (Hq g)<|rn 1 Z<|kB d λs l d=>rc _ (cF Bw) (AE N _ 6 _ l)<|rz Z<|j _ _ ?_
 cases d
 exact aR eV1
def Ic(N:Nat)(i:Int)(a:W2)(c:Y0 (W2×Int))(e d h f:Int)(g:Y0 (W2)):Y1 Int:=(JE N a c e d h f).bind λk=>(Bk N g i).bind λj=>(AO N ([k,j])).bind λb=>some b
theorem Uo(N i c m d e f g j r)(q:Ic N i c m d e f g j=some r)(A b)(y:Rd Ab3 A b m)(s:Nat)(a)(u:Rd Aa4 A a j)(t:Blk A s [a]):Does prog 72 #[vI i,vA #[vS c,b,vI d,vI e,vI f,vI g],vP s 0] A [] (pV (vI r)):=by
 unfold Ic at q
 refine Ak follows func72 Z 13 Z _ fz3 (λz=> ?_)
 refine Ad<|rA Z λD=>rz Z<|Aa λJ B=>BO [(some 7,false),(some 10,false),(some 11,false),(some 12,false)] (conG prog [(7,cV (JE N c m d e f g) λh=>vI h),(10,cV (Bk N j i) λh=>vI h),(12,λ_ _ v_ L_ U_=> ∀h,JE N c m d e f g=some h-> ∀v,Bk N j i=some v-> ∀x,AO N ([h,v])=some x->(pV (vI x)) v_ L_ U_)]) [] (by decide+kernel) (λK=>AN) ?_
 refine rm 1 [0] Z<|kB q λE n q=>rg _ (cF tP) (λo w z_=>fx N c m d e f g _ n z_.view b (z_.r y)) (Hq n)<|Ii a (vs:=[a]) (o:=0) Z Z (Bg t) Z<|rn 1 Z<|kB q λF p q=>rg _ (cF Pc) (λo w z_=>IL N j i _ p z_.view a (z_.r u)) (Hq p) ?_
 refine KP (Ls:=[(Iv D c b d e f g)]) 51 Ca [E,F] [vI E,vI F] [vI 0,vI 0] Z Z Z Z Z Z Z (by kernel_rfl) (by kernel_rfl) Z Z Z (λG H C=> ?_)
 refine kB q λI l q=>rg _ (cF Fo) (λo w z_=>Co N _ _ l z_.view G ((AB C (Al (Ls:=[(Iv D c b d e f g),H]) (k:=1) Z Z)) o w z_)) (λ_ _ v_ L_ U_=>⟨λh_=>h_ _ n _ p _ l,λh_=>by intro _ e_;cases q3 (e_.symm.trans n);intro _ e_;cases q3 (e_.symm.trans p);intro _ e_;cases q3 (e_.symm.trans l);exact h_⟩) ?_
 refine rz Z<|B _ _ ?_
 cases q
 exact aR eV1
def Iz(N:Nat)(b:Y0 ((W2)×(Y0 (W2×Int))×Int×Int×Int×Int))(c:Y0 (W2)):Nat->Int->Y1 (Int×Int)
  |0,_=>none
  |e+1,a=>if a<(b.length:Int)then ck (0<=a/\a<(b.length:Int)) ((Ic N a (b[a.toNat]!.1) (b[a.toNat]!.2.1) (b[a.toNat]!.2.2.1) (b[a.toNat]!.2.2.2.1) (b[a.toNat]!.2.2.2.2.1) (b[a.toNat]!.2.2.2.2.2) c).bind λd=>if(d:Int)≠0 then some (a,d)else ck (R64 (a+1)) ((Iz N b c e) (a+1)))else some (0,0)
def Mv(N:Nat)(c:Y0 ((W2)×(Y0 (W2×Int))×Int×Int×Int×Int))(b:Int)(a:Y0 (W2)):Y1 (Int×Int):=if(c.length:Int)>b then some (0,2)else Iz N c a N 0
theorem WF(N d n e r)(c:Mv N d n e=some r)(B q)(j:RdN Ad1 B q d)(b:Nat)(f)(i:Rd Aa4 B f e)(g:Blk B b [f]):Does prog 71 #[q,vI n,vF 72 #[] #[vP b 0]] B [] (pV (vT #[vI r.1,vI r.2])):=by
 unfold Mv at c
 refine Ak follows func71 Z 31 Z _ fz3 (λA=> ?_)
 refine AZ Z<|Aa λK C=>Ad<|rn 1 Z<|rL (W9 j) Z<|rz Z<|aD c Z (λD c=> ?_) (λD c=> ?_)
 ·refine AZ Z ?_
  cases c
  exact aR eV2
 refine Ac<|C _ _ ?_
 refine Aa λL F=>Ad<|rn 1 Z<|rL (W9 j) Z<|rz Z<|Ai<|AL (λtt ll nn=> ∃(p:Nat) (a:Int),(Iz N d e p a=some r)/\Is [(2,vF 72 #[] #[vP b 0]),(15,q),(16,vI (d.length:Int)),(17,vI a)] [] tt ll/\nn=p+1) (N+1) ?_ ?_
 ·exact⟨N,0,c,Ag Z Z,Z⟩
 clear c;rintro t l _ ⟨p,a,c,⟨⟨T,rfl⟩,rfl⟩,rfl⟩
 rcases p with _|p
 ·exact absurd c (by simp [Iz])
 rw [Iz] at c
 refine AZ Z<|Aa λH s=>aD c Z (λu c=> ?_) (λu c=> ?_)
 ·refine Ac<|s _ _ ?_
  refine Aa λI v=>Ai<|Ad<|rn 1 Z<|kC c λk c=> ?_
  obtain⟨_,⟨h,m,rfl⟩,hat17⟩:=RdN.at (E:=Ad1) j (Cp k)
  refine rI (W9 j) k Z<|Mk (vA #[vS (d[a.toNat]!.1),h,vI (d[a.toNat]!.2.2.1),vI (d[a.toNat]!.2.2.2.1),vI (d[a.toNat]!.2.2.2.2.1),vI (d[a.toNat]!.2.2.2.2.2)]) (vs:=[vS (d[a.toNat]!.1),h,vI (d[a.toNat]!.2.2.1),vI (d[a.toNat]!.2.2.2.1),vI (d[a.toNat]!.2.2.2.2.1),vI (d[a.toNat]!.2.2.2.2.2)]) (a.toNat*6) 0 Z Z (λo w z_=>At.mono z_.ro_cell hat17) Z<|rA Z λG=>rn 1 Z<|r_s (Iv G (d[a.toNat]!.1) h (d[a.toNat]!.2.2.1) (d[a.toNat]!.2.2.2.1) (d[a.toNat]!.2.2.2.2.1) (d[a.toNat]!.2.2.2.2.2)) 0 _ _ _ _ _ (#[vS (d[a.toNat]!.1),h,vI (d[a.toNat]!.2.2.1),vI (d[a.toNat]!.2.2.2.1),vI (d[a.toNat]!.2.2.2.2.1),vI (d[a.toNat]!.2.2.2.2.2)]) Z Z Z Z (.ofS Z Z (Ae Z (sR m (Ae Z (Ae Z (Ae Z (Ae Z AD))))))) Z Z<|Aj<|Ad<|rn 2 Z ?_
  refine rm 1 [0] Z<|kB c λJ x c=>gV _ (Cc (caps:=[vP b 0]) Z tQ Z) (λo w z_=>Uo N a _ _ _ _ _ _ e _ x z_.view h (z_.r m) b f (z_.r i) (Bg g o w z_))<|rz Z<|AZ Z<|aN c Z (λy c=> ?_) (λy c=> ?_)
  ·refine AZ Z ?_
   cases c
   exact aR eV2
  refine Ac<|v _ _ ?_
  refine Ah<|kC c λz c=>rX z Z<|rz Z<|fg _ (Sub.of (suC _ suN)) ?_
  exact⟨p+1,by omega,p,(a+1),c,Ag Z Z,Z⟩
 refine AM<|F _ _ ?_
 refine AZ Z ?_
 cases c
 exact aR eV2
def In(N:Nat)(c:Ao):Y1 (Int×Int):=(Mu N c.2.1).bind λb=>(Mv N c.2.1 16 b).bind λa=>some (a.1,a.2)
theorem WM(N c r)(b:In N c=some r)(m)(a:AC)(n:Aa2 m a c):Does prog 31 #[vA (Ab c a)] m [] (pV (vT #[vI r.1,vI r.2])):=by
 unfold In at b
 refine Ak follows func31 Z 16 Z _ fz1 (λe=> ?_)
 refine Ad<|rA Z λh=>rz Z<|Ad<|rm 3 [0] Z<|kB b λp i b=>gS (Ls:=[[(h,75,(Ab c a))]]) (cF tT) (λo w z_=>WD N c.2.1 _ i z_.view a.1 (V1 z_.ro_cell n.1)) (λf l j=> ?_)
 refine rA Z λg=>r_s (V2 [(Tn g f),[(h,75,(Ab c a))],l]) 0 _ _ _ _ _ (#[f]) Z Z Z (CR Z (W7 j)) (.ofS Z Z (sS j AD)) Z Z<|Aj<|Ad<|rm 3 [1] Z<|r_W (vF 72 #[] #[vP g 0]) Z (Jt Z)<|kB b λq d b=>gV _ (cF tR) (λo w z_=>WF N c.2.1 16 p _ d z_.view a.1 (V1 z_.ro_cell n.1) g f ((AB j (Al (Ls:=[(Tn g f),[(h,75,(Ab c a))],l]) (k:=2) Z Z)) o w z_) (Da 0 Z Z o w z_))<|rz Z ?_
 cases b
 exact aR eV2
def JD(_:Nat)(i:Int)(a:Y0 (W2×Int×Int)):Y1 (W2):=ck (0<=i/\i<(a.length:Int)) (some ((a[i.toNat]!).1))
theorem Ss(N i f r)(g:JD N i f=some r)(j)(c:Nat)(a)(b:Rd Ad7 j a f)(d:Blk j c [a]):Does prog 203 #[vI i,vP c 0] j [] (pV (vS r)):=by
 unfold JD at g
 refine Ak follows func203 Z 9 Z _ fz2 (λh=> ?_)
 refine AZ Z<|Ad<|Ii a (vs:=[a]) (o:=0) Z Z (Bg d) Z<|rn 1 Z<|kC g λe g=>rI (W8 b) e Z<|rF (W8 b) (Bp e) Z<|rE (Ay b) e 0 Z<|rz Z ?_
 cases g
 exact aR eV1
def GG(N:Nat)(b:Int)(c:Y0 (W2×Int×Int)):Nat->Y0 (W2)->Int->Y1 (Y0 (W2))
  |0,_,_=>none
  |f+1,d,a=>if a<b then(JD N a c).bind λe=>ck (0<=a/\a<(d.length:Int)) (ck (R64 (a+1)) ((GG N b c f) ((d).set (a.toNat) e) (a+1)))else some d
def MR(N:Nat)(a:Int)(b:Y0 (W2×Int×Int)):Y1 (Y0 (W2)):=ck (0<=a/\a<=8796093022208) (GG N a b N (List.replicate a.toNat ([])) 0)
theorem XI(N a g r)(c:MR N a g=some r)(E)(b:Nat)(f)(m:Rd Ad7 E f g)(j:Blk E b [f]):Does prog 202 #[vI a,vF 203 #[] #[vP b 0]] E [] (p1 (λs_=>s_) 9 Aa4 r):=by
 unfold MR at c
 refine Ak follows func202 Z 21 Z _ fz2 (λz=> ?_)
 refine AZ Z<|Ad<|rn 1 Z<|kC c λA c=>cB 8<|Ta (Ls:=[]) 9 Aa4 ([]) a Z Z Z Z Z Z Z Z Z Z 8796093022208 Z A (λ_ _ _ _ _=>Iff.rfl) (λB F G=> ?_)
 refine rz Z<|Aa λJ C=>AZ Z<|Ai<|BF _ (W5 [F] [0] Z)<|AL (λtt ll nn=> ∃(n:Nat) (h:Y0 (W2)) (d:Int),(GG N a g n h d=some r)/\ ∃(e:Y0 Bl),Sl 9 Aa4 B h e/\Is [(1,vF 203 #[] #[vP b 0]),(5,B),(9,vI a),(10,vI d)] (V2 [e]) tt ll/\nn=n+1) (N+1) ?_ ?_
 ·exact⟨N,(List.replicate a.toNat ([])),0,c,F,G,Ag Z Z,Z⟩
 clear c;rintro t l _ ⟨n,h,d,c,e,i,⟨⟨T,rfl⟩,rfl⟩,rfl⟩
 rcases n with _|n
 ·exact absurd c (by simp [GG])
 rw [GG] at c
 refine AZ Z<|Aa λH p=>aD c Z (λq c=> ?_) (λq c=> ?_)
 ·refine Ac<|p _ _ ?_
  refine Aa λI s=>Ai<|AZ Z<|Ah<|rn 4 Z<|kB c λu v c=>gV _ (Cc (caps:=[vP b 0]) Z pA Z) (λo w z_=>Ss N d g _ v z_.view b f (z_.r m) (Bg j o w z_))<|kC c λk c=>rI (W7 i) k Z<|QR (Ls:=[e]) 0 (En:=Aa4) (h[d.toNat]!) u (d.toNat) 0 Z Z Z i (Cp k) Z Z Z (It Z) Z (λx D=> ?_)
  refine Aj<|s _ _ ?_
  refine Ah<|kC c λy c=>rX y Z<|rz Z<|fg _ (W5 [x] [0] Z) ?_
  exact⟨n+1,by omega,n,(h).set (d.toNat) u,(d+1),c,x,D,Ag Z Z,Z⟩
 refine AM<|C _ _ ?_
 refine AZ Z ?_
 cases c
 refine AU (λK=>Iq (v0:=B) i (Fu (W5 [e] [0] Z)) Z (Gl Z))
def Lm(N:Nat)(a:Y0 (W2×Int×Int)):Y1 (Y0 (W2)):=(MR N (a.length:Int) a).bind λb=>some b
theorem XH(N g r)(c:Lm N g=some r)(h a)(b:Rd Ad7 h a g):Does prog 131 #[a] h [] (p1 (λs_=>s_) 9 Aa4 r):=by
 unfold Lm at c
 refine Ak follows func131 Z 7 Z _ fz1 (λd=> ?_)
 refine Ad<|r_a (23, #[a]) Z Z (Oz Z (W8 b)) (λe=> ?_) (.inr Z)
 refine rz Z<|Ad<|rm 1 [0] Z<|rL (W8 b) Z<|r_W (vF 203 #[] #[vP e 0]) Z (Jt Z)<|kB c λl f c=>gS (Ls:=[(iA e a)]) (cF ef) (λo w z_=>XI N _ g _ f z_.view e a ((Ay b) o w z_) (Da 0 Z Z o w z_)) (λi j k=> ?_)
 refine rz Z ?_
 cases c
 refine AU (λm=>Iq (v0:=i) k (Fu (W5 [(iA e a),j] [1] Z)) Z (Gl Z))
def KL(N:Nat)(_:W2)(_ a:Int):Y1 Y3:=(Gw N a 0 4).bind λb=>some b
theorem SR(N b c a r)(d:KL N b c a=some r):Gives prog 134 #[vA #[vS b,vI c,vI a]] (vB r):=by
 unfold KL at d
 refine Au follows func134 Z 6 Z _ fz1 (λe=> ?_)
 refine Ad<|rA Z λg=>rz Z<|Ad<|rm 2 [0] Z<|kB d λh f d=>rc _ (cF Ly) (IR N a 0 4 _ f)<|rz Z ?_
 cases d
 exact aR eE1
def Ks(N:Nat)(b:W2)(c a:Int):Y1 Int:=(KL N b c a).bind λd=>if d=true then some (max a 1)else some 0
theorem Rc(N d e b r)(a:Ks N d e b=some r):Gives prog 204 #[vA #[vS d,vI e,vI b]] (vI r):=by
 unfold Ks at a
 refine Au follows func204 Z 9 Z _ fz1 (λf=> ?_)
 refine Ad<|rA Z λi=>rz Z<|Aa λj g=>Ad<|rm 1 [0] Z<|kB a λk h a=>rc _ (cF eE) (SR N d e b _ h)<|rz Z<|BS _ Z (λc=> ?_) (λc=> ?_)
 ·replace a:=ifn (Bool.eq_false_iff.1 (DG c)) a
  refine AZ Z ?_
  cases a
  exact aR eE1
 replace a:=ifp (DH c) a
 refine Ac<|g _ _ ?_
 refine Ad<|rm 2 [0] Z<|r_W (vI (max b 1)) Z (bo Z Z)<|rz Z ?_
 cases a
 exact aR eE1
def Kv(N:Nat)(b:Y0 (W2×Int×Int)):Nat->Int->Int->Y1 Int
  |0,_,_=>none
  |e+1,c,a=>if a<(b.length:Int)then ck (0<=a/\a<(b.length:Int)) ((Ks N ((b[a.toNat]!).1) ((b[a.toNat]!).2.1) ((b[a.toNat]!).2.2)).bind λd=>ck (R64 (c+d)) (ck (R64 (a+1)) ((Kv N b e) (c+d) (a+1))))else some c
def PB(N:Nat)(a:Y0 (W2×Int×Int)):Y1 Int:=Kv N a N 0 0
theorem YT(N m r)(a:PB N m=some r)(u f)(g:Rd Ad7 u f m):Does prog 135 #[f] u [] (pV (vI r)):=by
 unfold PB at a
 refine Ak follows func135 Z 18 Z _ fz1 (λk=> ?_)
 refine AZ Z<|AZ Z<|Aa λw n=>Ad<|rn 1 Z<|rL (W8 g) Z<|rz Z<|Ai<|AL (λtt ll nn=> ∃(e:Nat) (b:Int) (c:Int),(Kv N m e b c=some r)/\Is [(3,vI b),(6,f),(7,vI (m.length:Int)),(8,vI c)] [] tt ll/\nn=e+1) (N+1) ?_ ?_
 ·exact⟨N,0,0,a,Ag Z Z,Z⟩
 clear a;rintro t l _ ⟨e,b,c,a,⟨⟨T,rfl⟩,rfl⟩,rfl⟩
 rcases e with _|e
 ·exact absurd a (by simp [Kv])
 rw [Kv] at a
 refine AZ Z<|Aa λx o=>aD a Z (λp a=> ?_) (λp a=> ?_)
 ·refine Ac<|o _ _ ?_
  refine Aa λy q=>Ai<|Ad<|kC a λd a=>rI (W8 g) d Z<|rE (Ay g) d 0 Z<|rA Z λv=>ry [0] Z<|Ah<|rm 2 [0] Z<|kB a λs h a=>rc _ (cF Xo) (Rc N _ _ _ _ h)<|kC a λi a=>rX i Z<|rz Z<|q _ _ ?_
  refine Ah<|kC a λj a=>rX j Z<|rz Z<|fg _ (Sub.of (suC _ suN)) ?_
  exact⟨e+1,by omega,e,(b+s),(c+1),a,Ag Z Z,Z⟩
 refine AM<|n _ _ ?_
 refine AZ Z ?_
 cases a
 exact aR eV1
def Kw(N:Nat)(b:Y0 ((W2)×(Y0 (W2×Int))×Int×Int×Int×Int))(c:Y0 (W2×Int×Int))(i:Y0 (W2)):Nat->Int->Y1 Int
  |0,_=>none
  |g+1,a=>if a<(c.length:Int)then ck (0<=a/\a<(c.length:Int)) ((LT N i a).bind λd=>if(d:Int)≠0 then some d else ck ((R64 ((b.length:Int) - 1))) ((Gw N ((c[a.toNat]!).2.1) 0 ((b.length:Int) - 1)).bind λh=>if h=true then(KL N ((c[a.toNat]!).1) ((c[a.toNat]!).2.1) ((c[a.toNat]!).2.2)).bind λe=>if e=true then ck (R64 (a+1)) ((Kw N b c i g) (a+1))else some 7 else some 5))else(PB N c).bind λf=>if f>32 then some 8 else some 0
def NQ(N:Nat)(a:Y0 ((W2)×(Y0 (W2×Int))×Int×Int×Int×Int))(b:Y0 (W2×Int×Int)):Y1 Int:=if(b.length:Int)>16 then some 2 else(Lm N b).bind λc=>Kw N a b c N 0
theorem jA(N d i r)(a:NQ N d i=some r)(O b)(f:RdN Ad1 O b d)(g)(h:Rd Ad7 O g i):Does prog 75 #[b,g] O [] (pV (vI r)):=by
 unfold NQ at a
 refine Ak follows func75 Z 43 Z _ fz2 (λI=> ?_)
 refine AZ Z<|Aa λK2 J=>Ad<|rn 1 Z<|rL (W8 h) Z<|rz Z<|aD a Z (λK a=> ?_) (λK a=> ?_)
 ·refine AZ Z ?_
  cases a
  exact aR eV1
 refine Ac<|J _ _ ?_
 refine Ad<|rn 1 Z<|kB a λP L a=>gS (Ls:=[]) (cF qA) (λo w z_=>XH N i _ L z_.view g ((Ay h) o w z_)) (λQ n M=> ?_)
 refine rz Z<|Aa λR q=>Ad<|rn 1 Z<|rL (W8 h) Z<|rz Z<|Ai<|BF _ (W5 [n] [0] Z)<|AL (λtt ll nn=> ∃(e:Nat) (c:Int),(Kw N d i P e c=some r)/\Is [(0,b),(1,g),(5,Q),(14,g),(15,vI (i.length:Int)),(16,vI c)] (V2 [n]) tt ll/\nn=e+1) (N+1) ?_ ?_
 ·exact⟨N,0,a,Ag Z Z,Z⟩
 clear a;rintro t l _ ⟨e,c,a,⟨⟨T,rfl⟩,rfl⟩,rfl⟩
 rcases e with _|e
 ·exact absurd a (by simp [Kw])
 rw [Kw] at a
 refine AZ Z<|Aa λS s=>aD a Z (λu a=> ?_) (λu a=> ?_)
 ·refine Ac<|s _ _ ?_
  refine Aa λU v=>Ai<|Ad<|rn 1 Z<|kC a λp a=>rI (W8 h) p Z<|rE (Ay h) p 0 Z<|rA Z λx=>ry [0] Z<|Aa λV y=>Ad<|rn 2 Z<|kB a λW z a=>gV _ (cF eF) (λo w z_=>UD N P c _ z z_.view Q ((AB M (Al (Ls:=[(cS x ((i[c.toNat]!).1) ((i[c.toNat]!).2.1) ((i[c.toNat]!).2.2)),n]) (k:=1) Z Z)) o w z_))<|rz Z<|AZ Z<|aN a Z (λA a=> ?_) (λA a=> ?_)
  ·refine AZ Z ?_
   cases a
   exact aR eV1
  refine Ac<|y _ _ ?_
  refine Ai<|Ad<|rm 3 [0] Z<|rL (W9 f) Z<|kC a λB a=>rX B Z<|kB a λX C a=>rc _ (cF Ly) (IR N _ 0 _ _ C)<|rz Z<|BS _ Z (λj=> ?_) (λj=> ?_)
  ·replace a:=ifn (Bool.eq_false_iff.1 (DG j)) a
   refine AZ Z<|CJ [(4,vI 5)] Z (λT=> ?_)
   cases a
   exact aR eV1
  replace a:=ifp (DH j) a
  refine Ad<|rm 1 [0] Z<|kB a λY D a=>rc _ (cF eE) (SR N _ _ _ _ D)<|rz Z<|BS _ Z (λm=> ?_) (λm=> ?_)
  ·replace a:=ifn (Bool.eq_false_iff.1 (DG m)) a
   refine AZ Z<|CJ [(4,vI 7)] Z (λT=> ?_)
   cases a
   exact aR eV1
  replace a:=ifp (DH m) a
  refine Ac<|v _ _ ?_
  refine Ah<|kC a λE a=>rX E Z<|rz Z<|fg _ (W5 [(cS x ((i[c.toNat]!).1) ((i[c.toNat]!).2.1) ((i[c.toNat]!).2.2)),n] [1] Z) ?_
  exact⟨e+1,by omega,e,(c+1),a,Ag Z Z,Z⟩
 refine AM<|q _ _ ?_
 refine Aa λaa F=>Ad<|rn 1 Z<|kB a λab G a=>gV _ (cF eD) (λo w z_=>YT N i _ G z_.view g ((Ay h) o w z_))<|rz Z<|aD a Z (λH a=> ?_) (λH a=> ?_)
 ·refine AZ Z ?_
  cases a
  exact aR eV1
 refine Ac<|F _ _ ?_
 refine AZ Z ?_
 cases a
 exact aR eV1
def JI(N:Nat)(c:Ao):Y1 (Int×Int):=(NQ N c.2.1 c.2.2.1).bind λa=>some (0,a)
theorem aZ(N c r)(a:JI N c=some r)(f)(d:AC)(g:Aa2 f d c):Does prog 32 #[vA (Ab c d)] f [] (pV (vT #[vI r.1,vI r.2])):=by
 unfold JI at a
 refine Ak follows func32 Z 11 Z _ fz1 (λb=> ?_)
 refine Ad<|rA Z λh=>rz Z<|Ad<|rm 6 [0,0] Z<|kB a λi e a=>gV _ (cF tO) (λo w z_=>jA N c.2.1 c.2.2.1 _ e z_.view d.1 (V1 z_.ro_cell g.1) d.2.1 ((Ay g.2.1) o w z_))<|rz Z ?_
 cases a
 exact aR eV2
def Rw(_:Nat)(a:W2)(_:Int):Y1 (W2):=some a
theorem dm(N a b r)(d:Rw N a b=some r):Gives prog 77 #[vA #[vS a,vI b]] (vS r):=by
 unfold Rw at d
 refine Au follows func77 Z 5 Z _ fz1 (λc=> ?_)
 refine Ad<|rA Z λe=>rz Z<|AY [0] Z ?_
 cases d
 exact aR eE1
def Jl(N:Nat)(b:Y0 (W2×Int)):Nat->Y0 (W2)->Int->Y1 (Y0 (W2))
  |0,_,_=>none
  |e+1,c,a=>if a<(b.length:Int)then ck (0<=a/\a<(b.length:Int)) ((Rw N ((b[a.toNat]!).1) ((b[a.toNat]!).2)).bind λd=>ck (0<=a/\a<(c.length:Int)) (ck (R64 (a+1)) ((Jl N b e) ((c).set (a.toNat) d) (a+1))))else some c
def Pq(N:Nat)(a:Y0 (W2×Int)):Y1 (Y0 (W2)):=ck (0<=(a.length:Int)/\(a.length:Int)<=8796093022208) (Jl N a N ((List.replicate ((a.length:Int)).toNat ([]))) 0)
theorem Yw(N f r)(b:Pq N f=some r)(C k)(g:Rd Ab3 C k f):Does prog 136 #[k,vF 77 #[] #[]] C [] (p1 (λs_=>s_) 9 Aa4 r):=by
 unfold Pq at b
 refine Ak follows func136 Z 26 Z _ fz2 (λw=> ?_)
 refine AZ Z<|Ad<|rn 1 Z<|rL (W8 g) Z<|kC b λx b=>cB 10<|Ta (Ls:=[]) 9 Aa4 ([]) (f.length:Int) Z Z Z Z Z Z Z Z Z Z 8796093022208 Z x (λ_ _ _ _ _=>Iff.rfl) (λy B D=> ?_)
 refine rz Z<|Aa λG z=>Ad<|rn 1 Z<|rL (W8 g) Z<|rz Z<|Ai<|BF _ (W5 [B] [0] Z)<|AL (λtt ll nn=> ∃(j:Nat) (d:Y0 (W2)) (a:Int),(Jl N f j d a=some r)/\ ∃(c:Y0 Bl),Sl 9 Aa4 y d c/\Is [(1,vF 77 #[] #[]),(5,y),(11,k),(12,vI (f.length:Int)),(13,vI a)] (V2 [c]) tt ll/\nn=j+1) (N+1) ?_ ?_
 ·exact⟨N,(List.replicate ((f.length:Int)).toNat ([])),0,b,B,D,Ag Z Z,Z⟩
 clear b;rintro t l _ ⟨j,d,a,b,c,e,⟨⟨T,rfl⟩,rfl⟩,rfl⟩
 rcases j with _|j
 ·exact absurd b (by simp [Jl])
 rw [Jl] at b
 refine AZ Z<|Aa λE m=>aD b Z (λn b=> ?_) (λn b=> ?_)
 ·refine Ac<|m _ _ ?_
  refine Aa λF o=>Ai<|Ad<|rn 1 Z<|kC b λh b=>rI (W8 g) h Z<|rE (Ay g) h 0 Z<|rA Z λp=>ry [0] Z<|Ah<|rm 4 [0] Z<|kB b λq s b=>rc _ (Cc (caps:=[]) Z tM Z) (dm N _ _ _ s)<|kC b λi b=>rI (W7 e) i Z<|QR (Ls:=[(PN p ((f[a.toNat]!).1) ((f[a.toNat]!).2)),c]) 1 (En:=Aa4) (d[a.toNat]!) q (a.toNat) 0 Z Z Z e (Cp i) Z Z Z (It Z) Z (λu A=> ?_)
  refine Aj<|o _ _ ?_
  refine Ah<|kC b λv b=>rX v Z<|rz Z<|fg _ (W5 [(PN p ((f[a.toNat]!).1) ((f[a.toNat]!).2)),u] [1] Z) ?_
  exact⟨j+1,by omega,j,(d).set (a.toNat) q,(a+1),b,u,A,Ag Z Z,Z⟩
 refine AM<|z _ _ ?_
 refine AZ Z ?_
 cases b
 refine AU (λH=>Iq (v0:=y) e (Fu (W5 [c] [0] Z)) Z (Gl Z))
def Fl(N:Nat)(s:W2):Y1 Y3:=(LP N s).bind λa=>if a=true then(Mi N s ([46]:W2)).bind λb=>some (!(b))else some false
theorem MH(N s r)(a:Fl N s=some r):Gives prog 139 #[vS s] (vB r):=by
 unfold Fl at a
 refine Au follows func139 Z 10 Z _ fz1 (λd=> ?_)
 refine AZ Z<|Aa λh b=>Ah<|rn 1 Z<|kB a λg e a=>rc _ (cF bx) (SB N s _ e)<|rn 1 Z ?_
 rcases c:g with _|_
 ·replace a:=iB c a
  refine rz Z<|b _ _ ?_
  cases a
  exact aR eE1
 replace a:=ifp c a
 refine rn 1 Z<|r_y Z<|kB a λi f a=>rc _ (cF ej) (SS N s _ _ f)<|rz Z<|b _ _ ?_
 cases a
 exact aR eE1
def IM(N:Nat)(c:Int):Y1 Int:=(AG N c 1 128).bind λa=>(Ap N a 9).bind λb=>some b
theorem Qw(N e r)(a:IM N e=some r):Gives prog 79 #[vI e] (vI r):=by
 unfold IM at a
 refine Au follows func79 Z 6 Z _ fz1 (λb=> ?_)
 refine AZ Z<|Ad<|rn 1 Z<|kB a λf c a=>rc _ (cF FK) (Ba N e 1 128 _ c)<|kB a λg d a=>rc _ (cF Bw) (AE N f 9 _ d)<|rz Z ?_
 cases a
 exact aR eE1
def Pa(N:Nat)(_:W2)(a:Int):Y1 Int:=(IM N a).bind λb=>some b
theorem dl(N b a r)(c:Pa N b a=some r):Gives prog 78 #[vA #[vS b,vI a]] (vI r):=by
 unfold Pa at c
 refine Au follows func78 Z 6 Z _ fz1 (λd=> ?_)
 refine Ad<|rA Z λf=>rz Z<|Ad<|rm 2 [0] Z<|kB c λg e c=>rc _ (cF bw) (Qw N a _ e)<|rz Z ?_
 cases c
 exact aR eE1
def LI(N:Nat)(i:Int)(c:W2)(d:Int)(a:Y0 (W2)):Y1 Int:=ck (0<=i/\i<(a.length:Int)) ((Fl N (a[i.toNat]!)).bind λg=>(Ap N g 4).bind λh=>(Bk N a i).bind λf=>(Pa N c d).bind λb=>(AO N ([h,f,b])).bind λe=>some e)
theorem UU(N i e f d r)(b:LI N i e f d=some r)(C)(n:Nat)(a)(g:Rd Aa4 C a d)(h:Blk C n [a])(p:Nat)(q:Blk C p [vF 78 #[] #[]]):Does prog 138 #[vI i,vA #[vS e,vI f],vP n 0,vP p 0] C [] (pV (vI r)):=by
 unfold LI at b
 refine Ak follows func138 Z 21 Z _ fz4 (λB=> ?_)
 refine Ad<|rA Z λH=>rz Z<|Aa λM D=>BO [(some 15,false),(some 19,false),(some 20,false)] (conG prog [(15,cV (Bk N d i) λm=>vI m),(20,λ_ _ v_ L_ U_=> ∀m,Fl N (d[i.toNat]!)=some m-> ∀u,Ap N m 4=some u-> ∀v,Bk N d i=some v-> ∀x,Pa N e f=some x-> ∀y,AO N ([u,v,x])=some y->(pV (vI y)) v_ L_ U_)]) [] (by decide+kernel) (λO=>AN)<|Ii a (vs:=[a]) (o:=0) Z Z (Bg h) Z<|rn 1 Z<|kC b λz b=>rI (W8 g) z Z<|rE (Ay g) z 0 Z<|kB b λK s b=>rc _ (cF Oy) (MH N _ _ s)<|kB b λI t b=>rc _ (cF Bw) (AE N K 4 _ t)<|Ii a (vs:=[a]) (o:=0) Z Z (Bg h) Z<|rn 1 Z<|kB b λJ c b=>rg _ (cF Pc) (λo w z_=>IL N d i _ c z_.view a (z_.r g)) (Hq c)<|Ii (vF 78 #[] #[]) (vs:=[vF 78 #[] #[]]) (o:=0) Z Z (Bg q) Z<|rm 1 [0] Z<|kB b λA j b=>rc _ (Cc (caps:=[]) Z tL Z) (dl N e f _ j) ?_
 refine KP (Ls:=[(PN H e f)]) 51 Ca [I,J,A] [vI I,vI J,vI A] [vI 0,vI 0,vI 0] Z Z Z Z Z Z Z (by kernel_rfl) (by kernel_rfl) Z Z Z (λE F G=> ?_)
 refine kB b λL l b=>rg _ (cF Fo) (λo w z_=>Co N _ _ l z_.view E ((AB G (Al (Ls:=[(PN H e f),F]) (k:=1) Z Z)) o w z_)) (λ_ _ v_ L_ U_=>⟨λh_=>h_ _ s _ t _ c _ j _ l,λh_=>by intro _ e_;cases q3 (e_.symm.trans s);intro _ e_;cases q3 (e_.symm.trans t);intro _ e_;cases q3 (e_.symm.trans c);intro _ e_;cases q3 (e_.symm.trans j);intro _ e_;cases q3 (e_.symm.trans l);exact h_⟩) ?_
 refine rz Z<|D _ _ ?_
 cases b
 exact aR eV1
def Jp(N:Nat)(c:Y0 (W2×Int))(b:Y0 (W2)):Nat->Int->Y1 (Int×Int)
  |0,_=>none
  |e+1,a=>if a<(c.length:Int)then ck (0<=a/\a<(c.length:Int)) ((LI N a ((c[a.toNat]!).1) ((c[a.toNat]!).2) b).bind λd=>if(d:Int)≠0 then some (a,d)else ck (R64 (a+1)) ((Jp N c b e) (a+1)))else some (0,0)
def Nb(N:Nat)(c:Y0 (W2×Int))(b:Int)(a:Y0 (W2)):Y1 (Int×Int):=if(c.length:Int)>b then some (0,2)else Jp N c a N 0
theorem YA(N B m d r)(c:Nb N B m d=some r)(z p)(j:Rd Ab3 z p B)(a:Nat)(e)(i:Rd Aa4 z e d)(f:Blk z a [e])(b:Nat)(g:Blk z b [vF 78 #[] #[]]):Does prog 137 #[p,vI m,vF 138 #[] #[vP a 0,vP b 0]] z [] (pV (vT #[vI r.1,vI r.2])):=by
 unfold Nb at c
 refine Ak follows func137 Z 31 Z _ fz3 (λA=> ?_)
 refine AZ Z<|Aa λJ C=>Ad<|rn 1 Z<|rL (W8 j) Z<|rz Z<|aD c Z (λD c=> ?_) (λD c=> ?_)
 ·refine AZ Z ?_
  cases c
  exact aR eV2
 refine Ac<|C _ _ ?_
 refine Aa λK E=>Ad<|rn 1 Z<|rL (W8 j) Z<|rz Z<|Ai<|AL (λtt ll nn=> ∃(n:Nat) (h:Int),(Jp N B d n h=some r)/\Is [(2,vF 138 #[] #[vP a 0,vP b 0]),(15,p),(16,vI (B.length:Int)),(17,vI h)] [] tt ll/\nn=n+1) (N+1) ?_ ?_
 ·exact⟨N,0,c,Ag Z Z,Z⟩
 clear c;rintro t l _ ⟨n,h,c,⟨⟨T,rfl⟩,rfl⟩,rfl⟩
 rcases n with _|n
 ·exact absurd c (by simp [Jp])
 rw [Jp] at c
 refine AZ Z<|Aa λF q=>aD c Z (λs c=> ?_) (λs c=> ?_)
 ·refine Ac<|q _ _ ?_
  refine Aa λG u=>Ai<|Ad<|rn 1 Z<|kC c λk c=>rI (W8 j) k Z<|rE (Ay j) k 0 Z<|rA Z λH=>ry [0] Z<|Ad<|rm 3 [0] Z<|kB c λI v c=>gV _ (Cc (caps:=[vP a 0,vP b 0]) Z qx Z) (λo w z_=>UU N h _ _ d _ v z_.view a e (z_.r i) (Bg f o w z_) b (Bg g o w z_))<|rz Z<|AZ Z<|aN c Z (λx c=> ?_) (λx c=> ?_)
  ·refine AZ Z ?_
   cases c
   exact aR eV2
  refine Ac<|u _ _ ?_
  refine Ah<|kC c λy c=>rX y Z<|rz Z<|fg _ (Sub.of (suC _ suN)) ?_
  exact⟨n+1,by omega,n,(h+1),c,Ag Z Z,Z⟩
 refine AM<|E _ _ ?_
 refine AZ Z ?_
 cases c
 exact aR eV2
def Pm(N:Nat)(c:Y0 (W2×Int))(b:Int):Y1 (Int×Int):=(Pq N c).bind λd=>(Nb N c b d).bind λa=>some (a.1,a.2)
theorem Ys(N j a r)(c:Pm N j a=some r)(p b)(f:Rd Ab3 p b j):Does prog 76 #[b,vI a,vF 77 #[] #[],vF 78 #[] #[]] p [] (pV (vT #[vI r.1,vI r.2])):=by
 unfold Pm at c
 refine Ak follows func76 Z 20 Z _ fz4 (λg=> ?_)
 refine Ad<|rA Z λd=>rz Z<|Ad<|rn 2 Z<|kB c λq l c=>gS (Ls:=[(Wt d (vF 78 #[] #[]))]) (cF qz) (λo w z_=>Yw N j _ l z_.view b ((Ay f) o w z_)) (λh n m=> ?_)
 refine rA Z λi=>r_s (V2 [(Tn i h),(Wt d (vF 78 #[] #[])),n]) 0 _ _ _ _ _ (#[h]) Z Z Z (CR Z (W7 m)) (.ofS Z Z (sS m AD)) Z Z<|Aj<|Ad<|rn 2 Z<|r_W (vF 138 #[] #[vP i 0,vP d 0]) Z (Jt Z)<|kB c λs e c=>gV _ (cF qy) (λo w z_=>YA N j a q _ e z_.view b ((Ay f) o w z_) i h ((AB m (Al (Ls:=[(Tn i h),(Wt d (vF 78 #[] #[])),n]) (k:=2) Z Z)) o w z_) (Da 0 Z Z o w z_) d (Da 1 Z Z o w z_))<|rz Z ?_
 cases c
 exact aR eV2
def Lf(N:Nat)(c:Ao):Y1 (Int×Int):=(Pm N c.2.2.2.1 16).bind λa=>some (a.1,a.2)
theorem aX(N c r)(a:Lf N c=some r)(f)(e:AC)(g:Aa2 f e c):Does prog 33 #[vA (Ab c e)] f [] (pV (vT #[vI r.1,vI r.2])):=by
 unfold Lf at a
 refine Ak follows func33 Z 10 Z _ fz1 (λb=> ?_)
 refine Ad<|rA Z λh=>rz Z<|Ad<|rm 3 [0] Z<|kB a λi d a=>gV _ (cF tN) (λo w z_=>Ys N _ 16 _ d z_.view e.2.2.1 ((Ay g.2.2.1) o w z_))<|rz Z ?_
 cases a
 exact aR eV2
def Nw(_:Nat)(a:W2)(_:Y0 (Int×Int))(_:Y0 (Int×Int×Int))(_:Y0 (Int×W3×Int×W3×Int))(_:Int):Y1 (W2):=some a
theorem UZ(N d e f g h r)(k:Nw N d e f g h=some r)(j:Ro)(a:Y2)(_hs_1:Rd Af0 j a e)(b:Y2)(_hs_2:Rd Ac9 j b f)(c:Y2)(_hs_3:Rd Af1 j c g):Does prog 81 #[vA #[vS d,a,b,c,vI h]] j [] (pV (vS r)):=by
 unfold Nw at k
 refine Ak follows func81 Z 5 Z _ fz1 (λi=> ?_)
 refine Ad<|rA Z λl=>rz Z<|AY [0] Z ?_
 cases k
 exact aR eV1
def Jj(N:Nat)(b:Y0 ((W2)×(Y0 (Int×Int))×(Y0 (Int×Int×Int))×(Y0 (Int×W3×Int×W3×Int))×Int)):Nat->Y0 (W2)->Int->Y1 (Y0 (W2))
  |0,_,_=>none
  |e+1,c,a=>if a<(b.length:Int)then ck (0<=a/\a<(b.length:Int)) ((Nw N (b[a.toNat]!.1) (b[a.toNat]!.2.1) (b[a.toNat]!.2.2.1) (b[a.toNat]!.2.2.2.1) (b[a.toNat]!.2.2.2.2)).bind λd=>ck (0<=a/\a<(c.length:Int)) (ck (R64 (a+1)) ((Jj N b e) ((c).set (a.toNat) d) (a+1))))else some c
def Po(N:Nat)(a:Y0 ((W2)×(Y0 (Int×Int))×(Y0 (Int×Int×Int))×(Y0 (Int×W3×Int×W3×Int))×Int)):Y1 (Y0 (W2)):=ck (0<=(a.length:Int)/\(a.length:Int)<=8796093022208) (Jj N a N ((List.replicate ((a.length:Int)).toNat ([]))) 0)
theorem Yu(N d r)(b:Po N d=some r)(L v)(j:RdN Ad8 L v d):Does prog 140 #[v,vF 81 #[] #[]] L [] (p1 (λs_=>s_) 9 Aa4 r):=by
 unfold Po at b
 refine Ak follows func140 Z 26 Z _ fz2 (λF=> ?_)
 refine AZ Z<|Ad<|rn 1 Z<|rL (W9 j) Z<|kC b λG b=>cB 10<|Ta (Ls:=[]) 9 Aa4 ([]) (d.length:Int) Z Z Z Z Z Z Z Z Z Z 8796093022208 Z G (λ_ _ _ _ _=>Iff.rfl) (λH K M=> ?_)
 refine rz Z<|Aa λQ I=>Ad<|rn 1 Z<|rL (W9 j) Z<|rz Z<|Ai<|BF _ (W5 [K] [0] Z)<|AL (λtt ll nn=> ∃(s:Nat) (h:Y0 (W2)) (a:Int),(Jj N d s h a=some r)/\ ∃(c:Y0 Bl),Sl 9 Aa4 H h c/\Is [(1,vF 81 #[] #[]),(5,H),(11,v),(12,vI (d.length:Int)),(13,vI a)] (V2 [c]) tt ll/\nn=s+1) (N+1) ?_ ?_
 ·exact⟨N,(List.replicate ((d.length:Int)).toNat ([])),0,b,K,M,Ag Z Z,Z⟩
 clear b;rintro t l _ ⟨s,h,a,b,c,i,⟨⟨T,rfl⟩,rfl⟩,rfl⟩
 rcases s with _|s
 ·exact absurd b (by simp [Jj])
 rw [Jj] at b
 refine AZ Z<|Aa λO x=>aD b Z (λy b=> ?_) (λy b=> ?_)
 ·refine Ac<|x _ _ ?_
  refine Aa λP z=>Ai<|Ad<|rn 1 Z<|kC b λk b=> ?_
  obtain⟨_,⟨e,f,g,m,n,p,rfl⟩,hat22⟩:=RdN.at (E:=Ad8) j (Cp k)
  refine rI (W9 j) k Z<|Mk (vA #[vS (d[a.toNat]!.1),e,f,g,vI (d[a.toNat]!.2.2.2.2)]) (vs:=[vS (d[a.toNat]!.1),e,f,g,vI (d[a.toNat]!.2.2.2.2)]) (a.toNat*5) 0 Z Z (λo w z_=>At.mono z_.ro_cell hat22) Z<|rA Z λu=>rn 1 Z<|r_s (V2 [(aI u (d[a.toNat]!.1) e f g (d[a.toNat]!.2.2.2.2)),c]) 0 _ _ _ _ _ (#[vS (d[a.toNat]!.1),e,f,g,vI (d[a.toNat]!.2.2.2.2)]) Z Z Z Z (.ofS Z Z (Ae Z (sR m (sR n (sR p (Ae Z AD)))))) Z Z<|Aj<|Ah<|rm 4 [0] Z<|kB b λA B b=>gV _ (Cc (caps:=[]) Z tJ Z) (λo w z_=>UZ N _ _ _ _ _ _ B z_.view e (z_.r m) f (z_.r n) g (z_.r p))<|kC b λq b=>rI (W7 i) q Z<|QR (Ls:=[(aI u (d[a.toNat]!.1) e f g (d[a.toNat]!.2.2.2.2)),c]) 1 (En:=Aa4) (h[a.toNat]!) A (a.toNat) 0 Z Z Z i (Cp q) Z Z Z (It Z) Z (λC J=> ?_)
  refine Aj<|z _ _ ?_
  refine Ah<|kC b λD b=>rX D Z<|rz Z<|fg _ (W5 [(aI u (d[a.toNat]!.1) e f g (d[a.toNat]!.2.2.2.2)),C] [1] Z) ?_
  exact⟨s+1,by omega,s,(h).set (a.toNat) A,(a+1),b,C,J,Ag Z Z,Z⟩
 refine AM<|I _ _ ?_
 refine AZ Z ?_
 cases b
 refine AU (λR=>Iq (v0:=H) i (Fu (W5 [c] [0] Z)) Z (Gl Z))
def OE(N:Nat)(c:Y0 (W2×Int×Int)):Nat->Int->Int->Y1 (Int×Int×Y3)
  |0,_,_=>none
  |e+1,a,b=>if b<(c.length:Int)then ck (0<=b/\b<(c.length:Int)) ((Ks N ((c[b.toNat]!).1) ((c[b.toNat]!).2.1) ((c[b.toNat]!).2.2)).bind λd=>if a<d then some (b,a,true)else ck (R64 (a - d)) (ck (R64 (b+1)) ((OE N c e) (a - d) (b+1))))else some (0,0,false)
def Su(N:Nat)(b:Y0 (W2×Int×Int))(a:Int):Y1 (Int×Int×Y3):=if a<0 then some (0,0,false)else OE N b N a 0
theorem fw(N u c r)(a:Su N u c=some r)(z g)(h:Rd Ad7 z g u):Does prog 166 #[g,vI c] z [] (pV (vT #[vI r.1,vI r.2.1,vB r.2.2])):=by
 unfold Su at a
 refine Ak follows func166 Z 30 Z _ fz2 (λs=> ?_)
 refine AZ Z<|Aa λE v=>AZ Z<|aD a Z (λw a=> ?_) (λw a=> ?_)
 ·refine AZ Z ?_
  cases a
  exact aR eV3
 refine Ac<|v _ _ ?_
 refine Aa λF x=>Ad<|rn 1 Z<|rL (W8 h) Z<|rz Z<|Ai<|AL (λtt ll nn=> ∃(f:Nat) (b:Int) (d:Int),(OE N u f b d=some r)/\Is [(1,vI b),(12,g),(13,vI (u.length:Int)),(14,vI d)] [] tt ll/\nn=f+1) (N+1) ?_ ?_
 ·exact⟨N,c,0,a,Ag Z Z,Z⟩
 clear a;rintro t l _ ⟨f,b,d,a,⟨⟨T,rfl⟩,rfl⟩,rfl⟩
 rcases f with _|f
 ·exact absurd a (by simp [OE])
 rw [OE] at a
 refine AZ Z<|Aa λA i=>aD a Z (λj a=> ?_) (λj a=> ?_)
 ·refine Ac<|i _ _ ?_
  refine Aa λB k=>Ai<|Ad<|rn 1 Z<|kC a λe a=>rI (W8 h) e Z<|rE (Ay h) e 0 Z<|rA Z λC=>ry [0] Z<|Ad<|rm 1 [0] Z<|kB a λy m a=>rc _ (cF Xo) (Rc N _ _ _ _ m)<|rz Z<|Aa λD n=>AZ Z<|aD a Z (λo a=> ?_) (λo a=> ?_)
  ·refine AZ Z ?_
   cases a
   exact aR eV3
  refine Ac<|n _ _ ?_
  refine Ah<|rn 2 Z<|kC a λp a=>rX p Z<|rz Z<|k _ _ ?_
  refine Ah<|kC a λq a=>rX q Z<|rz Z<|fg _ (Sub.of (suC _ suN)) ?_
  exact⟨f+1,by omega,f,(b - y),(d+1),a,Ag Z Z,Z⟩
 refine AM<|x _ _ ?_
 refine AZ Z ?_
 cases a
 exact aR eV3
def Qi(N:Nat)(a:Y0 (W2×Int×Int))(i:Int):Y1 (Int×Y3):=ck (0<=i/\i<=(a.length:Int)) ((PB N (((a).take (i.toNat)).drop 0)).bind λb=>some (b,true))
def PC(N:Nat)(a:Y0 (W2×Int×Int))(i:Int):Y1 (Int×Y3):=ck ((R64 ((a.length:Int) - 1))) ((Gw N i 0 ((a.length:Int) - 1)).bind λc=>if c=true then ck (0<=i/\i<(a.length:Int)) ((Ks N ((a[i.toNat]!).1) ((a[i.toNat]!).2.1) ((a[i.toNat]!).2.2)).bind λb=>if b=0 then some (0,false)else Qi N a i)else some (0,false))
theorem jB(N q i r)(a:PC N q i=some r)(s b)(c:Rd Ad7 s b q):Does prog 241 #[b,vI i] s [] (pV (vT #[vI r.1,vB r.2])):=by
 unfold PC at a
 refine Ak follows func241 Z 24 Z _ fz2 (λk=> ?_)
 refine AZ Z<|Cs (λtt ll=>(Qi N q i  =some r)/\Is [(0,b),(1,vI i)] [] tt ll) ?_ ?_
 ·refine Aa λx f=>Ah<|rn 2 Z<|rL (W8 c) Z<|kC a λm a=>rX m Z<|kB a λu n a=>rc _ (cF Ly) (IR N i 0 _ _ n)<|rn 2 Z ?_
  rcases d:(!(u))with _|_
  ·replace a:=ifp (DH d) a
   refine rn 2 Z<|r_y Z<|kC a λe a=>rI (W8 c) e Z<|r_y Z<|rE (Ay c) e 0 Z<|r_y Z<|kB a λv g a=>rc _ (cF Xo) (Rc N _ _ _ _ g)<|rz Z<|f _ _ ?_
   refine aE a Z (λh a=> ?_) (λh a=> ?_)
   ·refine AZ Z ?_
    cases a
    exact aR eV2
   refine Ac<|fg _ (Sub.of suN) ?_
   exact⟨a,Ag Z Z⟩
  replace a:=ifn (Bool.eq_false_iff.1 (DG d)) a
  refine rz Z<|f _ _ ?_
  refine JO Z ?_
  refine AZ Z ?_
  cases a
  exact aR eV2
 clear a;rintro t l ⟨a,⟨T,rfl⟩,rfl⟩
 unfold Qi at a
 refine Ad<|rn 2 Z<|kC a λj a=>r_W (GX b 0 (i.toNat) 3) Z (GV (ID Z Z Z Z (W8 c) j))<|kB a λy p a=>gV _ (cF eD) (λo w z_=>YT N _ _ p z_.view (GX b 0 (i.toNat) 3) ((Ql (Ay c) (Nat.zero_le _) (Fy j.2)) o w z_))<|rz Z ?_
 cases a
 exact aR eV2
def JQ(m:Ao)(a:Int)(b:Int×Y3):Y1 (Int×Int×Y3):=ck (0<=a/\a<(m.2.2.1.length:Int)) (some (b.1,((m.2.2.1)[a.toNat]!).2.2,true))
def GL(N:Nat)(m:Ao)(a:Int):Y1 (Int×Int×Y3):=(PC N m.2.2.1 a).bind λb=>if b.2=true then ck (0<=a/\a<(m.2.2.1.length:Int)) (if(((m.2.2.1)[a.toNat]!).2.2:Int)=0 then some (0,0,false)else JQ m a b)else some (0,0,false)
theorem Oi(N m b r)(a:GL N m b=some r)(s)(j:AC)(e:Aa2 s j m):Does prog 205 #[vA (Ab m j),vI b] s [] (pV (vT #[vI r.1,vI r.2.1,vB r.2.2])):=by
 unfold GL at a
 refine Ak follows func205 Z 34 Z _ fz2 (λi=> ?_)
 refine Ad<|rA Z λq=>rz Z<|Ad<|rm 3 [0] Z<|kB a λk n a=>gV _ (cF oO) (λo w z_=>jB N m.2.2.1 b _ n z_.view j.2.1 ((Ay e.2.1) o w z_))<|rz Z<|Cs (λtt ll=>(JQ m b k  =some r)/\Is [(1,vI b),(2,vP q 0),(7,vI k.1)] [(q,35,(Ab m j))] tt ll) ?_ ?_
 ·refine Aa λu f=>Ah<|rn 3 Z ?_
  rcases g:(!(k.2))with _|_
  ·replace a:=ifp (DH g) a
   refine rn 1 Z<|r_y Z<|rm 2 [0] Z<|r_y Z<|kC a λc a=>rI (W8 e.2.1) c Z<|r_y Z<|rF (W8 e.2.1) (Bp c) Z<|r_y Z<|rE (Ay e.2.1) c 2 Z<|rz Z<|f _ _ ?_
   refine aE a Z (λh a=> ?_) (λh a=> ?_)
   ·refine AZ Z ?_
    cases a
    exact aR eV3
   refine Ac<|fg _ (Sub.of (suK _ suN)) ?_
   exact⟨a,Ag Z Z⟩
  replace a:=ifn (Bool.eq_false_iff.1 (DG g)) a
  refine rz Z<|f _ _ ?_
  refine JO Z ?_
  refine AZ Z ?_
  cases a
  exact aR eV3
 clear a;rintro t l ⟨a,⟨T,rfl⟩,rfl⟩
 unfold JQ at a
 refine Aa λv p=>HS [] (by decide+kernel) (λx=>AN)<|rm 4 [0] Z<|kC a λd a=>rI (W8 e.2.1) d Z<|rF (W8 e.2.1) (Bp d) Z<|rE (Ay e.2.1) d 2 Z<|rz Z<|p _ _ ?_
 cases a
 exact aR eV3
def MK(N:Nat)(c:Ao)(_ b a:Int):Y1 Int:=if b=0 then(Su N c.2.2.1 a).bind λd=>if d.2.2=true then ck (0<=d.1/\d.1<(c.2.2.1.length:Int)) ((Ap N ((((c.2.2.1)[(d.1).toNat]!).2.2:Int)==0) 5).bind λe=>some e)else(Ap N false 5).bind λj=>some j else if b=1 then(GL N c a).bind λf=>(Ap N f.2.2 5).bind λg=>some g else if b=2 then(AG N a 1 64).bind λi=>(Ap N i 7).bind λh=>some h else some 10
theorem fV(N c x q d r)(a:MK N c x q d=some r)(D)(u:AC)(s:Aa2 D u c):Does prog 144 #[vA (Ab c u),vI x,vA #[vI q,vI d]] D [] (pV (vI r)):=by
 unfold MK at a
 refine Ak follows func144 Z 58 Z _ fz3 (λt=> ?_)
 refine Ad<|rA Z λI=>rA Z λJ=>rz Z<|Aa λK v=>AY [0] Z<|Ai<|AZ Z<|aE a Z (λy a=> ?_) (λy a=> ?_)
 ·refine Ad<|rm 5 [1,0] Z<|kB a λE g a=>gV _ (cF Xr) (λo w z_=>fw N c.2.2.1 d _ g z_.view u.2.1 ((Ay s.2.1) o w z_))<|rz Z<|Aa λF e=>Ah<|rn 2 Z ?_
  rcases f:E.2.2 with _|_
  ·replace a:=iB f a
   refine rn 9 Z<|kB a λz h a=>rc _ (cF Bw) (AE N false 5 _ h)<|rz Z<|e _ _ ?_
   refine CJ [(6,vI z)] Z (λT=> ?_)
   cases a
   exact aR eV1
  replace a:=ifp f a
  refine rn 2 Z<|r_y Z<|rm 2 [1] Z<|r_y Z<|kC a λb a=>rI (W8 s.2.1) b Z<|r_y Z<|rF (W8 s.2.1) (Bp b) Z<|r_y Z<|rE (Ay s.2.1) b 2 Z<|rn 2 Z<|kB a λA i a=>rc _ (cF Bw) (AE N _ 5 _ i)<|rz Z<|e _ _ ?_
  refine CJ [(6,vI A)] Z (λT=> ?_)
  cases a
  exact aR eV1
 refine AZ Z<|aE a Z (λj a=> ?_) (λj a=> ?_)
 ·refine Ad<|rm 4 [1,0] Z<|kB a λB k a=>gV _ (cF Xn) (λo w z_=>Oi N c d _ k z_.view u (Aa2.mono z_.ro_cell s))<|rz Z<|Ad<|rn 1 Z<|kB a λG l a=>rc _ (cF Bw) (AE N B.2.2 5 _ l)<|rz Z ?_
  cases a
  exact aR eV1
 refine AZ Z<|aE a Z (λm a=> ?_) (λm a=> ?_)
 ·refine Ad<|rm 2 [0] Z<|kB a λC n a=>rc _ (cF FK) (Ba N d 1 64 _ n)<|kB a λH p a=>rc _ (cF Bw) (AE N C 7 _ p)<|rz Z ?_
  cases a
  exact aR eV1
 refine Ac<|v _ _ ?_
 refine AZ Z ?_
 cases a
 exact aR eV1
def Lb(N:Nat)(c:Y0 (Int×Int))(b:Ao):Nat->Int->Y1 (Int×Int)
  |0,_=>none
  |e+1,a=>if a<(c.length:Int)then ck (0<=a/\a<(c.length:Int)) ((MK N b a ((c[a.toNat]!).1) ((c[a.toNat]!).2)).bind λd=>if(d:Int)≠0 then some (a,d)else ck (R64 (a+1)) ((Lb N c b e) (a+1)))else some (0,0)
def OZ(N:Nat)(c:Y0 (Int×Int))(b:Int)(a:Ao):Y1 (Int×Int):=if(c.length:Int)>b then some (0,2)else Lb N c a N 0
theorem dj(N v h a r)(c:OZ N v h a=some r)(A j)(f:Rd Af0 A j v)(b:AC)(e:Aa2 A b a):Does prog 143 #[j,vI h,vF 144 #[vA (Ab a b)] #[]] A [] (pV (vT #[vI r.1,vI r.2])):=by
 unfold OZ at c
 refine Ak follows func143 Z 31 Z _ fz3 (λu=> ?_)
 refine AZ Z<|Aa λF x=>Ad<|rn 1 Z<|rL (W8 f) Z<|rz Z<|aD c Z (λy c=> ?_) (λy c=> ?_)
 ·refine AZ Z ?_
  cases c
  exact aR eV2
 refine Ac<|x _ _ ?_
 refine Aa λG z=>Ad<|rn 1 Z<|rL (W8 f) Z<|rz Z<|Ai<|AL (λtt ll nn=> ∃(i:Nat) (d:Int),(Lb N v a i d=some r)/\Is [(2,vF 144 #[vA (Ab a b)] #[]),(15,j),(16,vI (v.length:Int)),(17,vI d)] [] tt ll/\nn=i+1) (N+1) ?_ ?_
 ·exact⟨N,0,c,Ag Z Z,Z⟩
 clear c;rintro t l _ ⟨i,d,c,⟨⟨T,rfl⟩,rfl⟩,rfl⟩
 rcases i with _|i
 ·exact absurd c (by simp [Lb])
 rw [Lb] at c
 refine AZ Z<|Aa λB k=>aD c Z (λm c=> ?_) (λm c=> ?_)
 ·refine Ac<|k _ _ ?_
  refine Aa λC n=>Ai<|Ad<|rn 1 Z<|kC c λg c=>rI (W8 f) g Z<|rE (Ay f) g 0 Z<|rA Z λD=>ry [0] Z<|Ad<|rm 3 [0] Z<|kB c λE p c=>gV _ (RB (bd:=[vA (Ab a b)]) (caps:=[]) Z qs Z) (λo w z_=>fV N a d _ _ _ p z_.view b (Aa2.mono z_.ro_cell e))<|rz Z<|AZ Z<|aN c Z (λq c=> ?_) (λq c=> ?_)
  ·refine AZ Z ?_
   cases c
   exact aR eV2
  refine Ac<|n _ _ ?_
  refine Ah<|kC c λs c=>rX s Z<|rz Z<|fg _ (Sub.of (suC _ suN)) ?_
  exact⟨i+1,by omega,i,(d+1),c,Ag Z Z,Z⟩
 refine AM<|z _ _ ?_
 refine AZ Z ?_
 cases c
 exact aR eV2
def RO(_:Nat)(s:W2):Y1 (W2):=if(s.length:Int)=0 then some ([])else ck (0<=(s.length:Int)/\(s.length:Int)<=140737488355328) (ck (0<=(0:Int)/\(0:Int)<((((s).take ((List.replicate ((s.length:Int)).toNat (0:UInt8))).length++((List.replicate ((s.length:Int)).toNat (0:UInt8))).drop (s).length)).length:Int)) (ck ((((s).take ((List.replicate ((s.length:Int)).toNat (0:UInt8))).length++((List.replicate ((s.length:Int)).toNat (0:UInt8))).drop (s).length)).length<=140737488355328) (some (((s).take ((List.replicate ((s.length:Int)).toNat (0:UInt8))).length++((List.replicate ((s.length:Int)).toNat (0:UInt8))).drop (s).length)))))
theorem kh(N s r)(b:RO N s=some r):Gives prog 256 #[vS s] (vS r):=by
 unfold RO at b
 refine Au follows func256 Z 18 Z _ fz1 (λf=> ?_)
 refine AZ Z<|Aa λm g=>Ad<|rn 1 Z<|r_W (vI (s.length:Int)) Z (NN Z Z Z)<|rz Z<|aE b Z (λh b=> ?_) (λh b=> ?_)
 ·refine AZ Z ?_
  cases b
  exact aR eE1
 refine Ac<|g _ _ ?_
 refine Ad<|rn 1 Z<|r_W (vI (s.length:Int)) Z (NN Z Z Z)<|kC b λi b=>cB 9<|Ta (Ls:=[]) 5 encY (0:UInt8) (s.length:Int) Z Z Z Z Z Z Z Z Z Z 140737488355328 Z i (λ_ _ _ _ _=>Iff.rfl) (λk l j=> ?_)
 refine rz Z<|Ad<|rn 2 Z<|cA 12 (p:=(pUp (λv_ U_=>v_= .int .i64 ((min (s).length ((List.replicate ((s.length:Int)).toNat (0:UInt8))).length:Nat):Int)/\Sl 5 encY k ((s).take ((List.replicate ((s.length:Int)).toNat (0:UInt8))).length++((List.replicate ((s.length:Int)).toNat (0:UInt8))).drop (s).length) U_/\U_.map (·.1)=l.map (·.1))))<|vO (Lo:=True) (Ls:=[l]) 0 s Z Z Z Z Z Z j Z Z Z (λ_ _ _ _ _=>Iff.rfl) (λd c=> ?_)
 refine Aj<|Ad<|rn 1 Z<|kC b λa b=>rI (W7 c) a Z<|rn 1 Z<|rL (W7 c) Z<|kC b λe b=>cA 17 (p:=(pUp (λv_ U_=>v_= .string ⟨(((s).take ((List.replicate ((s.length:Int)).toNat (0:UInt8))).length++((List.replicate ((s.length:Int)).toNat (0:UInt8))).drop (s).length)).toArray⟩/\U_=Pb d)))<|lK (Ls:=[d]) 0 (xs:=((s).take ((List.replicate ((s.length:Int)).toNat (0:UInt8))).length++((List.replicate ((s.length:Int)).toNat (0:UInt8))).drop (s).length)) Z Z Z Z Z Z (Sl.strict c (Bp a)) (vv k (Sl.strict c (Bp a)) (Bp a)) Z (by kernel_rfl) Z e (λ_ _ _ _ _=>Iff.rfl)<|AK (Ls:=[Pb d]) (Ls':=[]) [] Z Z ?_
 refine rz Z ?_
 cases b
 exact aR eE1
def NR(N:Nat)(s:W2):Y1 (W2):=(RO N s).bind λa=>some a
theorem YU(N s r)(a:NR N s=some r):Gives prog 231 #[vS s] (vS r):=by
 unfold NR at a
 refine Au follows func231 Z 5 Z _ fz1 (λb=> ?_)
 refine AZ Z<|Ad<|rn 1 Z<|kB a λd c a=>rc _ (cF oz) (kh N s _ c)<|rz Z ?_
 cases a
 exact aR eE1
def Eg(_:Nat)(s:Y0 (W2×Int)):Y1 (Y0 (W2×Int)):=ck ((([]:Y0 (W2×Int))).length+(s).length<=5864062014805) (some (([]:Y0 (W2×Int))++s))
theorem LZ(N s r)(a:Eg N s=some r)(m n)(l:Rd Ab3 m n s):Does prog 232 #[n] m [] (p1 (λs_=>s_) 136 Ab3 r):=by
 unfold Eg at a
 refine Ak follows func232 Z 8 Z _ fz1 (λd=> ?_)
 refine AZ Z<|Aa λq e=>Aa λt c=>Ah<|rn 1 Z ?_
 rcases ss (W8 l)with⟨f,g⟩|hne6
 ·obtain rfl:=f;obtain rfl:=List.eq_nil_of_length_eq_zero g
  replace a:(some ([]))=some r:=(by first|exact a|(simp at a ⊢;exact a))
  refine rz Z<|c _ _ ?_
  refine JO Z ?_
  refine AZ Z ?_
  cases a
  refine AU (λo=>Iq (v0:=nS) Sl.nil (Sub.nil _) Z (Gl Z))
 refine r_W (.bool false) Z (kr Z Z Z (W8 l) hne6)<|Aj<|c _ _ ?_
 refine Ch Z ?_
 refine Ac<|e _ _ ?_
 refine Ad<|gB (Ls:=[]) 136 Ab3 ([]:Y0 (W2×Int)) (λu p h=> ?_)
 refine rn 1 Z<|kC a λb a=>cC 7<|Ln (cs0:=[]) (Ls:=[p]) 0 (En:=Ab3) Z Z Z Z Z h Z (Ay l) Z Z Z Z Z (LB b Z) (LA b Z) Z (λi j k=> ?_)
 refine rz Z ?_
 cases a
 refine AU (λo=>Iq (v0:=i) k (Fu (W5 [j] [0] Z)) Z (Gl Z))
def HX(N:Nat)(d c f e:Int)(j:W2)(g:Y0 (W2×Int)):Nat->Int->Y0 (W2×Int)->Y1 ((W2)×(Y0 (W2×Int))×Int×Int×Int×Int)
  |0,_,_=>none
  |i+1,a,b=>if a<(g.length:Int)then ck (0<=a/\a<(b.length:Int)) ((NR N ((b[a.toNat]!).1)).bind λh=>ck (0<=a/\a<(b.length:Int)) (ck (R64 (a+1)) ((HX N d c f e j g i) (a+1) ((b).set (a.toNat) (h,(b[a.toNat]!).2)))))else some (j,b,d,c,f,e)
def Mh(N:Nat)(a:W2)(c:Y0 (W2×Int))(e d g f:Int):Y1 ((W2)×(Y0 (W2×Int))×Int×Int×Int×Int):=(NR N a).bind λh=>(Eg N c).bind λb=>HX N e d g f h b N 0 b
theorem ZN(N z A a b c d r)(g:Mh N z A a b c d=some r)(R p)(J:Rd Ab3 R p A):Does prog 185 #[vA #[vS z,p,vI a,vI b,vI c,vI d]] R [] (p1 (λs_=>vA #[vS r.1,s_,vI r.2.2.1,vI r.2.2.2.1,vI r.2.2.2.2.1,vI r.2.2.2.2.2]) 136 Ab3 r.2.1):=by
 unfold Mh at g
 refine Ak follows func185 Z 32 Z _ fz1 (λK=> ?_)
 refine Ad<|rA Z λu=>rA Z λv=>Aj<|Ad<|rm 2 [1] Z<|kB g λj L g=>rc _ (cF dZ) (YU N z _ L)<|ry [1] Z<|Ad<|rm 2 [1] Z<|kB g λM O g=>gS (Ls:=[(LE v (V4 (⟨#[]⟩)) nS 0 0 0 0),(Iv u j p a b c d)]) (cF oY) (λo w z_=>LZ N A _ O z_.view p (z_.r J)) (λe y x=> ?_)
 refine rn 1 Z<|r_s (V2 [(LE v (V4 (⟨#[]⟩)) nS 0 0 0 0),(Iv u j e a b c d),y]) 1 _ _ _ _ _ (#[vS j,e,vI a,vI b,vI c,vI d]) Z Z Z (CR Z (W7 x)) (.ofS Z Z (sS x AD)) Z Z<|Aj<|Aa λS B=>Ad<|rm 2 [1] Z<|rL (W7 x) Z<|rz Z<|Ai ?_
 refine BF _ (W5 [(LE v (V4 (⟨#[]⟩)) nS 0 0 0 0),(Iv u j e a b c d),y] [0,1,2] Z)<|AL (λtt ll nn=> ∃(m:Nat) (i:Int) (n:Y0 (W2×Int)),(HX N a b c d j M m i n=some r)/\ ∃(h:Y0 Bl),Sl 136 Ab3 e n h/\Is [(1,vP u 0),(2,vP v 0),(14,vI (M.length:Int)),(15,vI i)] (V2 [(LE v (V4 (⟨#[]⟩)) nS 0 0 0 0),(Iv u j e a b c d),h]) tt ll/\nn=m+1) (N+1) ?_ ?_
 ·exact⟨N,0,M,g,y,x,Ag Z Z,Z⟩
 clear g;rintro t l _ ⟨m,i,n,g,h,f,⟨⟨T,rfl⟩,rfl⟩,rfl⟩
 rcases m with _|m
 ·exact absurd g (by simp [HX])
 rw [HX] at g
 refine AZ Z<|Aa λU C=>aD g Z (λD g=> ?_) (λD g=> ?_)
 ·refine Ac<|C _ _ ?_
  refine Aa λV E=>Ai<|AZ Z<|HS [] (by decide+kernel) (λQ=>AN)<|rm 6 [1,1] Z<|kC g λq g=>rI (W7 f) q Z<|rF (W7 f) (Bp q) Z<|rE (AB f (Al (Ls:=[(LE v (V4 (⟨#[]⟩)) nS 0 0 0 0),(Iv u j e a b c d),h]) (k:=2) Z Z)) q 0 Z<|kB g λF G g=>rc _ (cF dZ) (YU N _ _ G)<|kC g λs g=>rI (W7 f) s Z<|rF (W7 f) (Bp s) Z<|QR (Ls:=[(LE v (V4 (⟨#[]⟩)) nS 0 0 0 0),(Iv u j e a b c d),h]) 2 (En:=Ab3) (n[i.toNat]!) (F,(n[i.toNat]!).2) (i.toNat) 0 Z Z Z f (Cp s) Z Z Z (It Z) Z (λH P=> ?_)
  refine Aj<|E _ _ ?_
  refine Ah<|kC g λI g=>rX I Z<|rz Z<|fg _ (W5 [(LE v (V4 (⟨#[]⟩)) nS 0 0 0 0),(Iv u j e a b c d),H] [0,1,2] Z) ?_
  exact⟨m+1,by omega,m,(i+1),(n).set (i.toNat) (F,(n[i.toNat]!).2),g,H,P,Ag Z Z,Z⟩
 refine AM<|B _ _ ?_
 refine Ad<|rm 1 [1] Z<|r_s (V2 [(Iv v j e a b c d),(Iv u j e a b c d),h]) 0 _ _ _ _ _ (#[vS j,e,vI a,vI b,vI c,vI d]) Z Z Z Z (.ofS Z Z (Ae Z (sS f (Ae Z (Ae Z (Ae Z (Ae Z AD))))))) Z Z<|Aj ?_
 cases g
 refine AU (λQ=>Iq (v0:=vA #[vS j,e,vI a,vI b,vI c,vI d]) f (Fu (W5 [(Iv v j e a b c d),(Iv u j e a b c d),h] [2] Z)) Z (Gl (Bf Q 0 Z Z Z)))
def OG(N:Nat)(a:Y0 ((W2)×(Y0 (W2×Int))×Int×Int×Int×Int))(d:Y0 (W2×Int×Int))(b:Int×Int×Y3):Y1 ((W2)×(Y0 (W2×Int))×Int×Int×Int×Int×Y3):=ck (0<=b.1/\b.1<(d.length:Int)) (ck (0<=(d[(b.1).toNat]!).2.1/\(d[(b.1).toNat]!).2.1<(a.length:Int)) ((Mh N (a[((d[(b.1).toNat]!).2.1).toNat]!.1) (a[((d[(b.1).toNat]!).2.1).toNat]!.2.1) (a[((d[(b.1).toNat]!).2.1).toNat]!.2.2.1) (a[((d[(b.1).toNat]!).2.1).toNat]!.2.2.2.1) (a[((d[(b.1).toNat]!).2.1).toNat]!.2.2.2.2.1) (a[((d[(b.1).toNat]!).2.1).toNat]!.2.2.2.2.2)).bind λc=>some (c.1,c.2.1,c.2.2.1,c.2.2.2.1,c.2.2.2.2.1,c.2.2.2.2.2,true)))
def NY(N:Nat)(a:Y0 ((W2)×(Y0 (W2×Int))×Int×Int×Int×Int))(c:Y0 (W2×Int×Int))(d:Int):Y1 ((W2)×(Y0 (W2×Int))×Int×Int×Int×Int×Y3):=(Su N c d).bind λb=>if b.2.2=true then ck (0<=b.1/\b.1<(c.length:Int)) (ck ((R64 ((a.length:Int) - 1))) ((Gw N ((c[(b.1).toNat]!).2.1) 0 ((a.length:Int) - 1)).bind λe=>if e=true then OG N a c b  else some ([],[],0,0,0,0,false)))else some ([],[],0,0,0,0,false)
theorem fy(N a f k r)(c:NY N a f k=some r)(I d)(e:RdN Ad1 I d a)(p)(g:Rd Ad7 I p f):Does prog 109 #[d,p,vI k] I [] (p1 (λs_=>vT #[vA #[vS r.1,s_,vI r.2.2.1,vI r.2.2.2.1,vI r.2.2.2.2.1,vI r.2.2.2.2.2.1],vB r.2.2.2.2.2.2]) 136 Ab3 r.2.1):=by
 unfold NY at c
 refine Ak follows func109 Z 42 Z _ fz3 (λF=> ?_)
 refine Ad<|rA Z λm=>rz Z<|Ad<|rn 2 Z<|kB c λh G c=>gV _ (cF Xr) (λo w z_=>fw N f k _ G z_.view p ((Ay g) o w z_))<|rz Z<|Cs (λtt ll=>(OG N a f h  =some r)/\Is [(0,d),(1,p),(6,vP m 0),(8,vI h.1)] (LE m (V4 (⟨#[]⟩)) nS 0 0 0 0) tt ll) ?_ ?_
 ·refine Aa λJ q=>Ah<|rn 3 Z ?_
  rcases s:(!(h.2.2))with _|_
  ·replace c:=ifp (DH s) c
   refine rn 2 Z<|r_y Z<|kC c λi c=>rI (W8 g) i Z<|r_y Z<|rF (W8 g) (Bp i) Z<|r_y Z<|rE (Ay g) i 1 Z<|rn 1 Z<|r_y Z<|rL (W9 e) Z<|r_y Z<|kC c λv c=>rX v Z<|r_y Z<|kB c λK x c=>rc _ (cF Ly) (IR N _ 0 _ _ x)<|rz Z<|q _ _ ?_
   refine BS _ Z (λj=> ?_) (λj=> ?_)
   ·replace c:=ifn (Bool.eq_false_iff.1 (DG j)) c
    refine Ad<|r_W (vA #[V4 (⟨#[]⟩),nS,vI 0,vI 0,vI 0,vI 0]) Z (Ar Z Z Z Z)<|r_s (LE m (V4 (⟨#[]⟩)) nS 0 0 0 0) 0 _ _ _ _ _ (#[V4 (⟨#[]⟩),nS,vI 0,vI 0,vI 0,vI 0]) Z Z Z Z (.ofS Z Z (Ae Z (sE (Ae Z (Ae Z (Ae Z (Ae Z AD))))))) Z Z<|rz Z<|CJ [(6,vP m 0),(7,vB false)] Z (λT=> ?_)
    cases c
    refine AU (λy=>Iq (v0:=vT #[vA #[V4 (⟨#[]⟩),nS,vI 0,vI 0,vI 0,vI 0],vB false]) Sl.nil (Sub.nil _) Z (Jg (Bf y 0 Z Z Z) Z))
   replace c:=ifp (DH j) c
   refine Ac<|fg _ (Sub.of (suK _ suN)) ?_
   exact⟨c,Ag Z Z⟩
  replace c:=ifn (Bool.eq_false_iff.1 (DG s)) c
  refine rz Z<|q _ _ ?_
  refine JO Z ?_
  refine Ad<|r_W (vA #[V4 (⟨#[]⟩),nS,vI 0,vI 0,vI 0,vI 0]) Z (Ar Z Z Z Z)<|r_s (LE m (V4 (⟨#[]⟩)) nS 0 0 0 0) 0 _ _ _ _ _ (#[V4 (⟨#[]⟩),nS,vI 0,vI 0,vI 0,vI 0]) Z Z Z Z (.ofS Z Z (Ae Z (sE (Ae Z (Ae Z (Ae Z (Ae Z AD))))))) Z Z<|rz Z<|CJ [(6,vP m 0),(7,vB false)] Z (λT=> ?_)
  cases c
  refine AU (λy=>Iq (v0:=vT #[vA #[V4 (⟨#[]⟩),nS,vI 0,vI 0,vI 0,vI 0],vB false]) Sl.nil (Sub.nil _) Z (Jg (Bf y 0 Z Z Z) Z))
 clear c;rintro t l ⟨c,⟨T,rfl⟩,rfl⟩
 unfold OG at c
 refine Ad<|rn 3 Z<|kC c λu c=>rI (W8 g) u Z<|rF (W8 g) (Bp u) Z<|rE (Ay g) u 1 Z<|kC c λz c=> ?_
 obtain⟨_,⟨H,A,rfl⟩,hat11⟩:=RdN.at (E:=Ad1) e (Cp z)
 refine rI (W9 e) z Z ?_
 refine Mk (vA #[vS (a[((f[(h.1).toNat]!).2.1).toNat]!.1),H,vI (a[((f[(h.1).toNat]!).2.1).toNat]!.2.2.1),vI (a[((f[(h.1).toNat]!).2.1).toNat]!.2.2.2.1),vI (a[((f[(h.1).toNat]!).2.1).toNat]!.2.2.2.2.1),vI (a[((f[(h.1).toNat]!).2.1).toNat]!.2.2.2.2.2)]) (vs:=[vS (a[((f[(h.1).toNat]!).2.1).toNat]!.1),H,vI (a[((f[(h.1).toNat]!).2.1).toNat]!.2.2.1),vI (a[((f[(h.1).toNat]!).2.1).toNat]!.2.2.2.1),vI (a[((f[(h.1).toNat]!).2.1).toNat]!.2.2.2.2.1),vI (a[((f[(h.1).toNat]!).2.1).toNat]!.2.2.2.2.2)]) (((f[(h.1).toNat]!).2.1).toNat*6) 0 Z Z (λo w z_=>At.mono z_.ro_cell hat11) Z<|kB c λb B c=>gS (Ls:=[(LE m (V4 (⟨#[]⟩)) nS 0 0 0 0)]) (cF pI) (λo w z_=>ZN N _ _ _ _ _ _ _ B z_.view H (z_.r A)) (λn C D=> ?_)
 refine r_s (V2 [(Iv m b.1 n b.2.2.1 b.2.2.2.1 b.2.2.2.2.1 b.2.2.2.2.2),C]) 0 _ _ _ _ _ (#[vS b.1,n,vI b.2.2.1,vI b.2.2.2.1,vI b.2.2.2.2.1,vI b.2.2.2.2.2]) Z Z Z Z (.ofS Z Z (Ae Z (sS D (Ae Z (Ae Z (Ae Z (Ae Z AD))))))) Z Z<|rz Z ?_
 cases c
 refine AU (λy=>Iq (v0:=vT #[vA #[vS b.1,n,vI b.2.2.1,vI b.2.2.2.1,vI b.2.2.2.2.1,vI b.2.2.2.2.2],vB true]) D (Fu (W5 [(Iv m b.1 n b.2.2.1 b.2.2.2.1 b.2.2.2.2.1 b.2.2.2.2.2),C] [1] Z)) Z (Jg (Bf y 0 Z Z Z) Z))
def KC(N:Nat)(m:Ao)(b:Int):Y1 ((W2)×(Y0 (W2×Int))×Int×Int×Int×Int×Y3):=(NY N m.2.1 m.2.2.1 b).bind λa=>some (a.1,a.2.1,a.2.2.1,a.2.2.2.1,a.2.2.2.2.1,a.2.2.2.2.2.1,a.2.2.2.2.2.2)
theorem Rr(N m b r)(d:KC N m b=some r)(l)(c:AC)(n:Aa2 l c m):Does prog 53 #[vA (Ab m c),vI b] l [] (p1 (λs_=>vT #[vA #[vS r.1,s_,vI r.2.2.1,vI r.2.2.2.1,vI r.2.2.2.2.1,vI r.2.2.2.2.2.1],vB r.2.2.2.2.2.2]) 136 Ab3 r.2.1):=by
 unfold KC at d
 refine Ak follows func53 Z 14 Z _ fz2 (λe=> ?_)
 refine Ad<|rA Z λg=>rA Z λh=>rz Z<|Ad<|rm 5 [1,1] Z<|kB d λa i d=>gS (Ls:=[(LE h (V4 (⟨#[]⟩)) nS 0 0 0 0),[(g,35,(Ab m c))]]) (cF qM) (λo w z_=>fy N m.2.1 m.2.2.1 b _ i z_.view c.1 (V1 z_.ro_cell n.1) c.2.1 ((Ay n.2.1) o w z_)) (λf j k=> ?_)
 refine rn 2 Z<|r_s (V2 [(Iv h a.1 f a.2.2.1 a.2.2.2.1 a.2.2.2.2.1 a.2.2.2.2.2.1),[(g,35,(Ab m c))],j]) 0 _ _ _ _ _ (#[vS a.1,f,vI a.2.2.1,vI a.2.2.2.1,vI a.2.2.2.2.1,vI a.2.2.2.2.2.1]) Z Z Z Z (.ofS Z Z (Ae Z (sS k (Ae Z (Ae Z (Ae Z (Ae Z AD))))))) Z Z<|rz Z ?_
 cases d
 refine AU (λp=>Iq (v0:=vT #[vA #[vS a.1,f,vI a.2.2.1,vI a.2.2.2.1,vI a.2.2.2.2.1,vI a.2.2.2.2.2.1],vB a.2.2.2.2.2.2]) k (Fu (W5 [(Iv h a.1 f a.2.2.1 a.2.2.2.1 a.2.2.2.2.1 a.2.2.2.2.2.1),[(g,35,(Ab m c))],j] [2] Z)) Z (Jg (Bf p 0 Z Z Z) Z))
end Go.Proofs.YtjnanfkpdhmnpaaGreatDoor
