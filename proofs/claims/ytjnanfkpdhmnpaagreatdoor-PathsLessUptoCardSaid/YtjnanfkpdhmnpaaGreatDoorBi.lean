import Derived.Test.YtjnanfkpdhmnpaaGreatDoorBh
namespace Go.Proofs.YtjnanfkpdhmnpaaGreatDoor
open Go Go.RowKit Go.Eng _root_.Go.Proofs.Tryz
set_option linter.unusedSimpArgs false
set_option linter.unusedVariables false
set_option maxRecDepth 100000
set_option maxHeartbeats 80000000
abbrev Nj(b:Nat)(x0:W2)(x1:Int)(x2 x3:Y2)(x4:Int)(x5:Y2)(x6:Int):Y0 Bl:=[(b,111, #[vS x0,vI x1,x2,x3,vI x4,x5,vI x6])]
abbrev iw(b:Nat)(x0:Y2):Y0 Bl:=[(b,29, #[x0])]
abbrev Wq(b:Nat)(x0:Y2):Y0 Bl:=[(b,166, #[x0])]
abbrev cN(b:Nat)(x0:Y2):Y0 Bl:=[(b,101, #[x0])]
abbrev Qv(b:Nat)(x0 x1:Int)(x2 x3:Y2)(x4 x5:Int):Y0 Bl:=[(b,88, #[vI x0,vI x1,x2,x3,vI x4,vI x5])]
abbrev Oh(b:Nat)(x0 x1:Int):Y0 Bl:=[(b,133, #[vI x0,vI x1])]
abbrev RM(b:Nat)(x0:W2)(x1:Y2)(x2 x3 x4 x5:Int):Y0 Bl:=[(b,97, #[vS x0,x1,vI x2,vI x3,vI x4,vI x5])]
def Js(N:Nat)(c:Ao):Y1 (Int×Int):=(Ok N c.2.2.2.2.2.1 32 c).bind λa=>some (a.1,a.2)
theorem WQ(N c r)(b:Js N c=some r)(f)(a:AC)(g:Aa2 f a c):DoesI prog 35 #[vA (Ab c a)] Gt f [] (pV (vT #[vI r.1,vI r.2])):=by
 unfold Js at b
 refine Bq follows func35 Z 12 Z _ fz1 Bm (λd=> ?_)
 refine Ad<|rA Z λh=>rz Z<|Ad<|rm 4 [0,0] Z<|r_W (vF 85 #[vA (Ab c a)] #[]) Z (JL Z Z)<|kB b λi e b=>gV _ (cF tH) (λo w z_=>WC N _ 32 c _ e z_.view a.2.2.2.2.1 (V1 z_.ro_cell g.2.2.2.2.1) a (Aa2.mono z_.ro_cell g))<|rz Z ?_
 cases b
 exact aR eV2
def Nv(_:Nat)(a:W2)(_:Int)(_:Y0 (Int×Int×Int))(_:Y0 Int)(_:Int)(_:Y0 (Int×W3))(_:Int):Y1 (W2):=some a
theorem UY(N d e f g h i j r)(m:Nv N d e f g h i j=some r)(l:Ro)(a:Y2)(_hx_2:Rd Ac9 l a f)(b:Y2)(_hx_3:Rd Ca l b g)(c:Y2)(_hx_5:Rd Ac6 l c i):Does prog 87 #[vA #[vS d,vI e,a,b,vI h,c,vI j]] l [] (pV (vS r)):=by
 unfold Nv at m
 refine Ak follows func87 Z 5 Z _ fz1 (λk=> ?_)
 refine Ad<|rA Z λn=>rz Z<|AY [0] Z ?_
 cases m
 exact aR eV1
def Ji(N:Nat)(b:Y0 ((W2)×Int×(Y0 (Int×Int×Int))×(Y0 Int)×Int×(Y0 (Int×W3))×Int)):Nat->Y0 (W2)->Int->Y1 (Y0 (W2))
  |0,_,_=>none
  |e+1,c,a=>if a<(b.length:Int)then ck (0<=a/\a<(b.length:Int)) ((Nv N (b[a.toNat]!.1) (b[a.toNat]!.2.1) (b[a.toNat]!.2.2.1) (b[a.toNat]!.2.2.2.1) (b[a.toNat]!.2.2.2.2.1) (b[a.toNat]!.2.2.2.2.2.1) (b[a.toNat]!.2.2.2.2.2.2)).bind λd=>ck (0<=a/\a<(c.length:Int)) (ck (R64 (a+1)) ((Ji N b e) ((c).set (a.toNat) d) (a+1))))else some c
def Pn(N:Nat)(a:Y0 ((W2)×Int×(Y0 (Int×Int×Int))×(Y0 Int)×Int×(Y0 (Int×W3))×Int)):Y1 (Y0 (W2)):=ck (0<=(a.length:Int)/\(a.length:Int)<=8796093022208) (Ji N a N ((List.replicate ((a.length:Int)).toNat ([]))) 0)
theorem Yt(N b r)(c:Pn N b=some r)(L v)(j:RdN Ad4 L v b):Does prog 154 #[v,vF 87 #[] #[]] L [] (p1 (λs_=>s_) 9 Aa4 r):=by
 unfold Pn at c
 refine Ak follows func154 Z 26 Z _ fz2 (λF=> ?_)
 refine AZ Z<|Ad<|rn 1 Z<|rL (W9 j) Z<|kC c λG c=>cB 10<|Ta (Ls:=[]) 9 Aa4 ([]) (b.length:Int) Z Z Z Z Z Z Z Z Z Z 8796093022208 Z G (λ_ _ _ _ _=>Iff.rfl) (λH K M=> ?_)
 refine rz Z<|Aa λQ I=>Ad<|rn 1 Z<|rL (W9 j) Z<|rz Z<|Ai<|BF _ (W5 [K] [0] Z)<|AL (λtt ll nn=> ∃(s:Nat) (h:Y0 (W2)) (a:Int),(Ji N b s h a=some r)/\ ∃(d:Y0 Bl),Sl 9 Aa4 H h d/\Is [(1,vF 87 #[] #[]),(5,H),(11,v),(12,vI (b.length:Int)),(13,vI a)] (V2 [d]) tt ll/\nn=s+1) (N+1) ?_ ?_
 ·exact⟨N,(List.replicate ((b.length:Int)).toNat ([])),0,c,K,M,Ag Z Z,Z⟩
 clear c;rintro t l _ ⟨s,h,a,c,d,i,⟨⟨T,rfl⟩,rfl⟩,rfl⟩
 rcases s with _|s
 ·exact absurd c (by simp [Ji])
 rw [Ji] at c
 refine AZ Z<|Aa λO x=>aD c Z (λy c=> ?_) (λy c=> ?_)
 ·refine Ac<|x _ _ ?_
  refine Aa λP z=>Ai<|Ad<|rn 1 Z<|kC c λk c=> ?_
  obtain⟨_,⟨e,f,g,m,n,p,rfl⟩,hat22⟩:=RdN.at (E:=Ad4) j (Cp k)
  refine rI (W9 j) k Z<|Mk (vA #[vS (b[a.toNat]!.1),vI (b[a.toNat]!.2.1),e,f,vI (b[a.toNat]!.2.2.2.2.1),g,vI (b[a.toNat]!.2.2.2.2.2.2)]) (vs:=[vS (b[a.toNat]!.1),vI (b[a.toNat]!.2.1),e,f,vI (b[a.toNat]!.2.2.2.2.1),g,vI (b[a.toNat]!.2.2.2.2.2.2)]) (a.toNat*7) 0 Z Z (λo w z_=>At.mono z_.ro_cell hat22) Z<|rA Z λu=>rn 1 Z<|r_s (V2 [(Nj u (b[a.toNat]!.1) (b[a.toNat]!.2.1) e f (b[a.toNat]!.2.2.2.2.1) g (b[a.toNat]!.2.2.2.2.2.2)),d]) 0 _ _ _ _ _ (#[vS (b[a.toNat]!.1),vI (b[a.toNat]!.2.1),e,f,vI (b[a.toNat]!.2.2.2.2.1),g,vI (b[a.toNat]!.2.2.2.2.2.2)]) Z Z Z Z (.ofS Z Z (Ae Z (Ae Z (sR m (sR n (Ae Z (sR p (Ae Z AD)))))))) Z Z<|Aj<|Ah<|rn 3 Z ?_
  refine rm 1 [0] Z<|kB c λA B c=>gV _ (Cc (caps:=[]) Z tD Z) (λo w z_=>UY N _ _ _ _ _ _ _ _ B z_.view e (z_.r m) f (z_.r n) g (z_.r p))<|kC c λq c=>rI (W7 i) q Z<|QR (Ls:=[(Nj u (b[a.toNat]!.1) (b[a.toNat]!.2.1) e f (b[a.toNat]!.2.2.2.2.1) g (b[a.toNat]!.2.2.2.2.2.2)),d]) 1 (En:=Aa4) (h[a.toNat]!) A (a.toNat) 0 Z Z Z i (Cp q) Z Z Z (It Z) Z (λC J=> ?_)
  refine Aj<|z _ _ ?_
  refine Ah<|kC c λD c=>rX D Z<|rz Z<|fg _ (W5 [(Nj u (b[a.toNat]!.1) (b[a.toNat]!.2.1) e f (b[a.toNat]!.2.2.2.2.1) g (b[a.toNat]!.2.2.2.2.2.2)),C] [1] Z) ?_
  exact⟨s+1,by omega,s,(h).set (a.toNat) A,(a+1),c,C,J,Ag Z Z,Z⟩
 refine AM<|I _ _ ?_
 refine AZ Z ?_
 cases c
 refine AU (λR=>Iq (v0:=H) i (Fu (W5 [d] [0] Z)) Z (Gl Z))
def Gn(_:Nat)(n a b:Int):Y1 Y3:=if n>=a then some (decide (n<=b))else some false
theorem PQ(N n a b r)(c:Gn N n a b=some r):Gives prog 157 #[vI n,vI a,vI b] (vB r):=by
 unfold Gn at c
 refine Au follows func157 Z 15 Z _ fz3 (λf=> ?_)
 refine AZ Z<|Aa λg d=>Ah<|rn 4 Z ?_
 rcases e:(decide (n>=a))with _|_
 ·replace c:=iF e c
  refine rz Z<|d _ _ ?_
  cases c
  exact aR eE1
 replace c:=iD e c
 refine rz Z<|d _ _ ?_
 cases c
 exact aR eE1
def GS(N:Nat)(a:Y0 ((W2)×(Y0 Int)×(Y0 (W1))))(i:Int):Y1 Y3:=ck ((R64 ((a.length:Int) - 1))) ((AG N i 0 ((a.length:Int) - 1)).bind λb=>some b)
theorem Ns(N g i r)(a:GS N g i=some r)(h b)(f:RdN Ac7 h b g):Does prog 222 #[b,vI i] h [] (pV (vB r)):=by
 unfold GS at a
 refine Ak follows func222 Z 10 Z _ fz2 (λc=> ?_)
 refine AZ Z<|Ad<|rn 2 Z<|rL (W9 f) Z<|kC a λd a=>rX d Z<|kB a λj e a=>rc _ (cF FK) (Ba N i 0 _ _ e)<|rz Z ?_
 cases a
 exact aR eV1
def JS(N:Nat)(_ a:Int)(b:Ao):Y1 Int:=(GS N b.2.2.2.2.2.1 a).bind λc=>(Ap N c 5).bind λd=>some d
theorem Ve(N x a c r)(f:JS N x a c=some r)(k)(d:Nat)(b:AC)(g:Aa2 k b c)(e:Blk k d (Hr c b)):Does prog 221 #[vI x,vI a,vP d 0] k [] (pV (vI r)):=by
 unfold JS at f
 refine Ak follows func221 Z 12 Z _ fz3 (λh=> ?_)
 refine AZ Z<|Ad<|rn 2 Z<|Ii b.2.2.2.2.1 (vs:=(Hr c b)) (o:=5) Z Z (Bg e) Z<|rn 1 Z<|kB f λl i f=>gV _ (cF Xk) (λo w z_=>Ns N _ a _ i z_.view b.2.2.2.2.1 (V1 z_.ro_cell g.2.2.2.2.1))<|kB f λm j f=>rc _ (cF Bw) (AE N l 5 _ j)<|rz Z ?_
 cases f
 exact aR eV1
def KS(N:Nat)(c:Y0 Int)(b:Ao):Nat->Int->Y1 (Int×Int)
  |0,_=>none
  |e+1,a=>if a<(c.length:Int)then ck (0<=a/\a<(c.length:Int)) ((JS N a (c[a.toNat]!) b).bind λd=>if(d:Int)≠0 then some (a,d)else ck (R64 (a+1)) ((KS N c b e) (a+1)))else some (0,0)
def OP(N:Nat)(c:Y0 Int)(b:Int)(a:Ao):Y1 (Int×Int):=if(c.length:Int)>b then some (0,2)else KS N c a N 0
theorem cZ(N y j c r)(b:OP N y j c=some r)(z m)(h:Rd Ca z m y)(a:Nat)(d:AC)(g:Aa2 z d c)(e:Blk z a (Hr c d)):Does prog 90 #[m,vI j,vF 221 #[] #[vP a 0]] z [] (pV (vT #[vI r.1,vI r.2])):=by
 unfold OP at b
 refine Ak follows func90 Z 31 Z _ fz3 (λx=> ?_)
 refine AZ Z<|Aa λG A=>Ad<|rn 1 Z<|rL (W8 h) Z<|rz Z<|aD b Z (λB b=> ?_) (λB b=> ?_)
 ·refine AZ Z ?_
  cases b
  exact aR eV2
 refine Ac<|A _ _ ?_
 refine Aa λH C=>Ad<|rn 1 Z<|rL (W8 h) Z<|rz Z<|Ai<|AL (λtt ll nn=> ∃(k:Nat) (f:Int),(KS N y c k f=some r)/\Is [(2,vF 221 #[] #[vP a 0]),(15,m),(16,vI (y.length:Int)),(17,vI f)] [] tt ll/\nn=k+1) (N+1) ?_ ?_
 ·exact⟨N,0,b,Ag Z Z,Z⟩
 clear b;rintro t l _ ⟨k,f,b,⟨⟨T,rfl⟩,rfl⟩,rfl⟩
 rcases k with _|k
 ·exact absurd b (by simp [KS])
 rw [KS] at b
 refine AZ Z<|Aa λD n=>aD b Z (λp b=> ?_) (λp b=> ?_)
 ·refine Ac<|n _ _ ?_
  refine Aa λE q=>Ai<|Ad<|rn 1 Z<|kC b λi b=>rI (W8 h) i Z<|rE (Ay h) i 0 Z<|rz Z<|Ad<|rn 3 Z<|kB b λF s b=>gV _ (Cc (caps:=[vP a 0]) Z pi Z) (λo w z_=>Ve N f _ c _ s z_.view a d (Aa2.mono z_.ro_cell g) (Bg e o w z_))<|rz Z<|AZ Z<|aN b Z (λu b=> ?_) (λu b=> ?_)
  ·refine AZ Z ?_
   cases b
   exact aR eV2
  refine Ac<|q _ _ ?_
  refine Ah<|kC b λv b=>rX v Z<|rz Z<|fg _ (Sub.of suN) ?_
  exact⟨k+1,by omega,k,(f+1),b,Ag Z Z,Z⟩
 refine AM<|C _ _ ?_
 refine AZ Z ?_
 cases b
 exact aR eV2
def CS(s:Y0 Int)(b:Int):Nat->Int->Y1 Int
  |0,_=>none
  |c+1,a=>if a<(s.length:Int)then ck (0<=a/\a<(s.length:Int)) (if b=s[a.toNat]! then some a else ck (R64 (a+1)) ((CS s b c) (a+1)))else some (-1)
def IE(N:Nat)(s:Y0 Int)(a:Int):Y1 Int:=CS s a N 0
theorem QW(N s h r)(a:IE N s h=some r)(p n)(o:Rd Ca p n s):Does prog 167 #[n,vI h] p [] (pV (vI r)):=by
 unfold IE at a
 refine Ak follows func167 Z 19 Z _ fz2 (λg=> ?_)
 refine AZ Z<|Aa λq i=>Ad<|rn 1 Z<|rL (W8 o) Z<|rz Z<|Ai<|AL (λtt ll nn=> ∃(d:Nat) (b:Int),(CS s h d b=some r)/\Is [(0,n),(1,vI h),(7,vI (s.length:Int)),(8,vI b)] [] tt ll/\nn=d+1) (N+1) ?_ ?_
 ·exact⟨N,0,a,Ag Z Z,Z⟩
 clear a;rintro t l _ ⟨d,b,a,⟨⟨T,rfl⟩,rfl⟩,rfl⟩
 rcases d with _|d
 ·exact absurd a (by simp [CS])
 rw [CS] at a
 refine AZ Z<|Aa λu j=>aD a Z (λk a=> ?_) (λk a=> ?_)
 ·refine Ac<|j _ _ ?_
  refine Aa λv m=>Ai<|AZ Z<|Ad<|rn 3 Z<|kC a λc a=>rI (W8 o) c Z<|rE (Ay o) c 0 Z<|rz Z<|aE a Z (λe a=> ?_) (λe a=> ?_)
  ·refine AZ Z ?_
   cases a
   exact aR eV1
  refine Ac<|m _ _ ?_
  refine Ah<|kC a λf a=>rX f Z<|rz Z<|fg _ (Sub.of suN) ?_
  exact⟨d+1,by omega,d,(b+1),a,Ag Z Z,Z⟩
 refine AM<|i _ _ ?_
 refine AZ Z ?_
 cases a
 exact aR eV1
def BC(N:Nat)(s:Y0 Int)(b:Int):Y1 Y3:=(IE N s b).bind λa=>some (decide (a>=0))
theorem Jd(N s d r)(a:BC N s d=some r)(f e)(g:Rd Ca f e s):Does prog 93 #[e,vI d] f [] (pV (vB r)):=by
 unfold BC at a
 refine Ak follows func93 Z 9 Z _ fz2 (λb=> ?_)
 refine AZ Z<|Ad<|rn 2 Z<|kB a λh c a=>gV _ (cF pZ) (λo w z_=>QW N s d _ c z_.view e (z_.r g))<|rz Z ?_
 cases a
 exact aR eV1
def JR(N:Nat)(i a:Int)(b:Y0 Int):Y1 Int:=ck (0<=i/\i<=(b.length:Int)) ((BC N (((b).take (i.toNat)).drop 0) a).bind λc=>(Ap N (!(c)) 6).bind λd=>some d)
theorem Vd(N i a g r)(c:JR N i a g=some r)(m)(d:Nat)(b)(e:Rd Ca m b g)(f:Blk m d [b]):Does prog 223 #[vI i,vI a,vP d 0] m [] (pV (vI r)):=by
 unfold JR at c
 refine Ak follows func223 Z 13 Z _ fz3 (λj=> ?_)
 refine AZ Z<|Ad<|Ii b (vs:=[b]) (o:=0) Z Z (Bg f) Z<|rn 1 Z<|kC c λh c=>r_W (GX b 0 (i.toNat) 1) Z (GV (ID Z Z Z Z (W8 e) h))<|rn 1 Z<|kB c λn k c=>gV _ (cF bt) (λo w z_=>Jd N _ a _ k z_.view (GX b 0 (i.toNat) 1) ((Ql (Ay e) (Nat.zero_le _) (Fy h.2)) o w z_))<|rn 1 Z<|kB c λp l c=>rc _ (cF Bw) (AE N (!(n)) 6 _ l)<|rz Z ?_
 cases c
 exact aR eV1
def KR(N:Nat)(c b:Y0 Int):Nat->Int->Y1 (Int×Int)
  |0,_=>none
  |e+1,a=>if a<(c.length:Int)then ck (0<=a/\a<(c.length:Int)) ((JR N a (c[a.toNat]!) b).bind λd=>if(d:Int)≠0 then some (a,d)else ck (R64 (a+1)) ((KR N c b e) (a+1)))else some (0,0)
def OO(N:Nat)(c:Y0 Int)(b:Int)(a:Y0 Int):Y1 (Int×Int):=if(c.length:Int)>b then some (0,2)else KR N c a N 0
theorem cY(N y j c r)(b:OO N y j c=some r)(z m)(h:Rd Ca z m y)(a:Nat)(d)(g:Rd Ca z d c)(e:Blk z a [d]):Does prog 90 #[m,vI j,vF 223 #[] #[vP a 0]] z [] (pV (vT #[vI r.1,vI r.2])):=by
 unfold OO at b
 refine Ak follows func90 Z 31 Z _ fz3 (λx=> ?_)
 refine AZ Z<|Aa λG A=>Ad<|rn 1 Z<|rL (W8 h) Z<|rz Z<|aD b Z (λB b=> ?_) (λB b=> ?_)
 ·refine AZ Z ?_
  cases b
  exact aR eV2
 refine Ac<|A _ _ ?_
 refine Aa λH C=>Ad<|rn 1 Z<|rL (W8 h) Z<|rz Z<|Ai<|AL (λtt ll nn=> ∃(k:Nat) (f:Int),(KR N y c k f=some r)/\Is [(2,vF 223 #[] #[vP a 0]),(15,m),(16,vI (y.length:Int)),(17,vI f)] [] tt ll/\nn=k+1) (N+1) ?_ ?_
 ·exact⟨N,0,b,Ag Z Z,Z⟩
 clear b;rintro t l _ ⟨k,f,b,⟨⟨T,rfl⟩,rfl⟩,rfl⟩
 rcases k with _|k
 ·exact absurd b (by simp [KR])
 rw [KR] at b
 refine AZ Z<|Aa λD n=>aD b Z (λp b=> ?_) (λp b=> ?_)
 ·refine Ac<|n _ _ ?_
  refine Aa λE q=>Ai<|Ad<|rn 1 Z<|kC b λi b=>rI (W8 h) i Z<|rE (Ay h) i 0 Z<|rz Z<|Ad<|rn 3 Z<|kB b λF s b=>gV _ (Cc (caps:=[vP a 0]) Z ph Z) (λo w z_=>Vd N f _ c _ s z_.view a d (z_.r g) (Bg e o w z_))<|rz Z<|AZ Z<|aN b Z (λu b=> ?_) (λu b=> ?_)
  ·refine AZ Z ?_
   cases b
   exact aR eV2
  refine Ac<|q _ _ ?_
  refine Ah<|kC b λv b=>rX v Z<|rz Z<|fg _ (Sub.of suN) ?_
  exact⟨k+1,by omega,k,(f+1),b,Ag Z Z,Z⟩
 refine AM<|C _ _ ?_
 refine AZ Z ?_
 cases b
 exact aR eV2
def IW(N:Nat)(c:Ao)(a:Y0 Int):Y1 Int:=(OP N a 8 c).bind λf=>(OO N a 8 a).bind λe=>(Ap N (decide ((a.length:Int)>0)) 5).bind λb=>(AO N ([b,f.2,e.2])).bind λd=>some d
theorem YG(N c g r)(d:IW N c g=some r)(v)(h:AC)(z:Aa2 v h c)(a)(b:Rd Ca v a g):Does prog 158 #[vA (Ab c h),a] v [] (pV (vI r)):=by
 unfold IW at d
 refine Ak follows func158 Z 29 Z _ fz2 (λi=> ?_)
 refine Ad<|rA Z λj=>r_a (29, #[a]) Z Z (Oz Z (W8 b)) (λl=> ?_) (.inr Z)
 refine rz Z<|Ad<|rm 1 [0] Z<|r_W (vF 221 #[] #[vP j 0]) Z (Jt Z)<|kB d λx m d=>gV _ (cF Vt) (λo w z_=>cZ N g 8 c _ m z_.view a ((Ay b) o w z_) j h (Aa2.mono z_.ro_cell z) (Da 1 Z Z o w z_))<|rz Z<|Ad<|rm 1 [0] Z<|r_W (vF 223 #[] #[vP l 0]) Z (Jt Z)<|kB d λy n d=>gV _ (cF Vt) (λo w z_=>cY N g 8 g _ n z_.view a ((Ay b) o w z_) l a ((Ay b) o w z_) (Da 0 Z Z o w z_))<|rz Z<|Ad<|rm 1 [0] Z<|rL (W8 b) Z<|rn 1 Z<|kB d λp e d=>rc _ (cF Bw) (AE N _ 5 _ e)<|rn 2 Z<|gB (Ls:=[(iw l a),[(j,75,(Ab c h))]]) 51 Ca [p,x.2,y.2] (λq s t=> ?_)
 refine kB d λu f d=>gV _ (cF Fo) (λo w z_=>Co N _ _ f z_.view q ((AB t (Al (Ls:=[(iw l a),[(j,75,(Ab c h))],s]) (k:=2) Z Z)) o w z_))<|rz Z<|CJ [(4,vI u)] Z (λT=> ?_)
 cases d
 exact aR eV1
def Lv(N:Nat)(i c:Int)(b:W3)(a:Y0 Int):Y1 Int:=ck (0<=i/\i<(a.length:Int)) ((Gu N c b (a[i.toNat]!)).bind λd=>(Ap N d 9).bind λe=>some e)
theorem YJ(N i g b h r)(c:Lv N i g b h=some r)(p)(d:Nat)(a)(e:Rd Ca p a h)(f:Blk p d [a]):Does prog 225 #[vI i,vA #[vI g,U (hi b),U (lo b)],vP d 0] p [] (pV (vI r)):=by
 unfold Lv at c
 refine Ak follows func225 Z 13 Z _ fz3 (λk=> ?_)
 refine Ad<|rA Z λs=>rz Z<|Aa λt l=>HS [] (by decide+kernel) (λu=>AN)<|rm 1 [0] Z<|Ii a (vs:=[a]) (o:=0) Z Z (Bg f) Z<|rn 1 Z<|kC c λj c=>rI (W8 e) j Z<|rE (Ay e) j 0 Z<|kB c λq m c=>rc _ (cF Xl) (Ph N g b _ _ m)<|kB c λv n c=>rc _ (cF Bw) (AE N q 9 _ n)<|rz Z<|l _ _ ?_
 cases c
 exact aR eV1
def KX(N:Nat)(c:Y0 (Int×W3))(b:Y0 Int):Nat->Int->Y1 (Int×Int)
  |0,_=>none
  |e+1,a=>if a<(c.length:Int)then ck (0<=a/\a<(c.length:Int)) ((Lv N a ((c[a.toNat]!).1) ((c[a.toNat]!).2) b).bind λd=>if(d:Int)≠0 then some (a,d)else ck (R64 (a+1)) ((KX N c b e) (a+1)))else some (0,0)
def OV(N:Nat)(c:Y0 (Int×W3))(b:Int)(a:Y0 Int):Y1 (Int×Int):=if(c.length:Int)>b then some (0,2)else KX N c a N 0
theorem df(N y j c r)(b:OV N y j c=some r)(z m)(h:Rd Ac6 z m y)(a:Nat)(d)(g:Rd Ca z d c)(e:Blk z a [d]):Does prog 224 #[m,vI j,vF 225 #[] #[vP a 0]] z [] (pV (vT #[vI r.1,vI r.2])):=by
 unfold OV at b
 refine Ak follows func224 Z 31 Z _ fz3 (λx=> ?_)
 refine AZ Z<|Aa λH A=>Ad<|rn 1 Z<|rL (W8 h) Z<|rz Z<|aD b Z (λB b=> ?_) (λB b=> ?_)
 ·refine AZ Z ?_
  cases b
  exact aR eV2
 refine Ac<|A _ _ ?_
 refine Aa λI C=>Ad<|rn 1 Z<|rL (W8 h) Z<|rz Z<|Ai<|AL (λtt ll nn=> ∃(k:Nat) (f:Int),(KX N y c k f=some r)/\Is [(2,vF 225 #[] #[vP a 0]),(15,m),(16,vI (y.length:Int)),(17,vI f)] [] tt ll/\nn=k+1) (N+1) ?_ ?_
 ·exact⟨N,0,b,Ag Z Z,Z⟩
 clear b;rintro t l _ ⟨k,f,b,⟨⟨T,rfl⟩,rfl⟩,rfl⟩
 rcases k with _|k
 ·exact absurd b (by simp [KX])
 rw [KX] at b
 refine AZ Z<|Aa λD n=>aD b Z (λp b=> ?_) (λp b=> ?_)
 ·refine Ac<|n _ _ ?_
  refine Aa λE q=>Ai<|Ad<|rn 1 Z<|kC b λi b=>rI (W8 h) i Z<|rE (Ay h) i 0 Z<|rA Z λF=>ry [0] Z<|Ad<|rm 3 [0] Z<|kB b λG s b=>gV _ (Cc (caps:=[vP a 0]) Z pf Z) (λo w z_=>YJ N f _ _ c _ s z_.view a d (z_.r g) (Bg e o w z_))<|rz Z<|AZ Z<|aN b Z (λu b=> ?_) (λu b=> ?_)
  ·refine AZ Z ?_
   cases b
   exact aR eV2
  refine Ac<|q _ _ ?_
  refine Ah<|kC b λv b=>rX v Z<|rz Z<|fg _ (Sub.of (suC _ suN)) ?_
  exact⟨k+1,by omega,k,(f+1),b,Ag Z Z,Z⟩
 refine AM<|C _ _ ?_
 refine AZ Z ?_
 cases b
 exact aR eV2
def Jz(N:Nat)(c:Ao)(a:Int)(b:Y0 (Int×W3)):Y1 Int:=(GS N c.2.2.2.2.2.1 a).bind λe=>if e=true then ck (0<=a/\a<(c.2.2.2.2.2.1.length:Int)) (if(b.length:Int)≠(((c.2.2.2.2.2.1)[a.toNat]!.2.1).length:Int)then some 2 else(OV N b (b.length:Int) ((c.2.2.2.2.2.1)[a.toNat]!.2.1)).bind λd=>some d.2)else some 5
theorem UI(N c a x r)(b:Jz N c a x=some r)(y)(p:AC)(q:Aa2 y p c)(i)(j:Rd Ac6 y i x):Does prog 159 #[vA (Ab c p),vI a,i] y [] (pV (vI r)):=by
 unfold Jz at b
 refine Ak follows func159 Z 37 Z _ fz3 (λn=> ?_)
 refine Ad<|rA Z λA=>rz Z<|Aa λC s=>Ad<|rm 4 [0] Z<|kB b λD t b=>gV _ (cF Xk) (λo w z_=>Ns N _ a _ t z_.view p.2.2.2.2.1 (V1 z_.ro_cell q.2.2.2.2.1))<|rz Z<|BS _ Z (λg=> ?_) (λg=> ?_)
 ·replace b:=ifn (Bool.eq_false_iff.1 (DG g)) b
  refine AZ Z ?_
  cases b
  exact aR eV1
 replace b:=ifp (DH g) b
 refine Ac<|s _ _ ?_
 refine Ad<|rm 4 [0] Z<|kC b λe b=> ?_
 obtain⟨_,⟨f,u,d,z,rfl⟩,hat15⟩:=RdN.at (E:=Ac7) q.2.2.2.2.1 (Cp e)
 refine rI (W9 q.2.2.2.2.1) e Z<|rF (W9 q.2.2.2.2.1) (Bp e) Z<|Mk f (vs:=[vS ((c.2.2.2.2.2.1)[a.toNat]!.1),f,u]) (a.toNat*3) 1 Z Z (λo w z_=>At.mono z_.ro_cell hat15) Z<|rA Z λh=>r_s [(h,29, #[f]),(A,75,(Ab c p))] 0 _ _ _ _ _ (#[f]) Z Z Z (CR Z (W8 d)) (.ofS Z Z (sR d AD)) Z Z<|Aj<|Aa λB k=>Ad<|rn 1 Z<|rL (W8 j) Z<|rm 1 [0] Z<|rL (W8 d) Z<|rz Z ?_
 refine aN b Z (λl b=> ?_) (λl b=> ?_)
 ·refine AZ Z ?_
  cases b
  exact aR eV1
 refine Ac<|k _ _ ?_
 refine Ad<|rn 2 Z<|rL (W8 j) Z<|r_W (vF 225 #[] #[vP h 0]) Z (Jt Z)<|kB b λv m b=>gV _ (cF pg) (λo w z_=>df N x _ _ _ m z_.view i ((Ay j) o w z_) h f (z_.r d) (Da 0 Z Z o w z_))<|rz Z<|CJ [(9,vI v.2)] Z (λT=> ?_)
 refine AZ Z ?_
 cases b
 exact aR eV1
def JG(N:Nat)(c:Ao)(_:W2)(i:Int)(d:Y0 (Int×Int×Int))(b:Y0 Int)(a:Int)(h:Y0 (Int×W3))(m:Int):Y1 Int:=(Gn N i 0 3).bind λq=>(Ap N q 10).bind λr=>(Ap N (decide ((d.length:Int)>0)) 5).bind λp=>(IU N c d 2).bind λg=>(IW N c b).bind λl=>(BC N b a).bind λf=>(Ap N f 16).bind λe=>(Jz N c a h).bind λo=>(AG N m 1 256).bind λj=>(Ap N j 7).bind λk=>(AO N ([r,p,g,l,e,o,k])).bind λn=>some n
theorem aS(N c z n p f d y q r)(a:JG N c z n p f d y q=some r)(W)(F:AC)(hc:Aa2 W F c)(g)(B:Rd Ac9 W g p)(e)(C:Rd Ca W e f)(h)(X:Rd Ac6 W h y):DoesI prog 88 #[vA (Ab c F),vA #[vS z,vI n,g,e,vI d,h,vI q]] Gt W [] (pV (vI r)):=by
 unfold JG at a
 refine Bq follows func88 Z 43 Z _ fz2 Bm (λY=> ?_)
 refine Ad<|rA Z λb2=>rA Z λb3=>rz Z<|Aa λK4 aa=> ?_
 refine BO [(some 17,false),(some 21,false),(some 27,false),(some 36,false),(some 41,false),(some 42,false)] (conG prog [(17,cV (IU N c p 2) λb=>vI b),(21,cV (IW N c f) λb=>vI b),(27,cV (BC N f d) λb=>vB b),(36,cV (Jz N c d y) λb=>vI b),(42,λ_ _ v_ L_ U_=> ∀b,Gn N n 0 3=some b-> ∀G,Ap N b 10=some G-> ∀H,Ap N (decide ((p.length:Int)>0)) 5=some H-> ∀I,IU N c p 2=some I-> ∀J,IW N c f=some J-> ∀K,BC N f d=some K-> ∀L,Ap N K 16=some L-> ∀M,Jz N c d y=some M-> ∀O,AG N q 1 256=some O-> ∀P,Ap N O 7=some P-> ∀A,AO N ([G,H,I,J,L,M,P])=some A->(pV (vI A)) v_ L_ U_)]) [] (by decide+kernel) (λhn=>AN) ?_
 refine rm 2 [0] Z<|kB a λr5 D a=>rc _ (cF qi) (PQ N n 0 3 _ D)<|kB a λr7 E a=>rc _ (cF Bw) (AE N r5 10 _ E)<|rm 2 [0] Z<|rL (W8 B) Z<|rn 1 Z<|kB a λr9 s a=>rc _ (cF Bw) (AE N _ 5 _ s)<|rm 3 [1,0] Z<|kB a λQ i a=>rg _ (cF eC) (λo w z_=>WJ N c p 2 _ i z_.view F (Aa2.mono z_.ro_cell hc) g (z_.r B)) (Hq i)<|rm 3 [1,0] Z<|kB a λR j a=>rg _ (cF qh) (λo w z_=>(V3 (YG N c f _ j z_.view F (Aa2.mono z_.ro_cell hc) e (z_.r C)) _)) (Hq j)<|rm 5 [0,0] Z<|kB a λab l a=>rg _ (cF bt) (λo w z_=>(V3 (Jd N f d _ l z_.view e (z_.r C)) _)) (Hq l)<|kB a λS t a=>rc _ (cF Bw) (AE N ab 16 _ t)<|rm 7 [1,0,0] Z<|kB a λU m a=>rg _ (cF eB) (λo w z_=>(V3 (UI N c d y _ m z_.view F (Aa2.mono z_.ro_cell hc) h (z_.r X)) _)) (Hq m)<|rm 2 [0] Z<|kB a λac u a=>rc _ (cF FK) (Ba N q 1 256 _ u)<|kB a λV v a=>rc _ (cF Bw) (AE N ac 7 _ v) ?_
 refine KP (Ls:=[(Nj b3 z n g e d h q),[(b2,75,(Ab c F))]]) 51 Ca [r7,r9,Q,R,S,U,V] [vI r7,vI r9,vI Q,vI R,vI S,vI U,vI V] [vI 0,vI 0,vI 0,vI 0,vI 0,vI 0,vI 0] Z Z Z Z Z Z Z (by kernel_rfl) (by kernel_rfl) Z Z Z (λad ae af=> ?_)
 refine kB a λag x a=>rg _ (cF Fo) (λo w z_=>(V3 (Co N _ _ x z_.view ad ((AB af (Al (Ls:=[(Nj b3 z n g e d h q),[(b2,75,(Ab c F))],ae]) (k:=2) Z Z)) o w z_)) _)) (λ_ _ v_ L_ U_=>⟨λh_=>h_ _ D _ E _ s _ i _ j _ l _ t _ m _ u _ v _ x,λh_=>by intro _ e_;cases q3 (e_.symm.trans D);intro _ e_;cases q3 (e_.symm.trans E);intro _ e_;cases q3 (e_.symm.trans s);intro _ e_;cases q3 (e_.symm.trans i);intro _ e_;cases q3 (e_.symm.trans j);intro _ e_;cases q3 (e_.symm.trans l);intro _ e_;cases q3 (e_.symm.trans t);intro _ e_;cases q3 (e_.symm.trans m);intro _ e_;cases q3 (e_.symm.trans u);intro _ e_;cases q3 (e_.symm.trans v);intro _ e_;cases q3 (e_.symm.trans x);exact h_⟩) ?_
 refine rz Z<|aa _ _ ?_
 refine CJ [(4,vI ag)] Z (λT=> ?_)
 cases a
 exact aR eV1
def LF(N:Nat)(i:Int)(g:W2)(f:Int)(k:Y0 (Int×Int×Int))(h:Y0 Int)(c:Int)(e:Y0 (Int×W3))(l:Int)(b:Y0 (W2))(a:Ao):Y1 Int:=ck (0<=i/\i<(b.length:Int)) ((Fl N (b[i.toNat]!)).bind λn=>(Ap N n 4).bind λo=>(Bk N b i).bind λm=>(JG N a g f k h c e l).bind λd=>(AO N ([o,m,d])).bind λj=>some j)
theorem UR(N i g h y z j A l s a r)(n:LF N i g h y z j A l s a=some r)(D d)(O:Rd Ac9 D d y)(e)(P:Rd Ca D e z)(f)(Q:Rd Ac6 D f A)(B:Nat)(c)(u:Rd Aa4 D c s)(v:Blk D B [c])(C:Nat)(b:AC)(m:Aa2 D b a)(E:Blk D C [vF 88 #[vA (Ab a b)] #[]]):DoesI prog 156 #[vI i,vA #[vS g,vI h,d,e,vI j,f,vI l],vP B 0,vP C 0] Gt D [] (pV (vI r)):=by
 unfold LF at n
 refine Bq follows func156 Z 21 Z _ fz4 Bm (λR=> ?_)
 refine Ad<|rA Z λW=>rz Z<|Aa λK3 S=> ?_
 refine BO [(some 15,false),(some 18,false),(some 19,false),(some 20,false)] (conG prog [(15,cV (Bk N s i) λt=>vI t),(18,cV (JG N a g h y z j A l) λt=>vI t),(20,λ_ _ v_ L_ U_=> ∀t,Fl N (s[i.toNat]!)=some t-> ∀H,Ap N t 4=some H-> ∀I,Bk N s i=some I-> ∀J,JG N a g h y z j A l=some J-> ∀K,AO N ([H,I,J])=some K->(pV (vI K)) v_ L_ U_)]) [] (by decide+kernel) (λhn=>AN) ?_
 refine Ii c (vs:=[c]) (o:=0) Z Z (Bg v) Z<|rn 1 Z<|kC n λL n=>rI (W8 u) L Z<|rE (Ay u) L 0 Z<|kB n λr5 F n=>rc _ (cF Oy) (MH N _ _ F)<|kB n λX G n=>rc _ (cF Bw) (AE N r5 4 _ G)<|Ii c (vs:=[c]) (o:=0) Z Z (Bg v) Z<|rn 1 Z<|kB n λY p n=>rg _ (cF Pc) (λo w z_=>(V3 (IL N s i _ p z_.view c (z_.r u)) _)) (Hq p)<|Ii (vF 88 #[vA (Ab a b)] #[]) (vs:=[vF 88 #[vA (Ab a b)] #[]]) (o:=0) Z Z (Bg E) Z<|rm 1 [0] Z<|kB n λM q n=>rg _ (RB (bd:=[vA (Ab a b)]) (caps:=[]) Z tC Z) (λo w z_=>aS N _ g h y z j A l _ q z_.view b (Aa2.mono z_.ro_cell m) d (z_.r O) e (z_.r P) f (z_.r Q)) (Hq q) ?_
 refine KP (Ls:=[(Nj W g h d e j f l)]) 51 Ca [X,Y,M] [vI X,vI Y,vI M] [vI 0,vI 0,vI 0] Z Z Z Z Z Z Z (by kernel_rfl) (by kernel_rfl) Z Z Z (λT U V=> ?_)
 refine kB n λab x n=>rg _ (cF Fo) (λo w z_=>(V3 (Co N _ _ x z_.view T ((AB V (Al (Ls:=[(Nj W g h d e j f l),U]) (k:=1) Z Z)) o w z_)) _)) (λ_ _ v_ L_ U_=>⟨λh_=>h_ _ F _ G _ p _ q _ x,λh_=>by intro _ e_;cases q3 (e_.symm.trans F);intro _ e_;cases q3 (e_.symm.trans G);intro _ e_;cases q3 (e_.symm.trans p);intro _ e_;cases q3 (e_.symm.trans q);intro _ e_;cases q3 (e_.symm.trans x);exact h_⟩) ?_
 refine rz Z<|S _ _ ?_
 cases n
 exact aR eV1
def Jm(N:Nat)(c:Y0 ((W2)×Int×(Y0 (Int×Int×Int))×(Y0 Int)×Int×(Y0 (Int×W3))×Int))(d:Y0 (W2))(b:Ao):Nat->Int->Y1 (Int×Int)
  |0,_=>none
  |f+1,a=>if a<(c.length:Int)then ck (0<=a/\a<(c.length:Int)) ((LF N a (c[a.toNat]!.1) (c[a.toNat]!.2.1) (c[a.toNat]!.2.2.1) (c[a.toNat]!.2.2.2.1) (c[a.toNat]!.2.2.2.2.1) (c[a.toNat]!.2.2.2.2.2.1) (c[a.toNat]!.2.2.2.2.2.2) d b).bind λe=>if(e:Int)≠0 then some (a,e)else ck (R64 (a+1)) ((Jm N c d b f) (a+1)))else some (0,0)
def MY(N:Nat)(d:Y0 ((W2)×Int×(Y0 (Int×Int×Int))×(Y0 Int)×Int×(Y0 (Int×W3))×Int))(c:Int)(b:Y0 (W2))(a:Ao):Y1 (Int×Int):=if(d.length:Int)>c then some (0,2)else Jm N d b a N 0
theorem Yx(N g A h b r)(f:MY N g A h b=some r)(D C)(u:RdN Ad4 D C g)(d:Nat)(i)(s:Rd Aa4 D i h)(k:Blk D d [i])(e:Nat)(c:AC)(j:Aa2 D c b)(m:Blk D e [vF 88 #[vA (Ab b c)] #[]]):DoesI prog 155 #[C,vI A,vF 156 #[] #[vP d 0,vP e 0]] Gt D [] (pV (vT #[vI r.1,vI r.2])):=by
 unfold MY at f
 refine Bq follows func155 Z 31 Z _ fz3 Bm (λL=> ?_)
 refine AZ Z<|Aa λV M=>Ad<|rn 1 Z<|rL (W9 u) Z<|rz Z<|aD f Z (λO f=> ?_) (λO f=> ?_)
 ·refine AZ Z ?_
  cases f
  exact aR eV2
 refine Ac<|M _ _ ?_
 refine Aa λW P=>Ad<|rn 1 Z<|rL (W9 u) Z<|rz Z<|Ai<|AL (λtt ll nn=> ∃(B:Nat) (a:Int),(Jm N g h b B a=some r)/\Is [(2,vF 156 #[] #[vP d 0,vP e 0]),(15,C),(16,vI (g.length:Int)),(17,vI a)] [] tt ll/\nn=B+1) (N+1) ?_ ?_
 ·exact⟨N,0,f,Ag Z Z,Z⟩
 clear f;rintro t l _ ⟨B,a,f,⟨⟨T,rfl⟩,rfl⟩,rfl⟩
 rcases B with _|B
 ·exact absurd f (by simp [Jm])
 rw [Jm] at f
 refine AZ Z<|Aa λR F=>aD f Z (λG f=> ?_) (λG f=> ?_)
 ·refine Ac<|F _ _ ?_
  refine Aa λS H=>Ai<|Ad<|rn 1 Z<|kC f λv f=> ?_
  obtain⟨_,⟨n,p,q,x,y,z,rfl⟩,hat21⟩:=RdN.at (E:=Ad4) u (Cp v)
  refine rI (W9 u) v Z<|Mk (vA #[vS (g[a.toNat]!.1),vI (g[a.toNat]!.2.1),n,p,vI (g[a.toNat]!.2.2.2.2.1),q,vI (g[a.toNat]!.2.2.2.2.2.2)]) (vs:=[vS (g[a.toNat]!.1),vI (g[a.toNat]!.2.1),n,p,vI (g[a.toNat]!.2.2.2.2.1),q,vI (g[a.toNat]!.2.2.2.2.2.2)]) (a.toNat*7) 0 Z Z (λo w z_=>At.mono z_.ro_cell hat21) Z<|rA Z λQ=>rn 1 Z<|r_s (Nj Q (g[a.toNat]!.1) (g[a.toNat]!.2.1) n p (g[a.toNat]!.2.2.2.2.1) q (g[a.toNat]!.2.2.2.2.2.2)) 0 _ _ _ _ _ (#[vS (g[a.toNat]!.1),vI (g[a.toNat]!.2.1),n,p,vI (g[a.toNat]!.2.2.2.2.1),q,vI (g[a.toNat]!.2.2.2.2.2.2)]) Z Z Z Z (.ofS Z Z (Ae Z (Ae Z (sR x (sR y (Ae Z (sR z (Ae Z AD)))))))) Z Z<|Aj<|Ad<|rn 2 Z ?_
  refine rm 1 [0] Z<|kB f λU I f=>gV _ (Cc (caps:=[vP d 0,vP e 0]) Z qj Z) (λo w z_=>UR N a _ _ _ _ _ _ _ h _ _ I z_.view n (z_.r x) p (z_.r y) q (z_.r z) d i (z_.r s) (Bg k o w z_) e c (Aa2.mono z_.ro_cell j) (Bg m o w z_)) ?_
  refine rz Z<|AZ Z<|aN f Z (λJ f=> ?_) (λJ f=> ?_)
  ·refine AZ Z ?_
   cases f
   exact aR eV2
  refine Ac<|H _ _ ?_
  refine Ah<|kC f λK f=>rX K Z<|rz Z<|fg _ (Sub.of (suC _ suN)) ?_
  exact⟨B+1,by omega,B,(a+1),f,Ag Z Z,Z⟩
 refine AM<|P _ _ ?_
 refine AZ Z ?_
 cases f
 exact aR eV2
def Pi(N:Nat)(d:Y0 ((W2)×Int×(Y0 (Int×Int×Int))×(Y0 Int)×Int×(Y0 (Int×W3))×Int))(c:Int)(a:Ao):Y1 (Int×Int):=(Pn N d).bind λe=>(MY N d c e a).bind λb=>some (b.1,b.2)
theorem Yo(N n c b r)(f:Pi N n c b=some r)(s e)(i:RdN Ad4 s e n)(a:AC)(d:Aa2 s a b):DoesI prog 86 #[e,vI c,vF 87 #[] #[],vF 88 #[vA (Ab b a)] #[]] Gt s [] (pV (vT #[vI r.1,vI r.2])):=by
 unfold Pi at f
 refine Bq follows func86 Z 20 Z _ fz4 Bm (λj=> ?_)
 refine Ad<|rA Z λg=>rz Z<|Ad<|rn 2 Z<|kB f λu p f=>gS (Ls:=[(Wq g (vF 88 #[vA (Ab b a)] #[]))]) (cF ql) (λo w z_=>(V3 (Yt N n _ p z_.view e (V1 z_.ro_cell i)) _)) (λl t q=> ?_)
 refine rA Z λm=>r_s (V2 [(cN m l),(Wq g (vF 88 #[vA (Ab b a)] #[])),t]) 0 _ _ _ _ _ (#[l]) Z Z Z (CR Z (W7 q)) (.ofS Z Z (sS q AD)) Z Z<|Aj<|Ad<|rn 2 Z<|r_W (vF 156 #[] #[vP m 0,vP g 0]) Z (Jt Z)<|kB f λv h f=>gV _ (cF qk) (λo w z_=>Yx N n c u b _ h z_.view e (V1 z_.ro_cell i) m l ((AB q (Al (Ls:=[(cN m l),(Wq g (vF 88 #[vA (Ab b a)] #[])),t]) (k:=2) Z Z)) o w z_) (Da 0 Z Z o w z_) g a (Aa2.mono z_.ro_cell d) (Da 1 Z Z o w z_))<|rz Z ?_
 cases f
 exact aR eV2
def Ka(N:Nat)(c:Ao):Y1 (Int×Int):=(Pi N c.2.2.2.2.2.2.1 8 c).bind λa=>some (a.1,a.2)
theorem YB(N c r)(b:Ka N c=some r)(f)(a:AC)(g:Aa2 f a c):DoesI prog 36 #[vA (Ab c a)] Gt f [] (pV (vT #[vI r.1,vI r.2])):=by
 unfold Ka at b
 refine Bq follows func36 Z 12 Z _ fz1 Bm (λd=> ?_)
 refine Ad<|rA Z λh=>rz Z<|Ad<|rm 4 [0,0] Z<|r_W (vF 88 #[vA (Ab c a)] #[]) Z (JL Z Z)<|kB b λi e b=>gV _ (cF tE) (λo w z_=>Yo N _ 8 c _ e z_.view a.2.2.2.2.2.1 (V1 z_.ro_cell g.2.2.2.2.2.1) a (Aa2.mono z_.ro_cell g))<|rz Z ?_
 cases b
 exact aR eV2
def Mq(N:Nat)(a:Y0 ((W2)×Int×(Y0 (Int×Int×Int))×(Y0 Int)×Int×(Y0 (Int×W3))×Int))(i:Int):Y1 Y3:=ck ((R64 ((a.length:Int) - 1))) ((AG N i 0 ((a.length:Int) - 1)).bind λb=>some b)
theorem Wy(N g i r)(a:Mq N g i=some r)(h b)(f:RdN Ad4 h b g):Does prog 226 #[b,vI i] h [] (pV (vB r)):=by
 unfold Mq at a
 refine Ak follows func226 Z 10 Z _ fz2 (λc=> ?_)
 refine AZ Z<|Ad<|rn 2 Z<|rL (W9 f) Z<|kC a λd a=>rX d Z<|kB a λj e a=>rc _ (cF FK) (Ba N i 0 _ _ e)<|rz Z ?_
 cases a
 exact aR eV1
def Ho(N:Nat)(c:Ao)(a b:Int)(_:Y0 (W1))(_:Y0 (Int×W3))(_ _:Int):Y1 Int:=if a=0 then(Mq N c.2.2.2.2.2.2.1 b).bind λj=>(Ap N j 5).bind λd=>some d else if a=1 then(Ap N (b==0) 5).bind λe=>some e else if a=2 then(GS N c.2.2.2.2.2.1 b).bind λf=>(Ap N f 5).bind λg=>some g else if a=3 then(Hs N c b).bind λi=>(Ap N i 5).bind λh=>some h else some 10
theorem Un(N c q b s t u v r)(a:Ho N c q b s t u v=some r)(z)(x:AC)(E:Aa2 z x c)(d:Y2)(_hx_2:Rd Ad5 z d s)(e:Y2)(_hx_3:Rd Ac6 z e t):Does prog 162 #[vA (Ab c x),vA #[vI q,vI b,d,e,vI u,vI v]] z [] (pV (vI r)):=by
 unfold Ho at a
 refine Ak follows func162 Z 39 Z _ fz2 (λy=> ?_)
 refine Ad<|rA Z λK=>rA Z λL=>rz Z<|Aa λM A=>AY [0] Z<|Ai<|AZ Z<|aE a Z (λB a=> ?_) (λB a=> ?_)
 ·refine Ad<|rm 5 [1,0] Z<|kB a λF f a=>gV _ (cF pe) (λo w z_=>Wy N _ b _ f z_.view x.2.2.2.2.2.1 (V1 z_.ro_cell E.2.2.2.2.2.1))<|kB a λG g a=>rc _ (cF Bw) (AE N F 5 _ g)<|rz Z ?_
  cases a
  exact aR eV1
 refine AZ Z<|aE a Z (λh a=> ?_) (λh a=> ?_)
 ·refine Ad<|rm 3 [0] Z<|kB a λH i a=>rc _ (cF Bw) (AE N _ 5 _ i)<|rz Z ?_
  cases a
  exact aR eV1
 refine AZ Z<|aE a Z (λj a=> ?_) (λj a=> ?_)
 ·refine Ad<|rm 5 [1,0] Z<|kB a λC k a=>gV _ (cF Xk) (λo w z_=>Ns N _ b _ k z_.view x.2.2.2.2.1 (V1 z_.ro_cell E.2.2.2.2.1))<|kB a λI l a=>rc _ (cF Bw) (AE N C 5 _ l)<|rz Z ?_
  cases a
  exact aR eV1
 refine AZ Z<|aE a Z (λm a=> ?_) (λm a=> ?_)
 ·refine Ad<|rm 4 [1,0] Z<|kB a λD n a=>gV _ (cF bu) (λo w z_=>Pg N c b _ n z_.view x (Aa2.mono z_.ro_cell E))<|kB a λJ p a=>rc _ (cF Bw) (AE N D 5 _ p)<|rz Z ?_
  cases a
  exact aR eV1
 refine Ac<|A _ _ ?_
 refine AZ Z ?_
 cases a
 exact aR eV1
def HO(N:Nat)(c:Ao)(b _:Int)(a:Y0 (W1))(_:Y0 (Int×W3))(_ _:Int):Y1 Int:=if b=1 then(HY N c ([]) a).bind λe=>some e else(Ap N ((a.length:Int)==0) 4).bind λd=>some d
theorem Va(N c h i f j k l r)(b:HO N c h i f j k l=some r)(n)(t:AC)(v:Aa2 n t c)(a)(d:Rd Ad5 n a f)(e:Y2)(_hx_3:Rd Ac6 n e j):DoesI prog 163 #[vA (Ab c t),vA #[vI h,vI i,a,e,vI k,vI l]] Gt n [] (pV (vI r)):=by
 unfold HO at b
 refine Bq follows func163 Z 18 Z _ fz2 Bm (λm=> ?_)
 refine Ad<|rA Z λx=>rA Z λy=>rz Z<|Aa λz p=>AY [0] Z<|aE b Z (λq b=> ?_) (λq b=> ?_)
 ·refine Ad<|rm 4 [1,0] Z<|kB b λA s b=>gV _ (cF Xs) (λo w z_=>Rs N c ([]) f _ s z_.view t (Aa2.mono z_.ro_cell v) nS ((λ_ _ _=> .inl ⟨Z,Z⟩) o w z_) a (z_.r d))<|rz Z ?_
  cases b
  exact aR eV1
 refine Ac<|p _ _ ?_
 refine Ad<|rm 2 [0] Z<|rL (W8 d) Z<|rn 1 Z<|kB b λu g b=>rc _ (cF Bw) (AE N _ 4 _ g)<|rz Z ?_
 cases b
 exact aR eV1
def HP(N:Nat)(c:Ao)(d e:Int)(_:Y0 (W1))(a:Y0 (Int×W3))(_ _:Int):Y1 Int:=if d=2 then(Jz N c e a).bind λf=>some f else(Ap N ((a.length:Int)==0) 4).bind λb=>some b
theorem Vb(N c i f j g k l r)(b:HP N c i f j g k l=some r)(n)(t:AC)(v:Aa2 n t c)(d:Y2)(_hx_2:Rd Ad5 n d j)(a)(e:Rd Ac6 n a g):Does prog 164 #[vA (Ab c t),vA #[vI i,vI f,d,a,vI k,vI l]] n [] (pV (vI r)):=by
 unfold HP at b
 refine Ak follows func164 Z 19 Z _ fz2 (λm=> ?_)
 refine Ad<|rA Z λx=>rA Z λy=>rz Z<|Aa λz p=>AY [0] Z<|aE b Z (λq b=> ?_) (λq b=> ?_)
 ·refine Ad<|rm 5 [1,0,0] Z<|kB b λA s b=>gV _ (cF eB) (λo w z_=>UI N c f g _ s z_.view t (Aa2.mono z_.ro_cell v) a (z_.r e))<|rz Z ?_
  cases b
  exact aR eV1
 refine Ac<|p _ _ ?_
 refine Ad<|rm 2 [0] Z<|rL (W8 e) Z<|rn 1 Z<|kB b λu h b=>rc _ (cF Bw) (AE N _ 4 _ h)<|rz Z ?_
 cases b
 exact aR eV1
def Hn(N:Nat)(e _:Int)(_:Y0 (W1))(_:Y0 (Int×W3))(d c a b:Int):Y1 Int:=ck (R64 (a+1)) ((AG N d (a+1) b).bind λl=>(Ap N l 12).bind λh=>if e=2 then(Ap N (c==0) 4).bind λk=>(AO N ([k,h])).bind λg=>some g else ck (R64 (a+1)) ((AG N c (a+1) b).bind λi=>(Ap N i 12).bind λf=>(AO N ([h,f])).bind λj=>some j))
theorem Uk(N g h s t d e u f r)(a:Hn N g h s t d e u f=some r)(L:Ro)(b:Y2)(_hx_2:Rd Ad5 L b s)(c:Y2)(_hx_3:Rd Ac6 L c t):Does prog 165 #[vA #[vI g,vI h,b,c,vI d,vI e],vI u,vI f] L [] (pV (vI r)):=by
 unfold Hn at a
 refine Ak follows func165 Z 35 Z _ fz3 (λv=> ?_)
 refine Ad<|rA Z λx=>rz Z<|Ad<|rm 3 [0] Z<|kC a λy a=>rX y Z<|rn 1 Z<|kB a λO z a=>rc _ (cF FK) (Ba N d _ f _ z)<|kB a λM A a=>rc _ (cF Bw) (AE N O 12 _ A)<|rz Z<|Aa λR B=>AY [0] Z<|aE a Z (λi a=> ?_) (λi a=> ?_)
 ·refine Ad<|rm 3 [0] Z<|kB a λC j a=>rc _ (cF Bw) (AE N _ 4 _ j)<|rn 1 Z<|gB (Ls:=[(Qv x g h b c d e)]) 51 Ca [C,M] (λD E F=> ?_)
  refine kB a λP l a=>gV _ (cF Fo) (λo w z_=>Co N _ _ l z_.view D ((AB F (Al (Ls:=[(Qv x g h b c d e),E]) (k:=1) Z Z)) o w z_))<|rz Z ?_
  cases a
  exact aR eV1
 refine Ac<|B _ _ ?_
 refine Ad<|rm 4 [0] Z<|kC a λm a=>rX m Z<|rn 1 Z<|kB a λG n a=>rc _ (cF FK) (Ba N e _ f _ n)<|kB a λH p a=>rc _ (cF Bw) (AE N G 12 _ p)<|gB (Ls:=[(Qv x g h b c d e)]) 51 Ca [M,H] (λI J K=> ?_)
 refine kB a λQ q a=>gV _ (cF Fo) (λo w z_=>Co N _ _ q z_.view I ((AB K (Al (Ls:=[(Qv x g h b c d e),J]) (k:=1) Z Z)) o w z_))<|rz Z ?_
 cases a
 exact aR eV1
def Jq(N:Nat)(i d c:Int)(f:Y0 (W1))(e:Y0 (Int×W3))(a b:Int)(g:Ao)(k:Y0 (Int×Int×(Y0 (W1))×(Y0 (Int×W3))×Int×Int)):Y1 Int:=(Ho N g d c f e a b).bind λn=>(HO N g d c f e a b).bind λm=>(HP N g d c f e a b).bind λl=>(Hn N d c f e a b i (k.length:Int)).bind λj=>(AO N ([n,m,l,j])).bind λh=>some h
theorem WI(N i c d g h e f a y r)(u:Jq N i c d g h e f a y=some r)(F j)(s:Rd Ad5 F j g)(l)(t:Rd Ac6 F l h)(C:Nat)(b:AC)(v:Aa2 F b a)(n:Blk F C (Hr a b))(D:Nat)(p)(G:RdN Ab9 F p y)(E:Blk F D [p]):DoesI prog 161 #[vI i,vA #[vI c,vI d,j,l,vI e,vI f],vP C 0,vP D 0] Gt F [] (pV (vI r)):=by
 unfold Jq at u
 refine Bq follows func161 Z 23 Z _ fz4 Bm (λM=> ?_)
 refine Ad<|rA Z λS=>rz Z<|Aa λX O=> ?_
 refine BO [(some 9,false),(some 12,false),(some 15,false),(some 20,false),(some 21,false),(some 22,false)] (conG prog [(9,cV (Ho N a c d g h e f) λm=>vI m),(12,cV (HO N a c d g h e f) λm=>vI m),(15,cV (HP N a c d g h e f) λm=>vI m),(20,cV (Hn N c d g h e f i (y.length:Int)) λm=>vI m),(22,λ_ _ v_ L_ U_=> ∀m,Ho N a c d g h e f=some m-> ∀H,HO N a c d g h e f=some H-> ∀I,HP N a c d g h e f=some I-> ∀J,Hn N c d g h e f i (y.length:Int)=some J-> ∀K,AO N ([m,H,I,J])=some K->(pV (vI K)) v_ L_ U_)]) [] (by decide+kernel) (λY=>AN) ?_
 refine Ii (vA (Ab a b)) (vs:=(Hr a b)) (o:=0) Z Z (Bg n) Z<|rm 1 [0] Z<|kB u λT z u=>rg _ (cF qe) (λo w z_=>(V3 (Un N a c d g h e f _ z z_.view b (Aa2.mono z_.ro_cell v) j (z_.r s) l (z_.r t)) _)) (Hq z)<|Ii (vA (Ab a b)) (vs:=(Hr a b)) (o:=0) Z Z (Bg n) Z<|rm 1 [0] Z<|kB u λU A u=>rg _ (cF qc) (λo w z_=>Va N a c d g h e f _ A z_.view b (Aa2.mono z_.ro_cell v) j (z_.r s) l (z_.r t)) (Hq A)<|Ii (vA (Ab a b)) (vs:=(Hr a b)) (o:=0) Z Z (Bg n) Z<|rm 1 [0] Z<|kB u λV B u=>rg _ (cF qb) (λo w z_=>(V3 (Vb N a c d g h e f _ B z_.view b (Aa2.mono z_.ro_cell v) j (z_.r s) l (z_.r t)) _)) (Hq B)<|rm 2 [0] Z<|Ii p (vs:=[p]) (o:=0) Z Z (Bg E) Z<|rL (W9 G) Z<|kB u λL q u=>rg _ (cF qa) (λo w z_=>(V3 (Uk N c d g h e f i _ _ q z_.view j (z_.r s) l (z_.r t)) _)) (Hq q) ?_
 refine KP (Ls:=[(Qv S c d j l e f)]) 51 Ca [T,U,V,L] [vI T,vI U,vI V,vI L] [vI 0,vI 0,vI 0,vI 0] Z Z Z Z Z Z Z (by kernel_rfl) (by kernel_rfl) Z Z Z (λP Q R=> ?_)
 refine kB u λW x u=>rg _ (cF Fo) (λo w z_=>(V3 (Co N _ _ x z_.view P ((AB R (Al (Ls:=[(Qv S c d j l e f),Q]) (k:=1) Z Z)) o w z_)) _)) (λ_ _ v_ L_ U_=>⟨λh_=>h_ _ z _ A _ B _ q _ x,λh_=>by intro _ e_;cases q3 (e_.symm.trans z);intro _ e_;cases q3 (e_.symm.trans A);intro _ e_;cases q3 (e_.symm.trans B);intro _ e_;cases q3 (e_.symm.trans q);intro _ e_;cases q3 (e_.symm.trans x);exact h_⟩) ?_
 refine rz Z<|O _ _ ?_
 cases u
 exact aR eV1
def JY(N:Nat)(b:Y0 (Int×Int×(Y0 (W1))×(Y0 (Int×W3))×Int×Int))(c:Ao)(d:Y0 (Int×Int×(Y0 (W1))×(Y0 (Int×W3))×Int×Int)):Nat->Int->Y1 (Int×Int)
  |0,_=>none
  |f+1,a=>if a<(b.length:Int)then ck (0<=a/\a<(b.length:Int)) ((Jq N a (b[a.toNat]!.1) (b[a.toNat]!.2.1) (b[a.toNat]!.2.2.1) (b[a.toNat]!.2.2.2.1) (b[a.toNat]!.2.2.2.2.1) (b[a.toNat]!.2.2.2.2.2) c d).bind λe=>if(e:Int)≠0 then some (a,e)else ck (R64 (a+1)) ((JY N b c d f) (a+1)))else some (0,0)
def NK(N:Nat)(d:Y0 (Int×Int×(Y0 (W1))×(Y0 (Int×W3))×Int×Int))(c:Int)(a:Ao)(b:Y0 (Int×Int×(Y0 (W1))×(Y0 (Int×W3))×Int×Int)):Y1 (Int×Int):=if(d.length:Int)>c then some (0,2)else JY N d a b N 0
theorem aP(N f y e g r)(d:NK N f y e g=some r)(B A)(s:RdN Ab9 B A f)(b:Nat)(h:AC)(p:Aa2 B h e)(j:Blk B b (Hr e h))(c:Nat)(i)(q:RdN Ab9 B i g)(k:Blk B c [i]):DoesI prog 160 #[A,vI y,vF 161 #[] #[vP b 0,vP c 0]] Gt B [] (pV (vT #[vI r.1,vI r.2])):=by
 unfold NK at d
 refine Bq follows func160 Z 31 Z _ fz3 Bm (λJ=> ?_)
 refine AZ Z<|Aa λS K=>Ad<|rn 1 Z<|rL (W9 s) Z<|rz Z<|aD d Z (λL d=> ?_) (λL d=> ?_)
 ·refine AZ Z ?_
  cases d
  exact aR eV2
 refine Ac<|K _ _ ?_
 refine Aa λU M=>Ad<|rn 1 Z<|rL (W9 s) Z<|rz Z<|Ai<|AL (λtt ll nn=> ∃(z:Nat) (a:Int),(JY N f e g z a=some r)/\Is [(2,vF 161 #[] #[vP b 0,vP c 0]),(15,A),(16,vI (f.length:Int)),(17,vI a)] [] tt ll/\nn=z+1) (N+1) ?_ ?_
 ·exact⟨N,0,d,Ag Z Z,Z⟩
 clear d;rintro t l _ ⟨z,a,d,⟨⟨T,rfl⟩,rfl⟩,rfl⟩
 rcases z with _|z
 ·exact absurd d (by simp [JY])
 rw [JY] at d
 refine AZ Z<|Aa λP C=>aD d Z (λD d=> ?_) (λD d=> ?_)
 ·refine Ac<|C _ _ ?_
  refine Aa λQ F=>Ai<|Ad<|rn 1 Z<|kC d λu d=> ?_
  obtain⟨_,⟨m,n,v,x,rfl⟩,hat19⟩:=RdN.at (E:=Ab9) s (Cp u)
  refine rI (W9 s) u Z<|Mk (vA #[vI (f[a.toNat]!.1),vI (f[a.toNat]!.2.1),m,n,vI (f[a.toNat]!.2.2.2.2.1),vI (f[a.toNat]!.2.2.2.2.2)]) (vs:=[vI (f[a.toNat]!.1),vI (f[a.toNat]!.2.1),m,n,vI (f[a.toNat]!.2.2.2.2.1),vI (f[a.toNat]!.2.2.2.2.2)]) (a.toNat*6) 0 Z Z (λo w z_=>At.mono z_.ro_cell hat19) Z<|rA Z λO=>rn 1 Z<|r_s (Qv O (f[a.toNat]!.1) (f[a.toNat]!.2.1) m n (f[a.toNat]!.2.2.2.2.1) (f[a.toNat]!.2.2.2.2.2)) 0 _ _ _ _ _ (#[vI (f[a.toNat]!.1),vI (f[a.toNat]!.2.1),m,n,vI (f[a.toNat]!.2.2.2.2.1),vI (f[a.toNat]!.2.2.2.2.2)]) Z Z Z Z (.ofS Z Z (Ae Z (Ae Z (sR v (sR x (Ae Z (Ae Z AD))))))) Z Z<|Aj<|Ad<|rn 2 Z ?_
  refine rm 1 [0] Z<|kB d λR G d=>gV _ (Cc (caps:=[vP b 0,vP c 0]) Z qf Z) (λo w z_=>WI N a _ _ _ _ _ _ e g _ G z_.view m (z_.r v) n (z_.r x) b h (Aa2.mono z_.ro_cell p) (Bg j o w z_) c i (V1 z_.ro_cell q) (Bg k o w z_))<|rz Z<|AZ Z ?_
  refine aN d Z (λH d=> ?_) (λH d=> ?_)
  ·refine AZ Z ?_
   cases d
   exact aR eV2
  refine Ac<|F _ _ ?_
  refine Ah<|kC d λI d=>rX I Z<|rz Z<|fg _ (Sub.of (suC _ suN)) ?_
  exact⟨z+1,by omega,z,(a+1),d,Ag Z Z,Z⟩
 refine AM<|M _ _ ?_
 refine AZ Z ?_
 cases d
 exact aR eV2
def Lc(N:Nat)(c:Ao)(a:Y0 (Int×Int×(Y0 (W1))×(Y0 (Int×W3))×Int×Int)):Y1 (Int×Int):=(NK N a 32 c a).bind λb=>some (b.1,b.2)
theorem Tt(N c f r)(d:Lc N c f=some r)(h)(i:AC)(l:Aa2 h i c)(a)(b:RdN Ab9 h a f):DoesI prog 89 #[vA (Ab c i),a] Gt h [] (pV (vT #[vI r.1,vI r.2])):=by
 unfold Lc at d
 refine Bq follows func89 Z 11 Z _ fz2 Bm (λe=> ?_)
 refine Ad<|rA Z λj=>r_a (28, #[a]) Z Z (Oz Z (W9 b)) (λk=> ?_) (.inr Z)
 refine rz Z<|Ad<|rm 1 [0] Z<|r_W (vF 161 #[] #[vP j 0,vP k 0]) Z (Jt Z)<|kB d λm g d=>gV _ (cF qg) (λo w z_=>aP N f 32 c f _ g z_.view a (V1 z_.ro_cell b) j i (Aa2.mono z_.ro_cell l) (Da 1 Z Z o w z_) k a (V1 z_.ro_cell b) (Da 0 Z Z o w z_))<|rz Z ?_
 cases d
 exact aR eV2
def KE(N:Nat)(c:Ao):Y1 (Int×Int):=(Lc N c c.2.2.2.2.2.2.2.1).bind λa=>some (a.1,a.2)
theorem WL(N c r)(a:KE N c=some r)(f)(d:AC)(g:Aa2 f d c):DoesI prog 37 #[vA (Ab c d)] Gt f [] (pV (vT #[vI r.1,vI r.2])):=by
 unfold KE at a
 refine Bq follows func37 Z 11 Z _ fz1 Bm (λb=> ?_)
 refine Ad<|rA Z λh=>rz Z<|Ad<|rm 4 [0,0] Z<|kB a λi e a=>gV _ (cF jf) (λo w z_=>Tt N c _ _ e z_.view d (Aa2.mono z_.ro_cell g) d.2.2.2.2.2.2.1 (V1 z_.ro_cell g.2.2.2.2.2.2.1))<|rz Z ?_
 cases a
 exact aR eV2
def Lr(N:Nat)(c:Ao):Y1 (Int×Int):=(Lc N c c.2.2.2.2.2.2.2.2.1).bind λa=>some (a.1,a.2)
theorem YF(N c r)(a:Lr N c=some r)(f)(d:AC)(g:Aa2 f d c):DoesI prog 38 #[vA (Ab c d)] Gt f [] (pV (vT #[vI r.1,vI r.2])):=by
 unfold Lr at a
 refine Bq follows func38 Z 11 Z _ fz1 Bm (λb=> ?_)
 refine Ad<|rA Z λh=>rz Z<|Ad<|rm 4 [0,0] Z<|kB a λi e a=>gV _ (cF jf) (λo w z_=>Tt N c _ _ e z_.view d (Aa2.mono z_.ro_cell g) d.2.2.2.2.2.2.2.1 (V1 z_.ro_cell g.2.2.2.2.2.2.2.1))<|rz Z ?_
 cases a
 exact aR eV2
def Jr(N:Nat)(i a:Int)(b:Ao):Y1 Int:=(Hs N b a).bind λg=>(Ap N g 5).bind λf=>ck (0<=i/\i<=(b.2.2.2.2.2.2.2.2.2.1.length:Int)) ((BC N (((b.2.2.2.2.2.2.2.2.2.1).take (i.toNat)).drop 0) a).bind λe=>(Ap N (!(e)) 6).bind λd=>(AO N ([f,d])).bind λc=>some c)
theorem Uq(N i b c r)(d:Jr N i b c=some r)(D)(n:Nat)(a:AC)(f:Aa2 D a c)(g:Blk D n (Hr c a)):Does prog 91 #[vI i,vI b,vP n 0] D [] (pV (vI r)):=by
 unfold Jr at d
 refine Ak follows func91 Z 22 Z _ fz3 (λy=> ?_)
 refine AZ Z<|Aa λI z=> ?_
 refine BO [(some 9,false),(some 17,false),(some 20,false),(some 21,false)] (conG prog [(9,cV (Hs N c b) λe=>vB e),(17,cV (BC N ((((D8 c).2.1).take (i.toNat)).drop 0) b) λe=>vB e),(21,λ_ _ v_ L_ U_=> ∀e,Hs N c b=some e-> ∀q,Ap N e 5=some q-> ∀s,BC N ((((D8 c).2.1).take (i.toNat)).drop 0) b=some s-> ∀t,Ap N (!(s)) 6=some t-> ∀u,AO N ([q,t])=some u->(pV (vI u)) v_ L_ U_)]) [] (by decide+kernel) (λJ=>AN) ?_
 refine rn 1 Z<|Ii (vA (Ab c a)) (vs:=(Hr c a)) (o:=0) Z Z (Bg g) Z<|rn 1 Z<|kB d λF l d=>rg _ (cF bu) (λo w z_=>Pg N c b _ l z_.view a (Aa2.mono z_.ro_cell f)) (Hq l)<|kB d λE p d=>rc _ (cF Bw) (AE N F 5 _ p)<|rn 2 Z<|Ii (D8 a).1 (vs:=(Hr c a)) (o:=9) Z Z (Bg g) Z<|rn 1 Z<|kC d λv d=>r_W (GX (D8 a).1 0 (i.toNat) 1) Z (GV (ID Z Z Z Z (W8 f.2.2.2.2.2.2.2.2.1) v))<|rn 1 Z<|kB d λG m d=>rg _ (cF bt) (λo w z_=>Jd N _ b _ m z_.view (GX (D8 a).1 0 (i.toNat) 1) ((Ql (Ay f.2.2.2.2.2.2.2.2.1) (Nat.zero_le _) (Fy v.2)) o w z_)) (Hq m)<|rn 1 Z<|kB d λx h d=>rc _ (cF Bw) (AE N (!(G)) 6 _ h) ?_
 refine KP (Ls:=[]) 51 Ca [E,x] [vI E,vI x] [vI 0,vI 0] Z Z Z Z Z Z Z (by kernel_rfl) (by kernel_rfl) Z Z Z (λA B C=> ?_)
 refine kB d λH j d=>rg _ (cF Fo) (λo w z_=>Co N _ _ j z_.view A ((AB C (Al (Ls:=[B]) (k:=0) Z Z)) o w z_)) (λ_ _ v_ L_ U_=>⟨λh_=>h_ _ l _ p _ m _ h _ j,λh_=>by intro _ e_;cases q3 (e_.symm.trans l);intro _ e_;cases q3 (e_.symm.trans p);intro _ e_;cases q3 (e_.symm.trans m);intro _ e_;cases q3 (e_.symm.trans h);intro _ e_;cases q3 (e_.symm.trans j);exact h_⟩) ?_
 refine rz Z<|z _ _ ?_
 cases d
 exact aR eV1
def KQ(N:Nat)(c:Y0 Int)(b:Ao):Nat->Int->Y1 (Int×Int)
  |0,_=>none
  |e+1,a=>if a<(c.length:Int)then ck (0<=a/\a<(c.length:Int)) ((Jr N a (c[a.toNat]!) b).bind λd=>if(d:Int)≠0 then some (a,d)else ck (R64 (a+1)) ((KQ N c b e) (a+1)))else some (0,0)
def ON(N:Nat)(c:Y0 Int)(b:Int)(a:Ao):Y1 (Int×Int):=if(c.length:Int)>b then some (0,2)else KQ N c a N 0
theorem cX(N y j c r)(b:ON N y j c=some r)(z m)(h:Rd Ca z m y)(a:Nat)(d:AC)(g:Aa2 z d c)(e:Blk z a (Hr c d)):Does prog 90 #[m,vI j,vF 91 #[] #[vP a 0]] z [] (pV (vT #[vI r.1,vI r.2])):=by
 unfold ON at b
 refine Ak follows func90 Z 31 Z _ fz3 (λx=> ?_)
 refine AZ Z<|Aa λG A=>Ad<|rn 1 Z<|rL (W8 h) Z<|rz Z<|aD b Z (λB b=> ?_) (λB b=> ?_)
 ·refine AZ Z ?_
  cases b
  exact aR eV2
 refine Ac<|A _ _ ?_
 refine Aa λH C=>Ad<|rn 1 Z<|rL (W8 h) Z<|rz Z<|Ai<|AL (λtt ll nn=> ∃(k:Nat) (f:Int),(KQ N y c k f=some r)/\Is [(2,vF 91 #[] #[vP a 0]),(15,m),(16,vI (y.length:Int)),(17,vI f)] [] tt ll/\nn=k+1) (N+1) ?_ ?_
 ·exact⟨N,0,b,Ag Z Z,Z⟩
 clear b;rintro t l _ ⟨k,f,b,⟨⟨T,rfl⟩,rfl⟩,rfl⟩
 rcases k with _|k
 ·exact absurd b (by simp [KQ])
 rw [KQ] at b
 refine AZ Z<|Aa λD n=>aD b Z (λp b=> ?_) (λp b=> ?_)
 ·refine Ac<|n _ _ ?_
  refine Aa λE q=>Ai<|Ad<|rn 1 Z<|kC b λi b=>rI (W8 h) i Z<|rE (Ay h) i 0 Z<|rz Z<|Ad<|rn 3 Z<|kB b λF s b=>gV _ (Cc (caps:=[vP a 0]) Z tB Z) (λo w z_=>Uq N f _ c _ s z_.view a d (Aa2.mono z_.ro_cell g) (Bg e o w z_))<|rz Z<|AZ Z<|aN b Z (λu b=> ?_) (λu b=> ?_)
  ·refine AZ Z ?_
   cases b
   exact aR eV2
  refine Ac<|q _ _ ?_
  refine Ah<|kC b λv b=>rX v Z<|rz Z<|fg _ (Sub.of suN) ?_
  exact⟨k+1,by omega,k,(f+1),b,Ag Z Z,Z⟩
 refine AM<|C _ _ ?_
 refine AZ Z ?_
 cases b
 exact aR eV2
def Ip(N:Nat)(c:Ao):Y1 (Int×Int):=(ON N c.2.2.2.2.2.2.2.2.2.1 32 c).bind λa=>some (a.1,a.2)
theorem WN(N c r)(a:Ip N c=some r)(g)(d:AC)(h:Aa2 g d c):Does prog 39 #[vA (Ab c d)] g [] (pV (vT #[vI r.1,vI r.2])):=by
 unfold Ip at a
 refine Ak follows func39 Z 11 Z _ fz1 (λb=> ?_)
 refine Ad<|rA Z λf=>rz Z<|Ad<|rm 3 [0] Z<|r_W (vF 91 #[] #[vP f 0]) Z (Jt Z)<|kB a λi e a=>gV _ (cF Vt) (λo w z_=>cX N _ 32 c _ e z_.view (D8 d).1 ((Ay h.2.2.2.2.2.2.2.2.1) o w z_) f d (Aa2.mono z_.ro_cell h) (Da 0 Z Z o w z_))<|rz Z ?_
 cases a
 exact aR eV2
def JV(N:Nat)(_:W2)(a:Y0 (W2×Int))(_ _ _ _ f:Int):Y1 (Int×Y3):=ck ((R64 ((a.length:Int) - 1))) ((Gw N f 0 ((a.length:Int) - 1)).bind λc=>if c=true then ck (0<=f/\f<=(a.length:Int)) ((Pv N (((a).take (f.toNat)).drop 0)).bind λb=>some (b,true))else some (0,false))
theorem XK(N h i j k l m f r)(a:JV N h i j k l m f=some r)(t b)(c:Rd Ab3 t b i):Does prog 170 #[vA #[vS h,b,vI j,vI k,vI l,vI m],vI f] t [] (pV (vT #[vI r.1,vB r.2])):=by
 unfold JV at a
 refine Ak follows func170 Z 18 Z _ fz2 (λn=> ?_)
 refine Ad<|rA Z λv=>rz Z<|Aa λx p=>Ad<|rm 3 [0] Z<|rL (W8 c) Z<|kC a λq a=>rX q Z<|kB a λy s a=>rc _ (cF Ly) (IR N f 0 _ _ s)<|rz Z<|BS _ Z (λe=> ?_) (λe=> ?_)
 ·replace a:=ifn (Bool.eq_false_iff.1 (DG e)) a
  refine AZ Z ?_
  cases a
  exact aR eV2
 replace a:=ifp (DH e) a
 refine Ac<|p _ _ ?_
 refine Ad<|rm 3 [0] Z<|kC a λd a=>r_W (GX b 0 (f.toNat) 2) Z (GV (ID Z Z Z Z (W8 c) d))<|kB a λu g a=>gV _ (cF eH) (λo w z_=>YR N _ _ g z_.view (GX b 0 (f.toNat) 2) ((Ql (Ay c) (Nat.zero_le _) (Fy d.2)) o w z_))<|rz Z ?_
 cases a
 exact aR eV2
def Lq(N:Nat)(_ f e:Int)(g:Ao):Y1 Int:=(KC N g f).bind λa=>(JV N a.1 a.2.1 a.2.2.1 a.2.2.2.1 a.2.2.2.2.1 a.2.2.2.2.2.1 e).bind λb=>(Ht N g f e).bind λd=>(Ap N d.2 5).bind λc=>if d.1=16 then ck (0<=b.1/\b.1<=9223372036854775807) ((Ap N ((b.1%16:Int)==0) 9).bind λk=>(AO N ([c,k])).bind λh=>some h)else(Ap N false 9).bind λj=>(AO N ([c,j])).bind λi=>some i
theorem YC(N x d e f r)(c:Lq N x d e f=some r)(Q)(i:Nat)(b:AC)(j:Aa2 Q b f)(g:Blk Q i (Hr f b)):Does prog 169 #[vI x,vA #[vI d,vI e],vP i 0] Q [] (pV (vI r)):=by
 unfold Lq at c
 refine Ak follows func169 Z 49 Z _ fz3 (λF=> ?_)
 refine Ad<|rA Z λp=>rz Z<|Ad<|rn 1 Z<|Ii (vA (Ab f b)) (vs:=(Hr f b)) (o:=0) Z Z (Bg g) Z<|rm 2 [0] Z<|kB c λa G c=>gS (Ls:=[(Oh p d e)]) (cF bC) (λo w z_=>Rr N f d _ G z_.view b (Aa2.mono z_.ro_cell j)) (λl q R=> ?_)
 refine rn 3 Z<|rA Z λs=>r_s (V2 [(RM s a.1 l a.2.2.1 a.2.2.2.1 a.2.2.2.2.1 a.2.2.2.2.2.1),(Oh p d e),q]) 0 _ _ _ _ _ (#[vS a.1,l,vI a.2.2.1,vI a.2.2.2.1,vI a.2.2.2.2.1,vI a.2.2.2.2.2.1]) Z Z Z Z (.ofS Z Z (Ae Z (sS R (Ae Z (Ae Z (Ae Z (Ae Z AD))))))) Z Z<|rz Z<|Ad<|rm 3 [0,1] Z<|kB c λt u c=>gV _ (cF pW) (λo w z_=>XK N a.1 a.2.1 _ _ _ _ e _ u z_.view l ((AB R (Al (Ls:=[(RM s a.1 l a.2.2.1 a.2.2.2.1 a.2.2.2.2.1 a.2.2.2.2.2.1),(Oh p d e),q]) (k:=2) Z Z)) o w z_))<|rz Z<|Ad<|rn 1 Z<|Ii (vA (Ab f b)) (vs:=(Hr f b)) (o:=0) Z Z (Bg g) Z<|rn 1 Z ?_
 refine rm 3 [1,1] Z<|kB c λh v c=>gV _ (cF Xq) (λo w z_=>Qx N f d e _ v z_.view b (Aa2.mono z_.ro_cell j))<|rz Z<|CJ [(8,vI t.1),(10,vI h.1),(11,vB h.2)] Z (λT=> ?_)
 refine Aa λS m=>Ah<|rn 1 Z<|kB c λy z c=>rc _ (cF Bw) (AE N h.2 5 _ z)<|rn 3 Z ?_
 rcases n:(h.1==16)with _|_
 ·replace c:=iG n c
  refine rn 4 Z<|kB c λH A c=>rc _ (cF Bw) (AE N false 9 _ A)<|gB (Ls:=[(RM s a.1 l a.2.2.1 a.2.2.2.1 a.2.2.2.2.1 a.2.2.2.2.2.1),(Oh p d e),q]) 51 Ca [y,H] (λI J K=> ?_)
  refine kB c λU B c=>gV _ (cF Fo) (λo w z_=>Co N _ _ B z_.view I ((AB K (Al (Ls:=[(RM s a.1 l a.2.2.1 a.2.2.2.1 a.2.2.2.2.1 a.2.2.2.2.2.1),(Oh p d e),q,J]) (k:=3) Z Z)) o w z_))<|rz Z<|m _ _ ?_
  cases c
  exact aR eV1
 replace c:=iE n c
 refine rn 1 Z<|r_y Z<|kC c λC c=>r_X (vI (t.1%16)) Z (SY C.1) Z<|rn 2 Z<|kB c λL D c=>rc _ (cF Bw) (AE N _ 9 _ D)<|gB (Ls:=[(RM s a.1 l a.2.2.1 a.2.2.2.1 a.2.2.2.2.1 a.2.2.2.2.2.1),(Oh p d e),q]) 51 Ca [y,L] (λM O P=> ?_)
 refine kB c λV E c=>gV _ (cF Fo) (λo w z_=>Co N _ _ E z_.view M ((AB P (Al (Ls:=[(RM s a.1 l a.2.2.1 a.2.2.2.1 a.2.2.2.2.1 a.2.2.2.2.2.1),(Oh p d e),q,O]) (k:=3) Z Z)) o w z_))<|rz Z<|m _ _ ?_
 cases c
 exact aR eV1
def KY(N:Nat)(c:Y0 (Int×Int))(b:Ao):Nat->Int->Y1 (Int×Int)
  |0,_=>none
  |e+1,a=>if a<(c.length:Int)then ck (0<=a/\a<(c.length:Int)) ((Lq N a ((c[a.toNat]!).1) ((c[a.toNat]!).2) b).bind λd=>if(d:Int)≠0 then some (a,d)else ck (R64 (a+1)) ((KY N c b e) (a+1)))else some (0,0)
def OW(N:Nat)(c:Y0 (Int×Int))(b:Int)(a:Ao):Y1 (Int×Int):=if(c.length:Int)>b then some (0,2)else KY N c a N 0
theorem dg(N y j c r)(b:OW N y j c=some r)(z m)(h:Rd Ad3 z m y)(a:Nat)(d:AC)(g:Aa2 z d c)(e:Blk z a (Hr c d)):Does prog 168 #[m,vI j,vF 169 #[] #[vP a 0]] z [] (pV (vT #[vI r.1,vI r.2])):=by
 unfold OW at b
 refine Ak follows func168 Z 31 Z _ fz3 (λx=> ?_)
 refine AZ Z<|Aa λH A=>Ad<|rn 1 Z<|rL (W8 h) Z<|rz Z<|aD b Z (λB b=> ?_) (λB b=> ?_)
 ·refine AZ Z ?_
  cases b
  exact aR eV2
 refine Ac<|A _ _ ?_
 refine Aa λI C=>Ad<|rn 1 Z<|rL (W8 h) Z<|rz Z<|Ai<|AL (λtt ll nn=> ∃(k:Nat) (f:Int),(KY N y c k f=some r)/\Is [(2,vF 169 #[] #[vP a 0]),(15,m),(16,vI (y.length:Int)),(17,vI f)] [] tt ll/\nn=k+1) (N+1) ?_ ?_
 ·exact⟨N,0,b,Ag Z Z,Z⟩
 clear b;rintro t l _ ⟨k,f,b,⟨⟨T,rfl⟩,rfl⟩,rfl⟩
 rcases k with _|k
 ·exact absurd b (by simp [KY])
 rw [KY] at b
 refine AZ Z<|Aa λD n=>aD b Z (λp b=> ?_) (λp b=> ?_)
 ·refine Ac<|n _ _ ?_
  refine Aa λE q=>Ai<|Ad<|rn 1 Z<|kC b λi b=>rI (W8 h) i Z<|rE (Ay h) i 0 Z<|rA Z λF=>ry [0] Z<|Ad<|rm 3 [0] Z<|kB b λG s b=>gV _ (Cc (caps:=[vP a 0]) Z pX Z) (λo w z_=>YC N f _ _ c _ s z_.view a d (Aa2.mono z_.ro_cell g) (Bg e o w z_))<|rz Z<|AZ Z<|aN b Z (λu b=> ?_) (λu b=> ?_)
  ·refine AZ Z ?_
   cases b
   exact aR eV2
  refine Ac<|q _ _ ?_
  refine Ah<|kC b λv b=>rX v Z<|rz Z<|fg _ (Sub.of (suC _ suN)) ?_
  exact⟨k+1,by omega,k,(f+1),b,Ag Z Z,Z⟩
 refine AM<|C _ _ ?_
 refine AZ Z ?_
 cases b
 exact aR eV2
end Go.Proofs.YtjnanfkpdhmnpaaGreatDoor
