import Derived.Test.YtjlomkippigejaaGreatDoorBh
namespace Go.Proofs.YtjlomkippigejaaGreatDoor
open Go Go.RowKit Go.Eng _root_.Go.Proofs.Tryz
set_option linter.unusedSimpArgs false
set_option linter.unusedVariables false
set_option maxRecDepth 100000
set_option maxHeartbeats 80000000
abbrev MO(b:Nat)(x0:W2)(x1:Int)(x2:Value)(x3:Value)(x4:Int)(x5:Value)(x6:Int):List Bl:=[(b,190, #[vS x0,vI x1,x2,x3,vI x4,x5,vI x6])]
abbrev gE(b:Nat)(x0:Value):List Bl:=[(b,29, #[x0])]
abbrev VS(b:Nat)(x0:Value):List Bl:=[(b,211, #[x0])]
abbrev ce(b:Nat)(x0:Value):List Bl:=[(b,134, #[x0])]
abbrev NM(b:Nat)(x0:Int)(x1:Int)(x2:Value)(x3:Value)(x4:Int)(x5:Int):List Bl:=[(b,180, #[vI x0,vI x1,x2,x3,vI x4,vI x5])]
abbrev NL(b:Nat)(x0:Int)(x1:Int):List Bl:=[(b,182, #[vI x0,vI x1])]
abbrev Rj(b:Nat)(x0:W2)(x1:Value)(x2:Int)(x3:Int)(x4:Int)(x5:Int):List Bl:=[(b,94, #[vS x0,x1,vI x2,vI x3,vI x4,vI x5])]
def Ja(N:Nat)(c:Ao):Option (Int×Int):=(NP N c.2.2.2.2.2.1 32 c).bind λa=>some (a.1,a.2)
theorem Wt(N c r)(b:Ja N c=some r)(f)(a:AB)(g:Aa1 f a c):DoesI prog 54 #[vA (Ac c a)] Ho f [] (pV (vT #[vI r.1,vI r.2])):=by
 unfold Ja at b
 refine Be follows func54 Z 12 Z _ fz1 Bi (λd=> ?_)
 refine Ad<|rA Z λh=>rz Z<|Ad<|rm 4 [0,0] Z<|r_W (vF 110 #[vA (Ac c a)] #[]) Z (Jv Z Z)<|kB b λi e b=>gV _ (cF pB) (λo w z_=>Wf N c.2.2.2.2.2.1 32 c _ e z_.view a.2.2.2.2.1 (RdN.mono z_.ro_cell g.2.2.2.2.1) a (Aa1.mono z_.ro_cell g))<|rz Z ?_
 cases b
 exact aR eV2
def MZ(_:Nat)(a:W2)(_:Int)(_:List (Int×Int×Int))(_:List Int)(_:Int)(_:List (Int×W3))(_:Int):Option (W2):=some a
theorem UE(N d e f g h i j r)(m:MZ N d e f g h i j=some r)(l:Ro)(a:Value)(_hx_2:Rd Ad1 l a f)(b:Value)(_hx_3:Rd BE l b g)(c:Value)(_hx_5:Rd Ad0 l c i):Does prog 112 #[vA #[vS d,vI e,a,b,vI h,c,vI j]] l [] (pV (vS r)):=by
 unfold MZ at m
 refine Al follows func112 Z 5 Z _ fz1 (λk=> ?_)
 refine Ad<|rA Z λn=>rz Z<|AY [0] Z ?_
 cases m
 exact aR eV1
def IQ(N:Nat)(b:List ((W2)×Int×(List (Int×Int×Int))×(List Int)×Int×(List (Int×W3))×Int)):Nat->List (W2)->Int->Option (List (W2))
  |0,_,_=>none
  |e+1,c,a=>if a<(b.length:Int)then ck (0<=a/\a<(b.length:Int)) ((MZ N (b[a.toNat]!.1) (b[a.toNat]!.2.1) (b[a.toNat]!.2.2.1) (b[a.toNat]!.2.2.2.1) (b[a.toNat]!.2.2.2.2.1) (b[a.toNat]!.2.2.2.2.2.1) (b[a.toNat]!.2.2.2.2.2.2)).bind λd=>ck (0<=a/\a<(c.length:Int)) (ck (R64 (a+1)) ((IQ N b e) ((c).set (a.toNat) d) (a+1))))else some c
def OS(N:Nat)(a:List ((W2)×Int×(List (Int×Int×Int))×(List Int)×Int×(List (Int×W3))×Int)):Option (List (W2)):=ck (0<=(a.length:Int)/\(a.length:Int)<=8796093022208) (IQ N a N ((List.replicate ((a.length:Int)).toNat ([]))) 0)
theorem Xz(N b r)(c:OS N b=some r)(L v)(j:RdN Ae2 L v b):Does prog 180 #[v,vF 112 #[] #[]] L [] (p1 (λs_=>s_) 9 Aa3 r):=by
 unfold OS at c
 refine Al follows func180 Z 26 Z _ fz2 (λF=> ?_)
 refine AZ Z<|Ad<|rn 1 Z<|rL (RdN.shp j) Z<|kC c λG c=>cB 10<|Tx (Ls:=[]) 9 Aa3 ([]) (b.length:Int) Z Z Z Z Z Z Z Z Z Z 8796093022208 Z G (λ_ _ _ _ _=>Iff.rfl) (λH K M=> ?_)
 refine rz Z<|Aa λQ I=>Ad<|rn 1 Z<|rL (RdN.shp j) Z<|rz Z<|Ai<|Bs _ (Sub.pick [K] [0] Z)<|AH (λtt ll nn=> ∃(s:Nat) (h:List (W2)) (a:Int),(IQ N b s h a=some r)/\ ∃(d:List Bl),Sl 9 Aa3 H h d/\Is [(1,vF 112 #[] #[]),(5,H),(11,v),(12,vI (b.length:Int)),(13,vI a)] (List.flatten [d]) tt ll/\nn=s+1) (N+1) ?_ ?_
 ·exact⟨N,(List.replicate ((b.length:Int)).toNat ([])),0,c,K,M,Ag Z Z,Z⟩
 clear c;rintro t l _ ⟨s,h,a,c,d,i,⟨⟨T,rfl⟩,rfl⟩,rfl⟩
 rcases s with _|s
 ·exact absurd c (by simp [IQ])
 rw [IQ] at c
 refine AZ Z<|Aa λO x=>aD c Z (λy c=> ?_) (λy c=> ?_)
 ·refine Ab<|x _ _ ?_
  refine Aa λP z=>Ai<|Ad<|rn 1 Z<|kC c λk c=> ?_
  obtain⟨_,⟨e,f,g,m,n,p,rfl⟩,hat22⟩:=RdN.at (E:=Ae2) j (Dx k)
  refine rI (RdN.shp j) k Z<|Oe (vA #[vS (b[a.toNat]!.1),vI (b[a.toNat]!.2.1),e,f,vI (b[a.toNat]!.2.2.2.2.1),g,vI (b[a.toNat]!.2.2.2.2.2.2)]) (vs:=[vS (b[a.toNat]!.1),vI (b[a.toNat]!.2.1),e,f,vI (b[a.toNat]!.2.2.2.2.1),g,vI (b[a.toNat]!.2.2.2.2.2.2)]) (a.toNat*7) 0 Z Z (λo w z_=>At.mono z_.ro_cell hat22) Z<|rA Z λu=>rn 1 Z<|r_s (List.flatten [(MO u (b[a.toNat]!.1) (b[a.toNat]!.2.1) e f (b[a.toNat]!.2.2.2.2.1) g (b[a.toNat]!.2.2.2.2.2.2)),d]) 0 _ _ _ _ _ (#[vS (b[a.toNat]!.1),vI (b[a.toNat]!.2.1),e,f,vI (b[a.toNat]!.2.2.2.2.1),g,vI (b[a.toNat]!.2.2.2.2.2.2)]) Z Z Z Z (.ofS Z Z (Ae Z (Ae Z (Ae (Shp.one (Rd.shp m)) (Ae (Shp.one (Rd.shp n)) (Ae Z (Ae (Shp.one (Rd.shp p)) (Ae Z BA)))))))) Z Z<|Ak<|Ah<|rn 3 Z ?_
  refine rm 1 [0] Z<|kB c λA B c=>gV _ (BO (caps:=[]) Z px Z) (λo w z_=>UE N (b[a.toNat]!.1) (b[a.toNat]!.2.1) (b[a.toNat]!.2.2.1) (b[a.toNat]!.2.2.2.1) (b[a.toNat]!.2.2.2.2.1) (b[a.toNat]!.2.2.2.2.2.1) (b[a.toNat]!.2.2.2.2.2.2) _ B z_.view e (z_.r m) f (z_.r n) g (z_.r p))<|kC c λq c=>rI (Sl.shp i) q Z<|RT (Ls:=[(MO u (b[a.toNat]!.1) (b[a.toNat]!.2.1) e f (b[a.toNat]!.2.2.2.2.1) g (b[a.toNat]!.2.2.2.2.2.2)),d]) 1 (En:=Aa3) (h[a.toNat]!) A (a.toNat) 0 Z Z Z i (Dx q) Z Z Z (Jp Z) Z (λC J=> ?_)
  refine Ak<|z _ _ ?_
  refine Ah<|kC c λD c=>rX D Z<|rz Z<|fg _ (Sub.pick [(MO u (b[a.toNat]!.1) (b[a.toNat]!.2.1) e f (b[a.toNat]!.2.2.2.2.1) g (b[a.toNat]!.2.2.2.2.2.2)),C] [1] Z) ?_
  exact⟨s+1,by omega,s,(h).set (a.toNat) A,(a+1),c,C,J,Ag Z Z,Z⟩
 refine AG<|I _ _ ?_
 refine AZ Z ?_
 cases c
 refine Bh (λR=>GZ (v0:=H) i (Dy (Sub.pick [d] [0] Z)) Z (FZ Z))
def FV(_:Nat)(n:Int)(a:Int)(b:Int):Option Bool:=if n>=a then some (decide (n<=b))else some false
theorem Ps(N n a b r)(c:FV N n a b=some r):Gives prog 183 #[vI n,vI a,vI b] (vB r):=by
 unfold FV at c
 refine Aq follows func183 Z 15 Z _ fz3 (λf=> ?_)
 refine AZ Z<|Aa λg d=>Ah<|rn 4 Z ?_
 rcases e:(decide (n>=a))with _|_
 ·replace c:=iF e c
  refine rz Z<|d _ _ ?_
  cases c
  exact aR eE1
 replace c:=iD e c
 refine rz Z<|d _ _ ?_
 cases c
 exact aR eE1
def GA(N:Nat)(a:List ((W2)×(List Int)×(List (W1))))(i:Int):Option Bool:=ck ((R64 ((a.length:Int) - 1))) ((AA N i 0 ((a.length:Int) - 1)).bind λb=>some b)
theorem MW(N f i r)(a:GA N f i=some r)(h b)(g:RdN Ad7 h b f):Does prog 238 #[b,vI i] h [] (pV (vB r)):=by
 unfold GA at a
 refine Al follows func238 Z 10 Z _ fz2 (λc=> ?_)
 refine AZ Z<|Ad<|rn 2 Z<|rL (RdN.shp g) Z<|kC a λd a=>rX d Z<|kB a λj e a=>rc _ (cF Fz) (AR N i 0 ((f.length:Int) - 1) _ e)<|rz Z ?_
 cases a
 exact aR eV1
def JC(N:Nat)(_:Int)(a:Int)(b:Ao):Option Int:=(GA N b.2.2.2.2.2.1 a).bind λc=>(Ap N c 5).bind λd=>some d
theorem UK(N x a c r)(f:JC N x a c=some r)(k)(d:Nat)(b:AB)(g:Aa1 k b c)(e:Blk k d (GY c b)):Does prog 237 #[vI x,vI a,vP d 0] k [] (pV (vI r)):=by
 unfold JC at f
 refine Al follows func237 Z 12 Z _ fz3 (λh=> ?_)
 refine AZ Z<|Ad<|rn 2 Z<|HO b.2.2.2.2.1 (vs:=(GY c b)) (o:=5) Z Z (AT e) Z<|rn 1 Z<|kB f λl i f=>gV _ (cF WO) (λo w z_=>MW N c.2.2.2.2.2.1 a _ i z_.view b.2.2.2.2.1 (RdN.mono z_.ro_cell g.2.2.2.2.1))<|kB f λm j f=>rc _ (cF Bk) (Az N l 5 _ j)<|rz Z ?_
 cases f
 exact aR eV1
def Ky(N:Nat)(c:List Int)(b:Ao):Nat->Int->Option (Int×Int)
  |0,_=>none
  |e+1,a=>if a<(c.length:Int)then ck (0<=a/\a<(c.length:Int)) ((JC N a (c[a.toNat]!) b).bind λd=>if(d:Int)≠0 then some (a,d)else ck (R64 (a+1)) ((Ky N c b e) (a+1)))else some (0,0)
def Ot(N:Nat)(c:List Int)(b:Int)(a:Ao):Option (Int×Int):=if(c.length:Int)>b then some (0,2)else Ky N c a N 0
theorem ct(N x j c r)(b:Ot N x j c=some r)(z m)(h:Rd BE z m x)(a:Nat)(d:AB)(g:Aa1 z d c)(f:Blk z a (GY c d)):Does prog 115 #[m,vI j,vF 237 #[] #[vP a 0]] z [] (pV (vT #[vI r.1,vI r.2])):=by
 unfold Ot at b
 refine Al follows func115 Z 31 Z _ fz3 (λy=> ?_)
 refine AZ Z<|Aa λG A=>Ad<|rn 1 Z<|rL (Rd.shp h) Z<|rz Z<|aD b Z (λB b=> ?_) (λB b=> ?_)
 ·refine AZ Z ?_
  cases b
  exact aR eV2
 refine Ab<|A _ _ ?_
 refine Aa λH C=>Ad<|rn 1 Z<|rL (Rd.shp h) Z<|rz Z<|Ai<|AH (λtt ll nn=> ∃(k:Nat) (e:Int),(Ky N x c k e=some r)/\Is [(2,vF 237 #[] #[vP a 0]),(15,m),(16,vI (x.length:Int)),(17,vI e)] [] tt ll/\nn=k+1) (N+1) ?_ ?_
 ·exact⟨N,0,b,Ag Z Z,Z⟩
 clear b;rintro t l _ ⟨k,e,b,⟨⟨T,rfl⟩,rfl⟩,rfl⟩
 rcases k with _|k
 ·exact absurd b (by simp [Ky])
 rw [Ky] at b
 refine AZ Z<|Aa λD n=>aD b Z (λp b=> ?_) (λp b=> ?_)
 ·refine Ab<|n _ _ ?_
  refine Aa λE q=>Ai<|Ad<|rn 1 Z<|kC b λi b=>rI (Rd.shp h) i Z<|rE (Aw h) i 0 Z<|rz Z<|Ad<|rn 3 Z<|kB b λF s b=>gV _ (BO (caps:=[vP a 0]) Z nt Z) (λo w z_=>UK N e (x[e.toNat]!) c _ s z_.view a d (Aa1.mono z_.ro_cell g) (AT f o w z_))<|rz Z<|AZ Z<|aN b Z (λu b=> ?_) (λu b=> ?_)
  ·refine AZ Z ?_
   cases b
   exact aR eV2
  refine Ab<|q _ _ ?_
  refine Ah<|kC b λv b=>rX v Z<|rz Z<|fg _ (Sub.of suN) ?_
  exact⟨k+1,by omega,k,(e+1),b,Ag Z Z,Z⟩
 refine AG<|C _ _ ?_
 refine AZ Z ?_
 cases b
 exact aR eV2
def CE(s:List Int)(b:Int):Nat->Int->Option Int
  |0,_=>none
  |c+1,a=>if a<(s.length:Int)then ck (0<=a/\a<(s.length:Int)) (if b=s[a.toNat]! then some a else ck (R64 (a+1)) ((CE s b c) (a+1)))else some (-1)
def Il(N:Nat)(s:List Int)(a:Int):Option Int:=CE s a N 0
theorem Qr(N s h r)(a:Il N s h=some r)(p n)(o:Rd BE p n s):Does prog 192 #[n,vI h] p [] (pV (vI r)):=by
 unfold Il at a
 refine Al follows func192 Z 19 Z _ fz2 (λg=> ?_)
 refine AZ Z<|Aa λq i=>Ad<|rn 1 Z<|rL (Rd.shp o) Z<|rz Z<|Ai<|AH (λtt ll nn=> ∃(d:Nat) (b:Int),(CE s h d b=some r)/\Is [(0,n),(1,vI h),(7,vI (s.length:Int)),(8,vI b)] [] tt ll/\nn=d+1) (N+1) ?_ ?_
 ·exact⟨N,0,a,Ag Z Z,Z⟩
 clear a;rintro t l _ ⟨d,b,a,⟨⟨T,rfl⟩,rfl⟩,rfl⟩
 rcases d with _|d
 ·exact absurd a (by simp [CE])
 rw [CE] at a
 refine AZ Z<|Aa λu j=>aD a Z (λk a=> ?_) (λk a=> ?_)
 ·refine Ab<|j _ _ ?_
  refine Aa λv m=>Ai<|AZ Z<|Ad<|rn 3 Z<|kC a λc a=>rI (Rd.shp o) c Z<|rE (Aw o) c 0 Z<|rz Z<|aE a Z (λe a=> ?_) (λe a=> ?_)
  ·refine AZ Z ?_
   cases a
   exact aR eV1
  refine Ab<|m _ _ ?_
  refine Ah<|kC a λf a=>rX f Z<|rz Z<|fg _ (Sub.of suN) ?_
  exact⟨d+1,by omega,d,(b+1),a,Ag Z Z,Z⟩
 refine AG<|i _ _ ?_
 refine AZ Z ?_
 cases a
 exact aR eV1
def Bp(N:Nat)(s:List Int)(b:Int):Option Bool:=(Il N s b).bind λa=>some (decide (a>=0))
theorem IL(N s d r)(a:Bp N s d=some r)(f e)(g:Rd BE f e s):Does prog 117 #[e,vI d] f [] (pV (vB r)):=by
 unfold Bp at a
 refine Al follows func117 Z 9 Z _ fz2 (λb=> ?_)
 refine AZ Z<|Ad<|rn 2 Z<|kB a λh c a=>gV _ (cF nZ) (λo w z_=>Qr N s d _ c z_.view e (z_.r g))<|rz Z ?_
 cases a
 exact aR eV1
def JB(N:Nat)(i:Int)(a:Int)(b:List Int):Option Int:=ck (0<=i/\i<=(b.length:Int)) ((Bp N (((b).take (i.toNat)).drop 0) a).bind λc=>(Ap N (!(c)) 6).bind λd=>some d)
theorem UJ(N i a f r)(c:JB N i a f=some r)(m)(d:Nat)(b)(e:Rd BE m b f)(g:Blk m d [b]):Does prog 239 #[vI i,vI a,vP d 0] m [] (pV (vI r)):=by
 unfold JB at c
 refine Al follows func239 Z 13 Z _ fz3 (λj=> ?_)
 refine AZ Z<|Ad<|HO b (vs:=[b]) (o:=0) Z Z (AT g) Z<|rn 1 Z<|kC c λh c=>r_W (GE b 0 (i.toNat) 1) Z (Fc (Jb Z Z Z Z (Rd.shp e) h))<|rn 1 Z<|kB c λn k c=>gV _ (cF WW) (λo w z_=>IL N (((f).take (i.toNat)).drop 0) a _ k z_.view (GE b 0 (i.toNat) 1) ((PL (Aw e) (Nat.zero_le _) (Hp h.2)) o w z_))<|rn 1 Z<|kB c λp l c=>rc _ (cF Bk) (Az N (!(n)) 6 _ l)<|rz Z ?_
 cases c
 exact aR eV1
def Kx(N:Nat)(c:List Int)(b:List Int):Nat->Int->Option (Int×Int)
  |0,_=>none
  |e+1,a=>if a<(c.length:Int)then ck (0<=a/\a<(c.length:Int)) ((JB N a (c[a.toNat]!) b).bind λd=>if(d:Int)≠0 then some (a,d)else ck (R64 (a+1)) ((Kx N c b e) (a+1)))else some (0,0)
def Oq(N:Nat)(c:List Int)(b:Int)(a:List Int):Option (Int×Int):=if(c.length:Int)>b then some (0,2)else Kx N c a N 0
theorem cr(N x j c r)(b:Oq N x j c=some r)(z m)(h:Rd BE z m x)(a:Nat)(d)(g:Rd BE z d c)(f:Blk z a [d]):Does prog 115 #[m,vI j,vF 239 #[] #[vP a 0]] z [] (pV (vT #[vI r.1,vI r.2])):=by
 unfold Oq at b
 refine Al follows func115 Z 31 Z _ fz3 (λy=> ?_)
 refine AZ Z<|Aa λG A=>Ad<|rn 1 Z<|rL (Rd.shp h) Z<|rz Z<|aD b Z (λB b=> ?_) (λB b=> ?_)
 ·refine AZ Z ?_
  cases b
  exact aR eV2
 refine Ab<|A _ _ ?_
 refine Aa λH C=>Ad<|rn 1 Z<|rL (Rd.shp h) Z<|rz Z<|Ai<|AH (λtt ll nn=> ∃(k:Nat) (e:Int),(Kx N x c k e=some r)/\Is [(2,vF 239 #[] #[vP a 0]),(15,m),(16,vI (x.length:Int)),(17,vI e)] [] tt ll/\nn=k+1) (N+1) ?_ ?_
 ·exact⟨N,0,b,Ag Z Z,Z⟩
 clear b;rintro t l _ ⟨k,e,b,⟨⟨T,rfl⟩,rfl⟩,rfl⟩
 rcases k with _|k
 ·exact absurd b (by simp [Kx])
 rw [Kx] at b
 refine AZ Z<|Aa λD n=>aD b Z (λp b=> ?_) (λp b=> ?_)
 ·refine Ab<|n _ _ ?_
  refine Aa λE q=>Ai<|Ad<|rn 1 Z<|kC b λi b=>rI (Rd.shp h) i Z<|rE (Aw h) i 0 Z<|rz Z<|Ad<|rn 3 Z<|kB b λF s b=>gV _ (BO (caps:=[vP a 0]) Z nr Z) (λo w z_=>UJ N e (x[e.toNat]!) c _ s z_.view a d (z_.r g) (AT f o w z_))<|rz Z<|AZ Z<|aN b Z (λu b=> ?_) (λu b=> ?_)
  ·refine AZ Z ?_
   cases b
   exact aR eV2
  refine Ab<|q _ _ ?_
  refine Ah<|kC b λv b=>rX v Z<|rz Z<|fg _ (Sub.of suN) ?_
  exact⟨k+1,by omega,k,(e+1),b,Ag Z Z,Z⟩
 refine AG<|C _ _ ?_
 refine AZ Z ?_
 cases b
 exact aR eV2
def IE(N:Nat)(c:Ao)(a:List Int):Option Int:=(Ot N a 8 c).bind λf=>(Oq N a 8 a).bind λe=>(Ap N (decide ((a.length:Int)>0)) 5).bind λd=>(AI N ([d,f.2,e.2])).bind λb=>some b
theorem XM(N c e r)(d:IE N c e=some r)(v)(i:AB)(z:Aa1 v i c)(a)(b:Rd BE v a e):Does prog 184 #[vA (Ac c i),a] v [] (pV (vI r)):=by
 unfold IE at d
 refine Al follows func184 Z 29 Z _ fz2 (λj=> ?_)
 refine Ad<|rA Z λl=>r_a (29, #[a]) Z Z (Od Z (Rd.shp b)) (λm=> ?_) (.inr Z)
 refine rz Z<|Ad<|rm 1 [0] Z<|r_W (vF 237 #[] #[vP l 0]) Z (Jc Z)<|kB d λx n d=>gV _ (cF Th) (λo w z_=>ct N e 8 c _ n z_.view a ((Aw b) o w z_) l i (Aa1.mono z_.ro_cell z) (CN 1 Z Z o w z_))<|rz Z<|Ad<|rm 1 [0] Z<|r_W (vF 239 #[] #[vP m 0]) Z (Jc Z)<|kB d λy p d=>gV _ (cF Th) (λo w z_=>cr N e 8 e _ p z_.view a ((Aw b) o w z_) m a ((Aw b) o w z_) (CN 0 Z Z o w z_))<|rz Z<|Ad<|rm 1 [0] Z<|rL (Rd.shp b) Z<|rn 1 Z<|kB d λf g d=>rc _ (cF Bk) (Az N (decide ((e.length:Int)>0)) 5 _ g)<|rn 2 Z<|gB (Ls:=[(gE m a),[(l,104,(Ac c i))]]) 43 BE [f,x.2,y.2] (λq s t=> ?_)
 refine kB d λu h d=>gV _ (cF Fb) (λo w z_=>Cc N ([f,x.2,y.2]) _ h z_.view q ((Ax t (Aj (Ls:=[(gE m a),[(l,104,(Ac c i))],s]) (k:=2) Z Z)) o w z_))<|rz Z<|GS [(4,vI u)] Z (λT=> ?_)
 cases d
 exact aR eV1
def KT(N:Nat)(i:Int)(b:Int)(c:W3)(a:List Int):Option Int:=ck (0<=i/\i<(a.length:Int)) ((Ga N b c (a[i.toNat]!)).bind λd=>(Ap N d 9).bind λe=>some e)
theorem XP(N i h b f r)(c:KT N i h b f=some r)(p)(d:Nat)(a)(e:Rd BE p a f)(g:Blk p d [a]):Does prog 241 #[vI i,vA #[vI h,U (hi b),U (lo b)],vP d 0] p [] (pV (vI r)):=by
 unfold KT at c
 refine Al follows func241 Z 13 Z _ fz3 (λk=> ?_)
 refine Ad<|rA Z λs=>rz Z<|Aa λt l=>Ia [] (by decide+kernel) (λu=>AK)<|rm 1 [0] Z<|HO a (vs:=[a]) (o:=0) Z Z (AT g) Z<|rn 1 Z<|kC c λj c=>rI (Rd.shp e) j Z<|rE (Aw e) j 0 Z<|kB c λq m c=>rc _ (cF WP) (ON N h b (f[i.toNat]!) _ m)<|kB c λv n c=>rc _ (cF Bk) (Az N q 9 _ n)<|rz Z<|l _ _ ?_
 cases c
 exact aR eV1
def KD(N:Nat)(c:List (Int×W3))(b:List Int):Nat->Int->Option (Int×Int)
  |0,_=>none
  |e+1,a=>if a<(c.length:Int)then ck (0<=a/\a<(c.length:Int)) ((KT N a ((c[a.toNat]!).1) ((c[a.toNat]!).2) b).bind λd=>if(d:Int)≠0 then some (a,d)else ck (R64 (a+1)) ((KD N c b e) (a+1)))else some (0,0)
def Oz(N:Nat)(c:List (Int×W3))(b:Int)(a:List Int):Option (Int×Int):=if(c.length:Int)>b then some (0,2)else KD N c a N 0
theorem cz(N n j c r)(b:Oz N n j c=some r)(z m)(h:Rd Ad0 z m n)(a:Nat)(d)(g:Rd BE z d c)(f:Blk z a [d]):Does prog 240 #[m,vI j,vF 241 #[] #[vP a 0]] z [] (pV (vT #[vI r.1,vI r.2])):=by
 unfold Oz at b
 refine Al follows func240 Z 31 Z _ fz3 (λy=> ?_)
 refine AZ Z<|Aa λH A=>Ad<|rn 1 Z<|rL (Rd.shp h) Z<|rz Z<|aD b Z (λB b=> ?_) (λB b=> ?_)
 ·refine AZ Z ?_
  cases b
  exact aR eV2
 refine Ab<|A _ _ ?_
 refine Aa λI C=>Ad<|rn 1 Z<|rL (Rd.shp h) Z<|rz Z<|Ai<|AH (λtt ll nn=> ∃(k:Nat) (e:Int),(KD N n c k e=some r)/\Is [(2,vF 241 #[] #[vP a 0]),(15,m),(16,vI (n.length:Int)),(17,vI e)] [] tt ll/\nn=k+1) (N+1) ?_ ?_
 ·exact⟨N,0,b,Ag Z Z,Z⟩
 clear b;rintro t l _ ⟨k,e,b,⟨⟨T,rfl⟩,rfl⟩,rfl⟩
 rcases k with _|k
 ·exact absurd b (by simp [KD])
 rw [KD] at b
 refine AZ Z<|Aa λD p=>aD b Z (λq b=> ?_) (λq b=> ?_)
 ·refine Ab<|p _ _ ?_
  refine Aa λE s=>Ai<|Ad<|rn 1 Z<|kC b λi b=>rI (Rd.shp h) i Z<|rE (Aw h) i 0 Z<|rA Z λF=>ry [0] Z<|Ad<|rm 3 [0] Z<|kB b λG u b=>gV _ (BO (caps:=[vP a 0]) Z np Z) (λo w z_=>XP N e ((n[e.toNat]!).1) ((n[e.toNat]!).2) c _ u z_.view a d (z_.r g) (AT f o w z_))<|rz Z<|AZ Z<|aN b Z (λv b=> ?_) (λv b=> ?_)
  ·refine AZ Z ?_
   cases b
   exact aR eV2
  refine Ab<|s _ _ ?_
  refine Ah<|kC b λx b=>rX x Z<|rz Z<|fg _ (Sub.of (suC _ suN)) ?_
  exact⟨k+1,by omega,k,(e+1),b,Ag Z Z,Z⟩
 refine AG<|C _ _ ?_
 refine AZ Z ?_
 cases b
 exact aR eV2
def Ji(N:Nat)(c:Ao)(a:Int)(b:List (Int×W3)):Option Int:=(GA N c.2.2.2.2.2.1 a).bind λe=>if e=true then ck (0<=a/\a<(c.2.2.2.2.2.1.length:Int)) (if(b.length:Int)≠(((c.2.2.2.2.2.1)[a.toNat]!.2.1).length:Int)then some 2 else(Oz N b (b.length:Int) ((c.2.2.2.2.2.1)[a.toNat]!.2.1)).bind λd=>some d.2)else some 5
theorem Uo(N c a p r)(b:Ji N c a p=some r)(y)(q:AB)(s:Aa1 y q c)(i)(j:Rd Ad0 y i p):Does prog 185 #[vA (Ac c q),vI a,i] y [] (pV (vI r)):=by
 unfold Ji at b
 refine Al follows func185 Z 37 Z _ fz3 (λn=> ?_)
 refine Ad<|rA Z λA=>rz Z<|Aa λC t=>Ad<|rm 4 [0] Z<|kB b λD u b=>gV _ (cF WO) (λo w z_=>MW N c.2.2.2.2.2.1 a _ u z_.view q.2.2.2.2.1 (RdN.mono z_.ro_cell s.2.2.2.2.1))<|rz Z<|BI _ Z (λg=> ?_) (λg=> ?_)
 ·replace b:=ifn (Bool.eq_false_iff.1 (Dk g)) b
  refine AZ Z ?_
  cases b
  exact aR eV1
 replace b:=ifp (Dl g) b
 refine Ab<|t _ _ ?_
 refine Ad<|rm 4 [0] Z<|kC b λe b=> ?_
 obtain⟨_,⟨f,v,d,z,rfl⟩,hat15⟩:=RdN.at (E:=Ad7) s.2.2.2.2.1 (Dx e)
 refine rI (RdN.shp s.2.2.2.2.1) e Z<|rF (RdN.shp s.2.2.2.2.1) (Bf e) Z<|Oe f (vs:=[vS ((c.2.2.2.2.2.1)[a.toNat]!.1),f,v]) (a.toNat*3) 1 Z Z (λo w z_=>At.mono z_.ro_cell hat15) Z<|rA Z λh=>r_s [(h,29, #[f]),(A,104,(Ac c q))] 0 _ _ _ _ _ (#[f]) Z Z Z (Gs Z (Rd.shp d)) (.ofS Z Z (Ae (Shp.one (Rd.shp d)) BA)) Z Z<|Ak<|Aa λB k=>Ad<|rn 1 Z<|rL (Rd.shp j) Z<|rm 1 [0] Z<|rL (Rd.shp d) Z<|rz Z ?_
 refine aN b Z (λl b=> ?_) (λl b=> ?_)
 ·refine AZ Z ?_
  cases b
  exact aR eV1
 refine Ab<|k _ _ ?_
 refine Ad<|rn 2 Z<|rL (Rd.shp j) Z<|r_W (vF 241 #[] #[vP h 0]) Z (Jc Z)<|kB b λx m b=>gV _ (cF nq) (λo w z_=>cz N p (p.length:Int) ((c.2.2.2.2.2.1)[a.toNat]!.2.1) _ m z_.view i ((Aw j) o w z_) h f (z_.r d) (CN 0 Z Z o w z_))<|rz Z<|GS [(9,vI x.2)] Z (λT=> ?_)
 refine AZ Z ?_
 cases b
 exact aR eV1
def Jq(N:Nat)(c:Ao)(_:W2)(k:Int)(a:List (Int×Int×Int))(b:List Int)(d:Int)(i:List (Int×W3))(m:Int):Option Int:=(FV N k 0 3).bind λq=>(Ap N q 10).bind λr=>(Ap N (decide ((a.length:Int)>0)) 5).bind λp=>(IC N c a 2).bind λn=>(IE N c b).bind λl=>(Bp N b d).bind λh=>(Ap N h 16).bind λo=>(Ji N c d i).bind λg=>(AA N m 1 256).bind λf=>(Ap N f 7).bind λj=>(AI N ([r,p,n,l,o,g,j])).bind λe=>some e
theorem ZY(N c z p i f d y q r)(a:Jq N c z p i f d y q=some r)(W)(K:AB)(hc:Aa1 W K c)(g)(B:Rd Ad1 W g i)(e)(C:Rd BE W e f)(h)(X:Rd Ad0 W h y):DoesI prog 113 #[vA (Ac c K),vA #[vS z,vI p,g,e,vI d,h,vI q]] Ho W [] (pV (vI r)):=by
 unfold Jq at a
 refine Be follows func113 Z 43 Z _ fz2 Bi (λY=> ?_)
 refine Ad<|rA Z λb2=>rA Z λb3=>rz Z<|Aa λK4 aa=> ?_
 refine BB [(some 17,false),(some 21,false),(some 27,false),(some 36,false),(some 41,false),(some 42,false)] (conG prog [(17,cV (IC N c i 2) λb=>vI b),(21,cV (IE N c f) λb=>vI b),(27,cV (Bp N f d) λb=>vB b),(36,cV (Ji N c d y) λb=>vI b),(42,λ_ _ v_ L_ U_=> ∀b,FV N p 0 3=some b-> ∀L,Ap N b 10=some L-> ∀M,Ap N (decide ((i.length:Int)>0)) 5=some M-> ∀O,IC N c i 2=some O-> ∀P,IE N c f=some P-> ∀Q,Bp N f d=some Q-> ∀R,Ap N Q 16=some R-> ∀S,Ji N c d y=some S-> ∀U,AA N q 1 256=some U-> ∀V,Ap N U 7=some V-> ∀A,AI N ([L,M,O,P,R,S,V])=some A->(pV (vI A)) v_ L_ U_)]) [] (by decide+kernel) (λhn=>AK) ?_
 refine rm 2 [0] Z<|kB a λr5 D a=>rc _ (cF ol) (Ps N p 0 3 _ D)<|kB a λr7 E a=>rc _ (cF Bk) (Az N r5 10 _ E)<|rm 2 [0] Z<|rL (Rd.shp B) Z<|rn 1 Z<|kB a λr9 s a=>rc _ (cF Bk) (Az N (decide ((i.length:Int)>0)) 5 _ s)<|rm 3 [1,0] Z<|kB a λF j a=>rg _ (cF dJ) (λo w z_=>Wm N c i 2 _ j z_.view K (Aa1.mono z_.ro_cell hc) g (z_.r B)) (GQ j)<|rm 3 [1,0] Z<|kB a λG l a=>rg _ (cF oh) (λo w z_=>(Does.inv (XM N c f _ l z_.view K (Aa1.mono z_.ro_cell hc) e (z_.r C)) _)) (GQ l)<|rm 5 [0,0] Z<|kB a λad m a=>rg _ (cF WW) (λo w z_=>(Does.inv (IL N f d _ m z_.view e (z_.r C)) _)) (GQ m)<|kB a λH t a=>rc _ (cF Bk) (Az N ad 16 _ t)<|rm 7 [1,0,0] Z<|kB a λI n a=>rg _ (cF dI) (λo w z_=>(Does.inv (Uo N c d y _ n z_.view K (Aa1.mono z_.ro_cell hc) h (z_.r X)) _)) (GQ n)<|rm 2 [0] Z<|kB a λae u a=>rc _ (cF Fz) (AR N q 1 256 _ u)<|kB a λJ v a=>rc _ (cF Bk) (Az N ae 7 _ v) ?_
 refine Ke (Ls:=[(MO b3 z p g e d h q),[(b2,104,(Ac c K))]]) 43 BE [r7,r9,F,G,H,I,J] [vI r7,vI r9,vI F,vI G,vI H,vI I,vI J] [vI 0,vI 0,vI 0,vI 0,vI 0,vI 0,vI 0] Z Z Z Z Z Z Z (by kernel_rfl) (by kernel_rfl) Z Z Z (λaf ag ah=> ?_)
 refine kB a λai x a=>rg _ (cF Fb) (λo w z_=>(Does.inv (Cc N ([r7,r9,F,G,H,I,J]) _ x z_.view af ((Ax ah (Aj (Ls:=[(MO b3 z p g e d h q),[(b2,104,(Ac c K))],ag]) (k:=2) Z Z)) o w z_)) _)) (λ_ _ v_ L_ U_=>⟨λh_=>h_ _ D _ E _ s _ j _ l _ m _ t _ n _ u _ v _ x,λh_=>by intro _ e_;cases q1 (e_.symm.trans D);intro _ e_;cases q1 (e_.symm.trans E);intro _ e_;cases q1 (e_.symm.trans s);intro _ e_;cases q1 (e_.symm.trans j);intro _ e_;cases q1 (e_.symm.trans l);intro _ e_;cases q1 (e_.symm.trans m);intro _ e_;cases q1 (e_.symm.trans t);intro _ e_;cases q1 (e_.symm.trans n);intro _ e_;cases q1 (e_.symm.trans u);intro _ e_;cases q1 (e_.symm.trans v);intro _ e_;cases q1 (e_.symm.trans x);exact h_⟩) ?_
 refine rz Z<|aa _ _ ?_
 refine GS [(4,vI ai)] Z (λT=> ?_)
 cases a
 exact aR eV1
def KZ(N:Nat)(i:Int)(d:W2)(f:Int)(e:List (Int×Int×Int))(k:List Int)(l:Int)(c:List (Int×W3))(h:Int)(b:List (W2))(a:Ao):Option Int:=ck (0<=i/\i<(b.length:Int)) ((EZ N (b[i.toNat]!)).bind λn=>(Ap N n 4).bind λo=>(Ba N b i).bind λm=>(Jq N a d f e k l c h).bind λj=>(AI N ([o,m,j])).bind λg=>some g)
theorem Ux(N i h j y z l A m g a r)(p:KZ N i h j y z l A m g a=some r)(D d)(O:Rd Ad1 D d y)(e)(P:Rd BE D e z)(f)(Q:Rd Ad0 D f A)(B:Nat)(c)(u:Rd Aa3 D c g)(v:Blk D B [c])(C:Nat)(b:AB)(n:Aa1 D b a)(E:Blk D C [vF 113 #[vA (Ac a b)] #[]]):DoesI prog 182 #[vI i,vA #[vS h,vI j,d,e,vI l,f,vI m],vP B 0,vP C 0] Ho D [] (pV (vI r)):=by
 unfold KZ at p
 refine Be follows func182 Z 21 Z _ fz4 Bi (λR=> ?_)
 refine Ad<|rA Z λY=>rz Z<|Aa λK3 S=> ?_
 refine BB [(some 15,false),(some 18,false),(some 19,false),(some 20,false)] (conG prog [(15,cV (Ba N g i) λt=>vI t),(18,cV (Jq N a h j y z l A m) λt=>vI t),(20,λ_ _ v_ L_ U_=> ∀t,EZ N (g[i.toNat]!)=some t-> ∀I,Ap N t 4=some I-> ∀J,Ba N g i=some J-> ∀K,Jq N a h j y z l A m=some K-> ∀L,AI N ([I,J,K])=some L->(pV (vI L)) v_ L_ U_)]) [] (by decide+kernel) (λhn=>AK) ?_
 refine HO c (vs:=[c]) (o:=0) Z Z (AT v) Z<|rn 1 Z<|kC p λM p=>rI (Rd.shp u) M Z<|rE (Aw u) M 0 Z<|kB p λr5 F p=>rc _ (cF Oc) (Mo N (g[i.toNat]!) _ F)<|kB p λT G p=>rc _ (cF Bk) (Az N r5 4 _ G)<|HO c (vs:=[c]) (o:=0) Z Z (AT v) Z<|rn 1 Z<|kB p λU q p=>rg _ (cF OI) (λo w z_=>(Does.inv (Iu N g i _ q z_.view c (z_.r u)) _)) (GQ q)<|HO (vF 113 #[vA (Ac a b)] #[]) (vs:=[vF 113 #[vA (Ac a b)] #[]]) (o:=0) Z Z (AT E) Z<|rm 1 [0] Z<|kB p λH s p=>rg _ (QW (bd:=[vA (Ac a b)]) (caps:=[]) Z pw Z) (λo w z_=>ZY N a h j y z l A m _ s z_.view b (Aa1.mono z_.ro_cell n) d (z_.r O) e (z_.r P) f (z_.r Q)) (GQ s) ?_
 refine Ke (Ls:=[(MO Y h j d e l f m)]) 43 BE [T,U,H] [vI T,vI U,vI H] [vI 0,vI 0,vI 0] Z Z Z Z Z Z Z (by kernel_rfl) (by kernel_rfl) Z Z Z (λV W X=> ?_)
 refine kB p λab x p=>rg _ (cF Fb) (λo w z_=>(Does.inv (Cc N ([T,U,H]) _ x z_.view V ((Ax X (Aj (Ls:=[(MO Y h j d e l f m),W]) (k:=1) Z Z)) o w z_)) _)) (λ_ _ v_ L_ U_=>⟨λh_=>h_ _ F _ G _ q _ s _ x,λh_=>by intro _ e_;cases q1 (e_.symm.trans F);intro _ e_;cases q1 (e_.symm.trans G);intro _ e_;cases q1 (e_.symm.trans q);intro _ e_;cases q1 (e_.symm.trans s);intro _ e_;cases q1 (e_.symm.trans x);exact h_⟩) ?_
 refine rz Z<|S _ _ ?_
 cases p
 exact aR eV1
def IU(N:Nat)(c:List ((W2)×Int×(List (Int×Int×Int))×(List Int)×Int×(List (Int×W3))×Int))(d:List (W2))(b:Ao):Nat->Int->Option (Int×Int)
  |0,_=>none
  |f+1,a=>if a<(c.length:Int)then ck (0<=a/\a<(c.length:Int)) ((KZ N a (c[a.toNat]!.1) (c[a.toNat]!.2.1) (c[a.toNat]!.2.2.1) (c[a.toNat]!.2.2.2.1) (c[a.toNat]!.2.2.2.2.1) (c[a.toNat]!.2.2.2.2.2.1) (c[a.toNat]!.2.2.2.2.2.2) d b).bind λe=>if(e:Int)≠0 then some (a,e)else ck (R64 (a+1)) ((IU N c d b f) (a+1)))else some (0,0)
def MF(N:Nat)(d:List ((W2)×Int×(List (Int×Int×Int))×(List Int)×Int×(List (Int×W3))×Int))(c:Int)(b:List (W2))(a:Ao):Option (Int×Int):=if(d.length:Int)>c then some (0,2)else IU N d b a N 0
theorem XD(N f A h b r)(g:MF N f A h b=some r)(D C)(u:RdN Ae2 D C f)(d:Nat)(i)(s:Rd Aa3 D i h)(k:Blk D d [i])(e:Nat)(c:AB)(j:Aa1 D c b)(m:Blk D e [vF 113 #[vA (Ac b c)] #[]]):DoesI prog 181 #[C,vI A,vF 182 #[] #[vP d 0,vP e 0]] Ho D [] (pV (vT #[vI r.1,vI r.2])):=by
 unfold MF at g
 refine Be follows func181 Z 31 Z _ fz3 Bi (λL=> ?_)
 refine AZ Z<|Aa λV M=>Ad<|rn 1 Z<|rL (RdN.shp u) Z<|rz Z<|aD g Z (λO g=> ?_) (λO g=> ?_)
 ·refine AZ Z ?_
  cases g
  exact aR eV2
 refine Ab<|M _ _ ?_
 refine Aa λW P=>Ad<|rn 1 Z<|rL (RdN.shp u) Z<|rz Z<|Ai<|AH (λtt ll nn=> ∃(B:Nat) (a:Int),(IU N f h b B a=some r)/\Is [(2,vF 182 #[] #[vP d 0,vP e 0]),(15,C),(16,vI (f.length:Int)),(17,vI a)] [] tt ll/\nn=B+1) (N+1) ?_ ?_
 ·exact⟨N,0,g,Ag Z Z,Z⟩
 clear g;rintro t l _ ⟨B,a,g,⟨⟨T,rfl⟩,rfl⟩,rfl⟩
 rcases B with _|B
 ·exact absurd g (by simp [IU])
 rw [IU] at g
 refine AZ Z<|Aa λR F=>aD g Z (λG g=> ?_) (λG g=> ?_)
 ·refine Ab<|F _ _ ?_
  refine Aa λS H=>Ai<|Ad<|rn 1 Z<|kC g λv g=> ?_
  obtain⟨_,⟨n,p,q,x,y,z,rfl⟩,hat21⟩:=RdN.at (E:=Ae2) u (Dx v)
  refine rI (RdN.shp u) v Z<|Oe (vA #[vS (f[a.toNat]!.1),vI (f[a.toNat]!.2.1),n,p,vI (f[a.toNat]!.2.2.2.2.1),q,vI (f[a.toNat]!.2.2.2.2.2.2)]) (vs:=[vS (f[a.toNat]!.1),vI (f[a.toNat]!.2.1),n,p,vI (f[a.toNat]!.2.2.2.2.1),q,vI (f[a.toNat]!.2.2.2.2.2.2)]) (a.toNat*7) 0 Z Z (λo w z_=>At.mono z_.ro_cell hat21) Z<|rA Z λQ=>rn 1 Z<|r_s (MO Q (f[a.toNat]!.1) (f[a.toNat]!.2.1) n p (f[a.toNat]!.2.2.2.2.1) q (f[a.toNat]!.2.2.2.2.2.2)) 0 _ _ _ _ _ (#[vS (f[a.toNat]!.1),vI (f[a.toNat]!.2.1),n,p,vI (f[a.toNat]!.2.2.2.2.1),q,vI (f[a.toNat]!.2.2.2.2.2.2)]) Z Z Z Z (.ofS Z Z (Ae Z (Ae Z (Ae (Shp.one (Rd.shp x)) (Ae (Shp.one (Rd.shp y)) (Ae Z (Ae (Shp.one (Rd.shp z)) (Ae Z BA)))))))) Z Z<|Ak<|Ad<|rn 2 Z ?_
  refine rm 1 [0] Z<|kB g λU I g=>gV _ (BO (caps:=[vP d 0,vP e 0]) Z om Z) (λo w z_=>Ux N a (f[a.toNat]!.1) (f[a.toNat]!.2.1) (f[a.toNat]!.2.2.1) (f[a.toNat]!.2.2.2.1) (f[a.toNat]!.2.2.2.2.1) (f[a.toNat]!.2.2.2.2.2.1) (f[a.toNat]!.2.2.2.2.2.2) h b _ I z_.view n (z_.r x) p (z_.r y) q (z_.r z) d i (z_.r s) (AT k o w z_) e c (Aa1.mono z_.ro_cell j) (AT m o w z_)) ?_
  refine rz Z<|AZ Z<|aN g Z (λJ g=> ?_) (λJ g=> ?_)
  ·refine AZ Z ?_
   cases g
   exact aR eV2
  refine Ab<|H _ _ ?_
  refine Ah<|kC g λK g=>rX K Z<|rz Z<|fg _ (Sub.of (suC _ suN)) ?_
  exact⟨B+1,by omega,B,(a+1),g,Ag Z Z,Z⟩
 refine AG<|P _ _ ?_
 refine AZ Z ?_
 cases g
 exact aR eV2
def OO(N:Nat)(d:List ((W2)×Int×(List (Int×Int×Int))×(List Int)×Int×(List (Int×W3))×Int))(c:Int)(a:Ao):Option (Int×Int):=(OS N d).bind λe=>(MF N d c e a).bind λb=>some (b.1,b.2)
theorem Xu(N n c b r)(f:OO N n c b=some r)(s e)(i:RdN Ae2 s e n)(a:AB)(d:Aa1 s a b):DoesI prog 111 #[e,vI c,vF 112 #[] #[],vF 113 #[vA (Ac b a)] #[]] Ho s [] (pV (vT #[vI r.1,vI r.2])):=by
 unfold OO at f
 refine Be follows func111 Z 20 Z _ fz4 Bi (λj=> ?_)
 refine Ad<|rA Z λg=>rz Z<|Ad<|rn 2 Z<|kB f λu p f=>gS (Ls:=[(VS g (vF 113 #[vA (Ac b a)] #[]))]) (cF oq) (λo w z_=>(Does.inv (Xz N n _ p z_.view e (RdN.mono z_.ro_cell i)) _)) (λl t q=> ?_)
 refine rA Z λm=>r_s (List.flatten [(ce m l),(VS g (vF 113 #[vA (Ac b a)] #[])),t]) 0 _ _ _ _ _ (#[l]) Z Z Z (Gs Z (Sl.shp q)) (.ofS Z Z (Ae (Shp.one (Sl.shp q)) BA)) Z Z<|Ak<|Ad<|rn 2 Z<|r_W (vF 182 #[] #[vP m 0,vP g 0]) Z (Jc Z)<|kB f λv h f=>gV _ (cF oo) (λo w z_=>XD N n c u b _ h z_.view e (RdN.mono z_.ro_cell i) m l ((Ax q (Aj (Ls:=[(ce m l),(VS g (vF 113 #[vA (Ac b a)] #[])),t]) (k:=2) Z Z)) o w z_) (CN 0 Z Z o w z_) g a (Aa1.mono z_.ro_cell d) (CN 1 Z Z o w z_))<|rz Z ?_
 cases f
 exact aR eV2
def JH(N:Nat)(c:Ao):Option (Int×Int):=(OO N c.2.2.2.2.2.2.1 8 c).bind λa=>some (a.1,a.2)
theorem XH(N c r)(b:JH N c=some r)(f)(a:AB)(g:Aa1 f a c):DoesI prog 55 #[vA (Ac c a)] Ho f [] (pV (vT #[vI r.1,vI r.2])):=by
 unfold JH at b
 refine Be follows func55 Z 12 Z _ fz1 Bi (λd=> ?_)
 refine Ad<|rA Z λh=>rz Z<|Ad<|rm 4 [0,0] Z<|r_W (vF 113 #[vA (Ac c a)] #[]) Z (Jv Z Z)<|kB b λi e b=>gV _ (cF py) (λo w z_=>Xu N c.2.2.2.2.2.2.1 8 c _ e z_.view a.2.2.2.2.2.1 (RdN.mono z_.ro_cell g.2.2.2.2.2.1) a (Aa1.mono z_.ro_cell g))<|rz Z ?_
 cases b
 exact aR eV2
def LT(N:Nat)(a:List ((W2)×Int×(List (Int×Int×Int))×(List Int)×Int×(List (Int×W3))×Int))(i:Int):Option Bool:=ck ((R64 ((a.length:Int) - 1))) ((AA N i 0 ((a.length:Int) - 1)).bind λb=>some b)
theorem Wb(N f i r)(a:LT N f i=some r)(h b)(g:RdN Ae2 h b f):Does prog 242 #[b,vI i] h [] (pV (vB r)):=by
 unfold LT at a
 refine Al follows func242 Z 10 Z _ fz2 (λc=> ?_)
 refine AZ Z<|Ad<|rn 2 Z<|rL (RdN.shp g) Z<|kC a λd a=>rX d Z<|kB a λj e a=>rc _ (cF Fz) (AR N i 0 ((f.length:Int) - 1) _ e)<|rz Z ?_
 cases a
 exact aR eV1
def GW(N:Nat)(c:Ao)(a:Int)(b:Int)(_:List (W1))(_:List (Int×W3))(_:Int)(_:Int):Option Int:=if a=0 then(LT N c.2.2.2.2.2.2.1 b).bind λj=>(Ap N j 5).bind λh=>some h else if a=1 then(Ap N (b==0) 5).bind λg=>some g else if a=2 then(GA N c.2.2.2.2.2.1 b).bind λe=>(Ap N e 5).bind λf=>some f else if a=3 then(Ha N c b).bind λd=>(Ap N d 5).bind λi=>some i else some 10
theorem TP(N c q b s t u v r)(a:GW N c q b s t u v=some r)(z)(x:AB)(E:Aa1 z x c)(d:Value)(_hx_2:Rd Ac8 z d s)(e:Value)(_hx_3:Rd Ad0 z e t):Does prog 188 #[vA (Ac c x),vA #[vI q,vI b,d,e,vI u,vI v]] z [] (pV (vI r)):=by
 unfold GW at a
 refine Al follows func188 Z 39 Z _ fz2 (λy=> ?_)
 refine Ad<|rA Z λK=>rA Z λL=>rz Z<|Aa λM A=>AY [0] Z<|Ai<|AZ Z<|aE a Z (λB a=> ?_) (λB a=> ?_)
 ·refine Ad<|rm 5 [1,0] Z<|kB a λF f a=>gV _ (cF nl) (λo w z_=>Wb N c.2.2.2.2.2.2.1 b _ f z_.view x.2.2.2.2.2.1 (RdN.mono z_.ro_cell E.2.2.2.2.2.1))<|kB a λG g a=>rc _ (cF Bk) (Az N F 5 _ g)<|rz Z ?_
  cases a
  exact aR eV1
 refine AZ Z<|aE a Z (λh a=> ?_) (λh a=> ?_)
 ·refine Ad<|rm 3 [0] Z<|kB a λH i a=>rc _ (cF Bk) (Az N (b==0) 5 _ i)<|rz Z ?_
  cases a
  exact aR eV1
 refine AZ Z<|aE a Z (λj a=> ?_) (λj a=> ?_)
 ·refine Ad<|rm 5 [1,0] Z<|kB a λC k a=>gV _ (cF WO) (λo w z_=>MW N c.2.2.2.2.2.1 b _ k z_.view x.2.2.2.2.1 (RdN.mono z_.ro_cell E.2.2.2.2.1))<|kB a λI l a=>rc _ (cF Bk) (Az N C 5 _ l)<|rz Z ?_
  cases a
  exact aR eV1
 refine AZ Z<|aE a Z (λm a=> ?_) (λm a=> ?_)
 ·refine Ad<|rm 4 [1,0] Z<|kB a λD n a=>gV _ (cF aT) (λo w z_=>OM N c b _ n z_.view x (Aa1.mono z_.ro_cell E))<|kB a λJ p a=>rc _ (cF Bk) (Az N D 5 _ p)<|rz Z ?_
  cases a
  exact aR eV1
 refine Ab<|A _ _ ?_
 refine AZ Z ?_
 cases a
 exact aR eV1
def Hv(N:Nat)(c:Ao)(b:Int)(_:Int)(a:List (W1))(_:List (Int×W3))(_:Int)(_:Int):Option Int:=if b=1 then(HD N c ([]) a).bind λe=>some e else(Ap N ((a.length:Int)==0) 4).bind λd=>some d
theorem UG(N c h i d j k l r)(b:Hv N c h i d j k l=some r)(n)(t:AB)(v:Aa1 n t c)(a)(e:Rd Ac8 n a d)(f:Value)(_hx_3:Rd Ad0 n f j):DoesI prog 189 #[vA (Ac c t),vA #[vI h,vI i,a,f,vI k,vI l]] Ho n [] (pV (vI r)):=by
 unfold Hv at b
 refine Be follows func189 Z 18 Z _ fz2 Bi (λm=> ?_)
 refine Ad<|rA Z λx=>rA Z λy=>rz Z<|Aa λz p=>AY [0] Z<|aE b Z (λq b=> ?_) (λq b=> ?_)
 ·refine Ad<|rm 4 [1,0] Z<|kB b λA s b=>gV _ (cF aY) (λo w z_=>QN N c ([]) d _ s z_.view t (Aa1.mono z_.ro_cell v) nS ((λ_ _ _=> .inl ⟨Z,Z⟩) o w z_) a (z_.r e))<|rz Z ?_
  cases b
  exact aR eV1
 refine Ab<|p _ _ ?_
 refine Ad<|rm 2 [0] Z<|rL (Rd.shp e) Z<|rn 1 Z<|kB b λu g b=>rc _ (cF Bk) (Az N ((d.length:Int)==0) 4 _ g)<|rz Z ?_
 cases b
 exact aR eV1
def Hw(N:Nat)(c:Ao)(b:Int)(d:Int)(_:List (W1))(a:List (Int×W3))(_:Int)(_:Int):Option Int:=if b=2 then(Ji N c d a).bind λf=>some f else(Ap N ((a.length:Int)==0) 4).bind λe=>some e
theorem UH(N c i g j d k l r)(b:Hw N c i g j d k l=some r)(n)(t:AB)(v:Aa1 n t c)(e:Value)(_hx_2:Rd Ac8 n e j)(a)(f:Rd Ad0 n a d):Does prog 190 #[vA (Ac c t),vA #[vI i,vI g,e,a,vI k,vI l]] n [] (pV (vI r)):=by
 unfold Hw at b
 refine Al follows func190 Z 19 Z _ fz2 (λm=> ?_)
 refine Ad<|rA Z λx=>rA Z λy=>rz Z<|Aa λz p=>AY [0] Z<|aE b Z (λq b=> ?_) (λq b=> ?_)
 ·refine Ad<|rm 5 [1,0,0] Z<|kB b λA s b=>gV _ (cF dI) (λo w z_=>Uo N c g d _ s z_.view t (Aa1.mono z_.ro_cell v) a (z_.r f))<|rz Z ?_
  cases b
  exact aR eV1
 refine Ab<|p _ _ ?_
 refine Ad<|rm 2 [0] Z<|rL (Rd.shp f) Z<|rn 1 Z<|kB b λu h b=>rc _ (cF Bk) (Az N ((d.length:Int)==0) 4 _ h)<|rz Z ?_
 cases b
 exact aR eV1
def GV(N:Nat)(e:Int)(_:Int)(_:List (W1))(_:List (Int×W3))(k:Int)(c:Int)(a:Int)(b:Int):Option Int:=ck (R64 (a+1)) ((AA N k (a+1) b).bind λl=>(Ap N l 12).bind λi=>if e=2 then(Ap N (c==0) 4).bind λg=>(AI N ([g,i])).bind λh=>some h else ck (R64 (a+1)) ((AA N c (a+1) b).bind λf=>(Ap N f 12).bind λj=>(AI N ([i,j])).bind λd=>some d))
theorem TM(N g h v x e d i f r)(a:GV N g h v x e d i f=some r)(M:Ro)(b:Value)(_hx_2:Rd Ac8 M b v)(c:Value)(_hx_3:Rd Ad0 M c x):Does prog 191 #[vA #[vI g,vI h,b,c,vI e,vI d],vI i,vI f] M [] (pV (vI r)):=by
 unfold GV at a
 refine Al follows func191 Z 35 Z _ fz3 (λy=> ?_)
 refine Ad<|rA Z λz=>rz Z<|Ad<|rm 3 [0] Z<|kC a λB a=>rX B Z<|rn 1 Z<|kB a λO C a=>rc _ (cF Fz) (AR N e (i+1) f _ C)<|kB a λA D a=>rc _ (cF Bk) (Az N O 12 _ D)<|rz Z<|Aa λR E=>AY [0] Z<|aE a Z (λj a=> ?_) (λj a=> ?_)
 ·refine Ad<|rm 3 [0] Z<|kB a λl m a=>rc _ (cF Bk) (Az N (d==0) 4 _ m)<|rn 1 Z<|gB (Ls:=[(NM z g h b c e d)]) 43 BE [l,A] (λF G H=> ?_)
  refine kB a λP n a=>gV _ (cF Fb) (λo w z_=>Cc N ([l,A]) _ n z_.view F ((Ax H (Aj (Ls:=[(NM z g h b c e d),G]) (k:=1) Z Z)) o w z_))<|rz Z ?_
  cases a
  exact aR eV1
 refine Ab<|E _ _ ?_
 refine Ad<|rm 4 [0] Z<|kC a λp a=>rX p Z<|rn 1 Z<|kB a λI q a=>rc _ (cF Fz) (AR N d (i+1) f _ q)<|kB a λs t a=>rc _ (cF Bk) (Az N I 12 _ t)<|gB (Ls:=[(NM z g h b c e d)]) 43 BE [A,s] (λJ K L=> ?_)
 refine kB a λQ u a=>gV _ (cF Fb) (λo w z_=>Cc N ([A,s]) _ u z_.view J ((Ax L (Aj (Ls:=[(NM z g h b c e d),K]) (k:=1) Z Z)) o w z_))<|rz Z ?_
 cases a
 exact aR eV1
def IY(N:Nat)(i:Int)(b:Int)(d:Int)(c:List (W1))(e:List (Int×W3))(f:Int)(a:Int)(g:Ao)(j:List (Int×Int×(List (W1))×(List (Int×W3))×Int×Int)):Option Int:=(GW N g b d c e f a).bind λl=>(Hv N g b d c e f a).bind λn=>(Hw N g b d c e f a).bind λm=>(GV N b d c e f a i (j.length:Int)).bind λk=>(AI N ([l,n,m,k])).bind λh=>some h
theorem Wl(N i c d g h e f a v r)(u:IY N i c d g h e f a v=some r)(G j)(s:Rd Ac8 G j g)(l)(t:Rd Ad0 G l h)(C:Nat)(b:AB)(x:Aa1 G b a)(n:Blk G C (GY a b))(D:Nat)(p)(H:RdN Ad3 G p v)(E:Blk G D [p]):DoesI prog 187 #[vI i,vA #[vI c,vI d,j,l,vI e,vI f],vP C 0,vP D 0] Ho G [] (pV (vI r)):=by
 unfold IY at u
 refine Be follows func187 Z 23 Z _ fz4 Bi (λM=> ?_)
 refine Ad<|rA Z λV=>rz Z<|Aa λX O=> ?_
 refine BB [(some 9,false),(some 12,false),(some 15,false),(some 20,false),(some 21,false),(some 22,false)] (conG prog [(9,cV (GW N a c d g h e f) λm=>vI m),(12,cV (Hv N a c d g h e f) λm=>vI m),(15,cV (Hw N a c d g h e f) λm=>vI m),(20,cV (GV N c d g h e f i (v.length:Int)) λm=>vI m),(22,λ_ _ v_ L_ U_=> ∀m,GW N a c d g h e f=some m-> ∀I,Hv N a c d g h e f=some I-> ∀J,Hw N a c d g h e f=some J-> ∀K,GV N c d g h e f i (v.length:Int)=some K-> ∀L,AI N ([m,I,J,K])=some L->(pV (vI L)) v_ L_ U_)]) [] (by decide+kernel) (λY=>AK) ?_
 refine HO (vA (Ac a b)) (vs:=(GY a b)) (o:=0) Z Z (AT n) Z<|rm 1 [0] Z<|kB u λP z u=>rg _ (cF od) (λo w z_=>(Does.inv (TP N a c d g h e f _ z z_.view b (Aa1.mono z_.ro_cell x) j (z_.r s) l (z_.r t)) _)) (GQ z)<|HO (vA (Ac a b)) (vs:=(GY a b)) (o:=0) Z Z (AT n) Z<|rm 1 [0] Z<|kB u λQ A u=>rg _ (cF oc) (λo w z_=>UG N a c d g h e f _ A z_.view b (Aa1.mono z_.ro_cell x) j (z_.r s) l (z_.r t)) (GQ A)<|HO (vA (Ac a b)) (vs:=(GY a b)) (o:=0) Z Z (AT n) Z<|rm 1 [0] Z<|kB u λR B u=>rg _ (cF ob) (λo w z_=>(Does.inv (UH N a c d g h e f _ B z_.view b (Aa1.mono z_.ro_cell x) j (z_.r s) l (z_.r t)) _)) (GQ B)<|rm 2 [0] Z<|HO p (vs:=[p]) (o:=0) Z Z (AT E) Z<|rL (RdN.shp H) Z<|kB u λF q u=>rg _ (cF oa) (λo w z_=>(Does.inv (TM N c d g h e f i (v.length:Int) _ q z_.view j (z_.r s) l (z_.r t)) _)) (GQ q) ?_
 refine Ke (Ls:=[(NM V c d j l e f)]) 43 BE [P,Q,R,F] [vI P,vI Q,vI R,vI F] [vI 0,vI 0,vI 0,vI 0] Z Z Z Z Z Z Z (by kernel_rfl) (by kernel_rfl) Z Z Z (λS T U=> ?_)
 refine kB u λW y u=>rg _ (cF Fb) (λo w z_=>(Does.inv (Cc N ([P,Q,R,F]) _ y z_.view S ((Ax U (Aj (Ls:=[(NM V c d j l e f),T]) (k:=1) Z Z)) o w z_)) _)) (λ_ _ v_ L_ U_=>⟨λh_=>h_ _ z _ A _ B _ q _ y,λh_=>by intro _ e_;cases q1 (e_.symm.trans z);intro _ e_;cases q1 (e_.symm.trans A);intro _ e_;cases q1 (e_.symm.trans B);intro _ e_;cases q1 (e_.symm.trans q);intro _ e_;cases q1 (e_.symm.trans y);exact h_⟩) ?_
 refine rz Z<|O _ _ ?_
 cases u
 exact aR eV1
def JF(N:Nat)(b:List (Int×Int×(List (W1))×(List (Int×W3))×Int×Int))(d:Ao)(c:List (Int×Int×(List (W1))×(List (Int×W3))×Int×Int)):Nat->Int->Option (Int×Int)
  |0,_=>none
  |f+1,a=>if a<(b.length:Int)then ck (0<=a/\a<(b.length:Int)) ((IY N a (b[a.toNat]!.1) (b[a.toNat]!.2.1) (b[a.toNat]!.2.2.1) (b[a.toNat]!.2.2.2.1) (b[a.toNat]!.2.2.2.2.1) (b[a.toNat]!.2.2.2.2.2) d c).bind λe=>if(e:Int)≠0 then some (a,e)else ck (R64 (a+1)) ((JF N b d c f) (a+1)))else some (0,0)
def Np(N:Nat)(d:List (Int×Int×(List (W1))×(List (Int×W3))×Int×Int))(c:Int)(a:Ao)(b:List (Int×Int×(List (W1))×(List (Int×W3))×Int×Int)):Option (Int×Int):=if(d.length:Int)>c then some (0,2)else JF N d a b N 0
theorem ZW(N d y f g r)(e:Np N d y f g=some r)(B A)(s:RdN Ad3 B A d)(b:Nat)(h:AB)(p:Aa1 B h f)(j:Blk B b (GY f h))(c:Nat)(i)(q:RdN Ad3 B i g)(k:Blk B c [i]):DoesI prog 186 #[A,vI y,vF 187 #[] #[vP b 0,vP c 0]] Ho B [] (pV (vT #[vI r.1,vI r.2])):=by
 unfold Np at e
 refine Be follows func186 Z 31 Z _ fz3 Bi (λJ=> ?_)
 refine AZ Z<|Aa λS K=>Ad<|rn 1 Z<|rL (RdN.shp s) Z<|rz Z<|aD e Z (λL e=> ?_) (λL e=> ?_)
 ·refine AZ Z ?_
  cases e
  exact aR eV2
 refine Ab<|K _ _ ?_
 refine Aa λU M=>Ad<|rn 1 Z<|rL (RdN.shp s) Z<|rz Z<|Ai<|AH (λtt ll nn=> ∃(z:Nat) (a:Int),(JF N d f g z a=some r)/\Is [(2,vF 187 #[] #[vP b 0,vP c 0]),(15,A),(16,vI (d.length:Int)),(17,vI a)] [] tt ll/\nn=z+1) (N+1) ?_ ?_
 ·exact⟨N,0,e,Ag Z Z,Z⟩
 clear e;rintro t l _ ⟨z,a,e,⟨⟨T,rfl⟩,rfl⟩,rfl⟩
 rcases z with _|z
 ·exact absurd e (by simp [JF])
 rw [JF] at e
 refine AZ Z<|Aa λP C=>aD e Z (λD e=> ?_) (λD e=> ?_)
 ·refine Ab<|C _ _ ?_
  refine Aa λQ F=>Ai<|Ad<|rn 1 Z<|kC e λu e=> ?_
  obtain⟨_,⟨m,n,v,x,rfl⟩,hat19⟩:=RdN.at (E:=Ad3) s (Dx u)
  refine rI (RdN.shp s) u Z<|Oe (vA #[vI (d[a.toNat]!.1),vI (d[a.toNat]!.2.1),m,n,vI (d[a.toNat]!.2.2.2.2.1),vI (d[a.toNat]!.2.2.2.2.2)]) (vs:=[vI (d[a.toNat]!.1),vI (d[a.toNat]!.2.1),m,n,vI (d[a.toNat]!.2.2.2.2.1),vI (d[a.toNat]!.2.2.2.2.2)]) (a.toNat*6) 0 Z Z (λo w z_=>At.mono z_.ro_cell hat19) Z<|rA Z λO=>rn 1 Z<|r_s (NM O (d[a.toNat]!.1) (d[a.toNat]!.2.1) m n (d[a.toNat]!.2.2.2.2.1) (d[a.toNat]!.2.2.2.2.2)) 0 _ _ _ _ _ (#[vI (d[a.toNat]!.1),vI (d[a.toNat]!.2.1),m,n,vI (d[a.toNat]!.2.2.2.2.1),vI (d[a.toNat]!.2.2.2.2.2)]) Z Z Z Z (.ofS Z Z (Ae Z (Ae Z (Ae (Shp.one (Rd.shp v)) (Ae (Shp.one (Rd.shp x)) (Ae Z (Ae Z BA))))))) Z Z<|Ak<|Ad<|rn 2 Z ?_
  refine rm 1 [0] Z<|kB e λR G e=>gV _ (BO (caps:=[vP b 0,vP c 0]) Z oe Z) (λo w z_=>Wl N a (d[a.toNat]!.1) (d[a.toNat]!.2.1) (d[a.toNat]!.2.2.1) (d[a.toNat]!.2.2.2.1) (d[a.toNat]!.2.2.2.2.1) (d[a.toNat]!.2.2.2.2.2) f g _ G z_.view m (z_.r v) n (z_.r x) b h (Aa1.mono z_.ro_cell p) (AT j o w z_) c i (RdN.mono z_.ro_cell q) (AT k o w z_))<|rz Z<|AZ Z ?_
  refine aN e Z (λH e=> ?_) (λH e=> ?_)
  ·refine AZ Z ?_
   cases e
   exact aR eV2
  refine Ab<|F _ _ ?_
  refine Ah<|kC e λI e=>rX I Z<|rz Z<|fg _ (Sub.of (suC _ suN)) ?_
  exact⟨z+1,by omega,z,(a+1),e,Ag Z Z,Z⟩
 refine AG<|M _ _ ?_
 refine AZ Z ?_
 cases e
 exact aR eV2
def KI(N:Nat)(c:Ao)(a:List (Int×Int×(List (W1))×(List (Int×W3))×Int×Int)):Option (Int×Int):=(Np N a 32 c a).bind λb=>some (b.1,b.2)
theorem SS(N c f r)(d:KI N c f=some r)(h)(i:AB)(l:Aa1 h i c)(a)(b:RdN Ad3 h a f):DoesI prog 114 #[vA (Ac c i),a] Ho h [] (pV (vT #[vI r.1,vI r.2])):=by
 unfold KI at d
 refine Be follows func114 Z 11 Z _ fz2 Bi (λe=> ?_)
 refine Ad<|rA Z λj=>r_a (28, #[a]) Z Z (Od Z (RdN.shp b)) (λk=> ?_) (.inr Z)
 refine rz Z<|Ad<|rm 1 [0] Z<|r_W (vF 187 #[] #[vP j 0,vP k 0]) Z (Jc Z)<|kB d λm g d=>gV _ (cF og) (λo w z_=>ZW N f 32 c f _ g z_.view a (RdN.mono z_.ro_cell b) j i (Aa1.mono z_.ro_cell l) (CN 1 Z Z o w z_) k a (RdN.mono z_.ro_cell b) (CN 0 Z Z o w z_))<|rz Z ?_
 cases d
 exact aR eV2
def Kk(N:Nat)(c:Ao):Option (Int×Int):=(KI N c c.2.2.2.2.2.2.2.1).bind λa=>some (a.1,a.2)
theorem Wo(N c r)(a:Kk N c=some r)(f)(d:AB)(g:Aa1 f d c):DoesI prog 56 #[vA (Ac c d)] Ho f [] (pV (vT #[vI r.1,vI r.2])):=by
 unfold Kk at a
 refine Be follows func56 Z 11 Z _ fz1 Bi (λb=> ?_)
 refine Ad<|rA Z λh=>rz Z<|Ad<|rm 4 [0,0] Z<|kB a λi e a=>gV _ (cF dZ) (λo w z_=>SS N c c.2.2.2.2.2.2.2.1 _ e z_.view d (Aa1.mono z_.ro_cell g) d.2.2.2.2.2.2.1 (RdN.mono z_.ro_cell g.2.2.2.2.2.2.1))<|rz Z ?_
 cases a
 exact aR eV2
def KR(N:Nat)(c:Ao):Option (Int×Int):=(KI N c c.2.2.2.2.2.2.2.2.1).bind λa=>some (a.1,a.2)
theorem XL(N c r)(a:KR N c=some r)(f)(d:AB)(g:Aa1 f d c):DoesI prog 57 #[vA (Ac c d)] Ho f [] (pV (vT #[vI r.1,vI r.2])):=by
 unfold KR at a
 refine Be follows func57 Z 11 Z _ fz1 Bi (λb=> ?_)
 refine Ad<|rA Z λh=>rz Z<|Ad<|rm 4 [0,0] Z<|kB a λi e a=>gV _ (cF dZ) (λo w z_=>SS N c c.2.2.2.2.2.2.2.2.1 _ e z_.view d (Aa1.mono z_.ro_cell g) d.2.2.2.2.2.2.2.1 (RdN.mono z_.ro_cell g.2.2.2.2.2.2.2.1))<|rz Z ?_
 cases a
 exact aR eV2
def IZ(N:Nat)(i:Int)(b:Int)(a:Ao):Option Int:=(Ha N a b).bind λf=>(Ap N f 5).bind λg=>ck (0<=i/\i<=(a.2.2.2.2.2.2.2.2.2.1.length:Int)) ((Bp N (((a.2.2.2.2.2.2.2.2.2.1).take (i.toNat)).drop 0) b).bind λe=>(Ap N (!(e)) 6).bind λd=>(AI N ([g,d])).bind λc=>some c)
theorem TS(N i b c r)(d:IZ N i b c=some r)(E)(n:Nat)(a:AB)(f:Aa1 E a c)(g:Blk E n (GY c a)):Does prog 116 #[vI i,vI b,vP n 0] E [] (pV (vI r)):=by
 unfold IZ at d
 refine Al follows func116 Z 22 Z _ fz3 (λy=> ?_)
 refine AZ Z<|Aa λI z=> ?_
 refine BB [(some 9,false),(some 17,false),(some 20,false),(some 21,false)] (conG prog [(9,cV (Ha N c b) λe=>vB e),(17,cV (Bp N (((c.2.2.2.2.2.2.2.2.2.1).take (i.toNat)).drop 0) b) λe=>vB e),(21,λ_ _ v_ L_ U_=> ∀e,Ha N c b=some e-> ∀s,Ap N e 5=some s-> ∀t,Bp N (((c.2.2.2.2.2.2.2.2.2.1).take (i.toNat)).drop 0) b=some t-> ∀u,Ap N (!(t)) 6=some u-> ∀v,AI N ([s,u])=some v->(pV (vI v)) v_ L_ U_)]) [] (by decide+kernel) (λJ=>AK) ?_
 refine rn 1 Z<|HO (vA (Ac c a)) (vs:=(GY c a)) (o:=0) Z Z (AT g) Z<|rn 1 Z<|kB d λF l d=>rg _ (cF aT) (λo w z_=>OM N c b _ l z_.view a (Aa1.mono z_.ro_cell f)) (GQ l)<|kB d λA p d=>rc _ (cF Bk) (Az N F 5 _ p)<|rn 2 Z<|HO a.2.2.2.2.2.2.2.2.1 (vs:=(GY c a)) (o:=9) Z Z (AT g) Z<|rn 1 Z<|kC d λx d=>r_W (GE a.2.2.2.2.2.2.2.2.1 0 (i.toNat) 1) Z (Fc (Jb Z Z Z Z (Rd.shp f.2.2.2.2.2.2.2.2.1) x))<|rn 1 Z<|kB d λG m d=>rg _ (cF WW) (λo w z_=>IL N (((c.2.2.2.2.2.2.2.2.2.1).take (i.toNat)).drop 0) b _ m z_.view (GE a.2.2.2.2.2.2.2.2.1 0 (i.toNat) 1) ((PL (Aw f.2.2.2.2.2.2.2.2.1) (Nat.zero_le _) (Hp x.2)) o w z_)) (GQ m)<|rn 1 Z<|kB d λq h d=>rc _ (cF Bk) (Az N (!(G)) 6 _ h) ?_
 refine Ke (Ls:=[]) 43 BE [A,q] [vI A,vI q] [vI 0,vI 0] Z Z Z Z Z Z Z (by kernel_rfl) (by kernel_rfl) Z Z Z (λB C D=> ?_)
 refine kB d λH j d=>rg _ (cF Fb) (λo w z_=>Cc N ([A,q]) _ j z_.view B ((Ax D (Aj (Ls:=[C]) (k:=0) Z Z)) o w z_)) (λ_ _ v_ L_ U_=>⟨λh_=>h_ _ l _ p _ m _ h _ j,λh_=>by intro _ e_;cases q1 (e_.symm.trans l);intro _ e_;cases q1 (e_.symm.trans p);intro _ e_;cases q1 (e_.symm.trans m);intro _ e_;cases q1 (e_.symm.trans h);intro _ e_;cases q1 (e_.symm.trans j);exact h_⟩) ?_
 refine rz Z<|z _ _ ?_
 cases d
 exact aR eV1
def Kw(N:Nat)(c:List Int)(b:Ao):Nat->Int->Option (Int×Int)
  |0,_=>none
  |e+1,a=>if a<(c.length:Int)then ck (0<=a/\a<(c.length:Int)) ((IZ N a (c[a.toNat]!) b).bind λd=>if(d:Int)≠0 then some (a,d)else ck (R64 (a+1)) ((Kw N c b e) (a+1)))else some (0,0)
def Oo(N:Nat)(c:List Int)(b:Int)(a:Ao):Option (Int×Int):=if(c.length:Int)>b then some (0,2)else Kw N c a N 0
theorem cq(N x j c r)(b:Oo N x j c=some r)(z m)(h:Rd BE z m x)(a:Nat)(d:AB)(g:Aa1 z d c)(f:Blk z a (GY c d)):Does prog 115 #[m,vI j,vF 116 #[] #[vP a 0]] z [] (pV (vT #[vI r.1,vI r.2])):=by
 unfold Oo at b
 refine Al follows func115 Z 31 Z _ fz3 (λy=> ?_)
 refine AZ Z<|Aa λG A=>Ad<|rn 1 Z<|rL (Rd.shp h) Z<|rz Z<|aD b Z (λB b=> ?_) (λB b=> ?_)
 ·refine AZ Z ?_
  cases b
  exact aR eV2
 refine Ab<|A _ _ ?_
 refine Aa λH C=>Ad<|rn 1 Z<|rL (Rd.shp h) Z<|rz Z<|Ai<|AH (λtt ll nn=> ∃(k:Nat) (e:Int),(Kw N x c k e=some r)/\Is [(2,vF 116 #[] #[vP a 0]),(15,m),(16,vI (x.length:Int)),(17,vI e)] [] tt ll/\nn=k+1) (N+1) ?_ ?_
 ·exact⟨N,0,b,Ag Z Z,Z⟩
 clear b;rintro t l _ ⟨k,e,b,⟨⟨T,rfl⟩,rfl⟩,rfl⟩
 rcases k with _|k
 ·exact absurd b (by simp [Kw])
 rw [Kw] at b
 refine AZ Z<|Aa λD n=>aD b Z (λp b=> ?_) (λp b=> ?_)
 ·refine Ab<|n _ _ ?_
  refine Aa λE q=>Ai<|Ad<|rn 1 Z<|kC b λi b=>rI (Rd.shp h) i Z<|rE (Aw h) i 0 Z<|rz Z<|Ad<|rn 3 Z<|kB b λF s b=>gV _ (BO (caps:=[vP a 0]) Z pu Z) (λo w z_=>TS N e (x[e.toNat]!) c _ s z_.view a d (Aa1.mono z_.ro_cell g) (AT f o w z_))<|rz Z<|AZ Z<|aN b Z (λu b=> ?_) (λu b=> ?_)
  ·refine AZ Z ?_
   cases b
   exact aR eV2
  refine Ab<|q _ _ ?_
  refine Ah<|kC b λv b=>rX v Z<|rz Z<|fg _ (Sub.of suN) ?_
  exact⟨k+1,by omega,k,(e+1),b,Ag Z Z,Z⟩
 refine AG<|C _ _ ?_
 refine AZ Z ?_
 cases b
 exact aR eV2
def HS(N:Nat)(c:Ao):Option (Int×Int):=(Oo N c.2.2.2.2.2.2.2.2.2.1 32 c).bind λa=>some (a.1,a.2)
theorem Wq(N c r)(a:HS N c=some r)(g)(d:AB)(h:Aa1 g d c):Does prog 58 #[vA (Ac c d)] g [] (pV (vT #[vI r.1,vI r.2])):=by
 unfold HS at a
 refine Al follows func58 Z 11 Z _ fz1 (λb=> ?_)
 refine Ad<|rA Z λf=>rz Z<|Ad<|rm 3 [0] Z<|r_W (vF 116 #[] #[vP f 0]) Z (Jc Z)<|kB a λi e a=>gV _ (cF Th) (λo w z_=>cq N c.2.2.2.2.2.2.2.2.2.1 32 c _ e z_.view d.2.2.2.2.2.2.2.2.1 ((Aw h.2.2.2.2.2.2.2.2.1) o w z_) f d (Aa1.mono z_.ro_cell h) (CN 0 Z Z o w z_))<|rz Z ?_
 cases a
 exact aR eV2
def JD(N:Nat)(_:W2)(a:List (W2×Int))(_:Int)(_:Int)(_:Int)(_:Int)(f:Int):Option (Int×Bool):=ck ((R64 ((a.length:Int) - 1))) ((Gd N f 0 ((a.length:Int) - 1)).bind λc=>if c=true then ck (0<=f/\f<=(a.length:Int)) ((Pa N (((a).take (f.toNat)).drop 0)).bind λb=>some (b,true))else some (0,false))
theorem Xl(N i d j k l m f r)(a:JD N i d j k l m f=some r)(t b)(c:Rd Ab3 t b d):Does prog 195 #[vA #[vS i,b,vI j,vI k,vI l,vI m],vI f] t [] (pV (vT #[vI r.1,vB r.2])):=by
 unfold JD at a
 refine Al follows func195 Z 18 Z _ fz2 (λn=> ?_)
 refine Ad<|rA Z λv=>rz Z<|Aa λx p=>Ad<|rm 3 [0] Z<|rL (Rd.shp c) Z<|kC a λq a=>rX q Z<|kB a λy s a=>rc _ (cF KX) (IA N f 0 ((d.length:Int) - 1) _ s)<|rz Z<|BI _ Z (λg=> ?_) (λg=> ?_)
 ·replace a:=ifn (Bool.eq_false_iff.1 (Dk g)) a
  refine AZ Z ?_
  cases a
  exact aR eV2
 replace a:=ifp (Dl g) a
 refine Ab<|p _ _ ?_
 refine Ad<|rm 3 [0] Z<|kC a λe a=>r_W (GE b 0 (f.toNat) 2) Z (Fc (Jb Z Z Z Z (Rd.shp c) e))<|kB a λu h a=>gV _ (cF dO) (λo w z_=>Yu N (((d).take (f.toNat)).drop 0) _ h z_.view (GE b 0 (f.toNat) 2) ((PL (Aw c) (Nat.zero_le _) (Hp e.2)) o w z_))<|rz Z ?_
 cases a
 exact aR eV2
def KQ(N:Nat)(_:Int)(e:Int)(f:Int)(d:Ao):Option Int:=(Lp N d e).bind λa=>(JD N a.1 a.2.1 a.2.2.1 a.2.2.2.1 a.2.2.2.2.1 a.2.2.2.2.2.1 f).bind λb=>(Hb N d e f).bind λc=>(Ap N c.2 5).bind λg=>if c.1=16 then ck (0<=b.1/\b.1<=9223372036854775807) ((Ap N ((b.1%16:Int)==0) 9).bind λh=>(AI N ([g,h])).bind λj=>some j)else(Ap N false 9).bind λi=>(AI N ([g,i])).bind λk=>some k
theorem XI(N x d e f r)(c:KQ N x d e f=some r)(Q)(j:Nat)(b:AB)(l:Aa1 Q b f)(g:Blk Q j (GY f b)):Does prog 194 #[vI x,vA #[vI d,vI e],vP j 0] Q [] (pV (vI r)):=by
 unfold KQ at c
 refine Al follows func194 Z 49 Z _ fz3 (λH=> ?_)
 refine Ad<|rA Z λq=>rz Z<|Ad<|rn 1 Z<|HO (vA (Ac f b)) (vs:=(GY f b)) (o:=0) Z Z (AT g) Z<|rm 2 [0] Z<|kB c λa I c=>gS (Ls:=[(NL q d e)]) (cF dX) (λo w z_=>Ul N f d _ I z_.view b (Aa1.mono z_.ro_cell l)) (λm t R=> ?_)
 refine rn 3 Z<|rA Z λu=>r_s (List.flatten [(Rj u a.1 m a.2.2.1 a.2.2.2.1 a.2.2.2.2.1 a.2.2.2.2.2.1),(NL q d e),t]) 0 _ _ _ _ _ (#[vS a.1,m,vI a.2.2.1,vI a.2.2.2.1,vI a.2.2.2.2.1,vI a.2.2.2.2.2.1]) Z Z Z Z (.ofS Z Z (Ae Z (Ae (Shp.one (Sl.shp R)) (Ae Z (Ae Z (Ae Z (Ae Z BA))))))) Z Z<|rz Z<|Ad<|rm 3 [0,1] Z<|kB c λs v c=>gV _ (cF nW) (λo w z_=>Xl N a.1 a.2.1 a.2.2.1 a.2.2.2.1 a.2.2.2.2.1 a.2.2.2.2.2.1 e _ v z_.view m ((Ax R (Aj (Ls:=[(Rj u a.1 m a.2.2.1 a.2.2.2.1 a.2.2.2.2.1 a.2.2.2.2.2.1),(NL q d e),t]) (k:=2) Z Z)) o w z_))<|rz Z<|Ad<|rn 1 Z<|HO (vA (Ac f b)) (vs:=(GY f b)) (o:=0) Z Z (AT g) Z<|rn 1 Z ?_
 refine rm 3 [1,1] Z<|kB c λh y c=>gV _ (cF aU) (λo w z_=>PV N f d e _ y z_.view b (Aa1.mono z_.ro_cell l))<|rz Z<|GS [(8,vI s.1),(10,vI h.1),(11,vB h.2)] Z (λT=> ?_)
 refine Aa λS n=>Ah<|rn 1 Z<|kB c λi z c=>rc _ (cF Bk) (Az N h.2 5 _ z)<|rn 3 Z ?_
 rcases p:(h.1==16)with _|_
 ·replace c:=iG p c
  refine rn 4 Z<|kB c λA B c=>rc _ (cF Bk) (Az N false 9 _ B)<|gB (Ls:=[(Rj u a.1 m a.2.2.1 a.2.2.2.1 a.2.2.2.2.1 a.2.2.2.2.2.1),(NL q d e),t]) 43 BE [i,A] (λJ K L=> ?_)
  refine kB c λU C c=>gV _ (cF Fb) (λo w z_=>Cc N ([i,A]) _ C z_.view J ((Ax L (Aj (Ls:=[(Rj u a.1 m a.2.2.1 a.2.2.2.1 a.2.2.2.2.1 a.2.2.2.2.2.1),(NL q d e),t,K]) (k:=3) Z Z)) o w z_))<|rz Z<|n _ _ ?_
  cases c
  exact aR eV1
 replace c:=iE p c
 refine rn 1 Z<|r_y Z<|kC c λD c=>r_X (vI (s.1%16)) Z (SA D.1) Z<|rn 2 Z<|kB c λE F c=>rc _ (cF Bk) (Az N ((s.1%16:Int)==0) 9 _ F)<|gB (Ls:=[(Rj u a.1 m a.2.2.1 a.2.2.2.1 a.2.2.2.2.1 a.2.2.2.2.2.1),(NL q d e),t]) 43 BE [i,E] (λM O P=> ?_)
 refine kB c λV G c=>gV _ (cF Fb) (λo w z_=>Cc N ([i,E]) _ G z_.view M ((Ax P (Aj (Ls:=[(Rj u a.1 m a.2.2.1 a.2.2.2.1 a.2.2.2.2.1 a.2.2.2.2.2.1),(NL q d e),t,O]) (k:=3) Z Z)) o w z_))<|rz Z<|n _ _ ?_
 cases c
 exact aR eV1
def KE(N:Nat)(c:List (Int×Int))(b:Ao):Nat->Int->Option (Int×Int)
  |0,_=>none
  |e+1,a=>if a<(c.length:Int)then ck (0<=a/\a<(c.length:Int)) ((KQ N a ((c[a.toNat]!).1) ((c[a.toNat]!).2) b).bind λd=>if(d:Int)≠0 then some (a,d)else ck (R64 (a+1)) ((KE N c b e) (a+1)))else some (0,0)
def OA(N:Nat)(c:List (Int×Int))(b:Int)(a:Ao):Option (Int×Int):=if(c.length:Int)>b then some (0,2)else KE N c a N 0
theorem cE(N n j c r)(b:OA N n j c=some r)(z m)(h:Rd Ae6 z m n)(a:Nat)(d:AB)(g:Aa1 z d c)(f:Blk z a (GY c d)):Does prog 193 #[m,vI j,vF 194 #[] #[vP a 0]] z [] (pV (vT #[vI r.1,vI r.2])):=by
 unfold OA at b
 refine Al follows func193 Z 31 Z _ fz3 (λy=> ?_)
 refine AZ Z<|Aa λH A=>Ad<|rn 1 Z<|rL (Rd.shp h) Z<|rz Z<|aD b Z (λB b=> ?_) (λB b=> ?_)
 ·refine AZ Z ?_
  cases b
  exact aR eV2
 refine Ab<|A _ _ ?_
 refine Aa λI C=>Ad<|rn 1 Z<|rL (Rd.shp h) Z<|rz Z<|Ai<|AH (λtt ll nn=> ∃(k:Nat) (e:Int),(KE N n c k e=some r)/\Is [(2,vF 194 #[] #[vP a 0]),(15,m),(16,vI (n.length:Int)),(17,vI e)] [] tt ll/\nn=k+1) (N+1) ?_ ?_
 ·exact⟨N,0,b,Ag Z Z,Z⟩
 clear b;rintro t l _ ⟨k,e,b,⟨⟨T,rfl⟩,rfl⟩,rfl⟩
 rcases k with _|k
 ·exact absurd b (by simp [KE])
 rw [KE] at b
 refine AZ Z<|Aa λD p=>aD b Z (λq b=> ?_) (λq b=> ?_)
 ·refine Ab<|p _ _ ?_
  refine Aa λE s=>Ai<|Ad<|rn 1 Z<|kC b λi b=>rI (Rd.shp h) i Z<|rE (Aw h) i 0 Z<|rA Z λF=>ry [0] Z<|Ad<|rm 3 [0] Z<|kB b λG u b=>gV _ (BO (caps:=[vP a 0]) Z nX Z) (λo w z_=>XI N e ((n[e.toNat]!).1) ((n[e.toNat]!).2) c _ u z_.view a d (Aa1.mono z_.ro_cell g) (AT f o w z_))<|rz Z<|AZ Z<|aN b Z (λv b=> ?_) (λv b=> ?_)
  ·refine AZ Z ?_
   cases b
   exact aR eV2
  refine Ab<|s _ _ ?_
  refine Ah<|kC b λx b=>rX x Z<|rz Z<|fg _ (Sub.of (suC _ suN)) ?_
  exact⟨k+1,by omega,k,(e+1),b,Ag Z Z,Z⟩
 refine AG<|C _ _ ?_
 refine AZ Z ?_
 cases b
 exact aR eV2
end Go.Proofs.YtjlomkippigejaaGreatDoor
