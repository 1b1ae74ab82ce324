import Derived.Test.YtjnanfkpdhmnpaaGreatDoorBi
namespace Go.Proofs.YtjnanfkpdhmnpaaGreatDoor
open Go Go.RowKit Go.Eng _root_.Go.Proofs.Tryz
set_option linter.unusedSimpArgs false
set_option linter.unusedVariables false
set_option maxRecDepth 100000
set_option maxHeartbeats 80000000
abbrev PL(b:Nat)(x0:W2)(x1 x2:Int):Y0 Bl:=[(b,138, #[vS x0,vI x1,vI x2])]
abbrev Wp(b:Nat)(x0:Y2):Y0 Bl:=[(b,175, #[x0])]
abbrev PM(b:Nat)(x0:Y2):Y0 Bl:=[(b,101, #[x0])]
abbrev Tj(b:Nat)(x0:W2)(x1:Int):Y0 Bl:=[(b,140, #[vS x0,vI x1])]
abbrev Wo(b:Nat)(x0:Y2):Y0 Bl:=[(b,178, #[x0])]
abbrev Og(b:Nat)(x0:W2)(x1 x2 x3:Int):Y0 Bl:=[(b,142, #[vS x0,vI x1,vI x2,vI x3])]
abbrev Wn(b:Nat)(x0:Y2):Y0 Bl:=[(b,181, #[x0])]
abbrev ir(b:Nat)(x0 x1 x2:Int):Y0 Bl:=[(b,80, #[vI x0,vI x1,vI x2])]
abbrev iu(b:Nat)(x0 x1 x2 x3 x4 x5 x6 x7 x8 x9 x10 x11 x12 x13 x14:Y2)(x15 x16 x17:Int):Y0 Bl:=[(b,35, #[x0,x1,x2,x3,x4,x5,x6,x7,x8,x9,x10,x11,x12,x13,x14,vI x15,vI x16,vI x17])]
abbrev aH(b:Nat)(x0:W2)(x1 x2 x3 x4 x5 x6 x7 x8 x9 x10 x11 x12 x13 x14:Y2)(x15 x16 x17:Int):Y0 Bl:=[(b,35, #[vS x0,x1,x2,x3,x4,x5,x6,x7,x8,x9,x10,x11,x12,x13,x14,vI x15,vI x16,vI x17])]
def LW(N:Nat)(c:Ao)(b:Y0 (Int×Int)):Y1 (Int×Int):=(OW N b 4 c).bind λa=>some (a.1,a.2)
theorem UH(N c f r)(b:LW N c f=some r)(g)(h:AC)(k:Aa2 g h c)(a)(i:Rd Ad3 g a f):Does prog 94 #[vA (Ab c h),a] g [] (pV (vT #[vI r.1,vI r.2])):=by
 unfold LW at b
 refine Ak follows func94 Z 11 Z _ fz2 (λd=> ?_)
 refine Ad<|rA Z λj=>rz Z<|Ad<|rn 1 Z<|r_W (vF 169 #[] #[vP j 0]) Z (Jt Z)<|kB b λl e b=>gV _ (cF pY) (λo w z_=>dg N f 4 c _ e z_.view a ((Ay i) o w z_) j h (Aa2.mono z_.ro_cell k) (Da 0 Z Z o w z_))<|rz Z ?_
 cases b
 exact aR eV2
def Lu(N:Nat)(c:Ao):Y1 (Int×Int):=(LW N c c.2.2.2.2.2.2.2.2.2.2.1).bind λa=>some (a.1,a.2)
theorem YH(N c r)(a:Lu N c=some r)(f)(d:AC)(g:Aa2 f d c):Does prog 40 #[vA (Ab c d)] f [] (pV (vT #[vI r.1,vI r.2])):=by
 unfold Lu at a
 refine Ak follows func40 Z 11 Z _ fz1 (λb=> ?_)
 refine Ad<|rA Z λh=>rz Z<|Ad<|rm 4 [0,0] Z<|kB a λi e a=>gV _ (cF je) (λo w z_=>UH N c _ _ e z_.view d (Aa2.mono z_.ro_cell g) (D8 d).2.1 ((Ay g.2.2.2.2.2.2.2.2.2.1) o w z_))<|rz Z ?_
 cases a
 exact aR eV2
def KD(N:Nat)(c:Ao):Y1 (Int×Int):=(LW N c c.2.2.2.2.2.2.2.2.2.2.2.1).bind λa=>some (a.1,a.2)
theorem WH(N c r)(a:KD N c=some r)(f)(d:AC)(g:Aa2 f d c):Does prog 41 #[vA (Ab c d)] f [] (pV (vT #[vI r.1,vI r.2])):=by
 unfold KD at a
 refine Ak follows func41 Z 11 Z _ fz1 (λb=> ?_)
 refine Ad<|rA Z λh=>rz Z<|Ad<|rm 4 [0,0] Z<|kB a λi e a=>gV _ (cF je) (λo w z_=>UH N c _ _ e z_.view d (Aa2.mono z_.ro_cell g) (D8 d).2.2.1 ((Ay g.2.2.2.2.2.2.2.2.2.2.1) o w z_))<|rz Z ?_
 cases a
 exact aR eV2
def SI(_:Nat)(a:W2)(_ _:Int):Y1 (W2):=some a
theorem fU(N a b c r)(e:SI N a b c=some r):Gives prog 96 #[vA #[vS a,vI b,vI c]] (vS r):=by
 unfold SI at e
 refine Au follows func96 Z 5 Z _ fz1 (λd=> ?_)
 refine Ad<|rA Z λf=>rz Z<|AY [0] Z ?_
 cases e
 exact aR eE1
def KW(N:Nat)(b:Y0 (W2×Int×Int)):Nat->Y0 (W2)->Int->Y1 (Y0 (W2))
  |0,_,_=>none
  |e+1,c,a=>if a<(b.length:Int)then ck (0<=a/\a<(b.length:Int)) ((SI N ((b[a.toNat]!).1) ((b[a.toNat]!).2.1) ((b[a.toNat]!).2.2)).bind λd=>ck (0<=a/\a<(c.length:Int)) (ck (R64 (a+1)) ((KW N b e) ((c).set (a.toNat) d) (a+1))))else some c
def Ru(N:Nat)(a:Y0 (W2×Int×Int)):Y1 (Y0 (W2)):=ck (0<=(a.length:Int)/\(a.length:Int)<=8796093022208) (KW N a N ((List.replicate ((a.length:Int)).toNat ([]))) 0)
theorem dc(N d r)(b:Ru N d=some r)(C k)(g:Rd Ae2 C k d):Does prog 172 #[k,vF 96 #[] #[]] C [] (p1 (λs_=>s_) 9 Aa4 r):=by
 unfold Ru at b
 refine Ak follows func172 Z 26 Z _ fz2 (λw=> ?_)
 refine AZ Z<|Ad<|rn 1 Z<|rL (W8 g) Z<|kC b λx b=>cB 10<|Ta (Ls:=[]) 9 Aa4 ([]) (d.length:Int) Z Z Z Z Z Z Z Z Z Z 8796093022208 Z x (λ_ _ _ _ _=>Iff.rfl) (λy B D=> ?_)
 refine rz Z<|Aa λG z=>Ad<|rn 1 Z<|rL (W8 g) Z<|rz Z<|Ai<|BF _ (W5 [B] [0] Z)<|AL (λtt ll nn=> ∃(j:Nat) (e:Y0 (W2)) (a:Int),(KW N d j e a=some r)/\ ∃(c:Y0 Bl),Sl 9 Aa4 y e c/\Is [(1,vF 96 #[] #[]),(5,y),(11,k),(12,vI (d.length:Int)),(13,vI a)] (V2 [c]) tt ll/\nn=j+1) (N+1) ?_ ?_
 ·exact⟨N,(List.replicate ((d.length:Int)).toNat ([])),0,b,B,D,Ag Z Z,Z⟩
 clear b;rintro t l _ ⟨j,e,a,b,c,f,⟨⟨T,rfl⟩,rfl⟩,rfl⟩
 rcases j with _|j
 ·exact absurd b (by simp [KW])
 rw [KW] at b
 refine AZ Z<|Aa λE m=>aD b Z (λn b=> ?_) (λn b=> ?_)
 ·refine Ac<|m _ _ ?_
  refine Aa λF o=>Ai<|Ad<|rn 1 Z<|kC b λh b=>rI (W8 g) h Z<|rE (Ay g) h 0 Z<|rA Z λp=>ry [0] Z<|Ah<|rm 4 [0] Z<|kB b λq s b=>rc _ (Cc (caps:=[]) Z tz Z) (fU N _ _ _ _ s)<|kC b λi b=>rI (W7 f) i Z<|QR (Ls:=[(PL p ((d[a.toNat]!).1) ((d[a.toNat]!).2.1) ((d[a.toNat]!).2.2)),c]) 1 (En:=Aa4) (e[a.toNat]!) q (a.toNat) 0 Z Z Z f (Cp i) Z Z Z (It Z) Z (λu A=> ?_)
  refine Aj<|o _ _ ?_
  refine Ah<|kC b λv b=>rX v Z<|rz Z<|fg _ (W5 [(PL p ((d[a.toNat]!).1) ((d[a.toNat]!).2.1) ((d[a.toNat]!).2.2)),u] [1] Z) ?_
  exact⟨j+1,by omega,j,(e).set (a.toNat) q,(a+1),b,u,A,Ag Z Z,Z⟩
 refine AM<|z _ _ ?_
 refine AZ Z ?_
 cases b
 refine AU (λH=>Iq (v0:=y) f (Fu (W5 [c] [0] Z)) Z (Gl Z))
def KB(N:Nat)(n:Int):Y1 Int:=(AG N n 1 8).bind λa=>(Ap N a 7).bind λb=>some b
theorem SG(N n r)(a:KB N n=some r):Gives prog 98 #[vI n] (vI r):=by
 unfold KB at a
 refine Au follows func98 Z 6 Z _ fz1 (λb=> ?_)
 refine AZ Z<|Ad<|rn 1 Z<|kB a λe c a=>rc _ (cF FK) (Ba N n 1 8 _ c)<|kB a λf d a=>rc _ (cF Bw) (AE N e 7 _ d)<|rz Z ?_
 cases a
 exact aR eE1
def MI(N:Nat)(_:W2)(b c:Int):Y1 Int:=(IM N b).bind λe=>(KB N c).bind λd=>(AO N ([e,d])).bind λa=>some a
theorem fT(N d a b r)(e:MI N d a b=some r):Gives prog 97 #[vA #[vS d,vI a,vI b]] (vI r):=by
 unfold MI at e
 refine Au follows func97 Z 11 Z _ fz1 (λl=> ?_)
 refine Ad<|rA Z λp=>rz Z<|Aa λx m=>BO [(some 9,false),(some 10,false)] (conG prog [(10,λ_ _ v_ L_ U_=> ∀h,IM N a=some h-> ∀i,KB N b=some i-> ∀j,AO N ([h,i])=some j->(pV (vI j)) v_ L_ U_)]) [] (by decide+kernel) (λy=>AN)<|rm 2 [0] Z<|kB e λq f e=>rc _ (cF bw) (Qw N a _ f)<|rm 2 [0] Z<|kB e λs g e=>rc _ (cF br) (SG N b _ g)<|KP (Ls:=[(PL p d a b)]) 51 Ca [q,s] [vI q,vI s] [vI 0,vI 0] Z Z Z Z Z Z Z (by kernel_rfl) (by kernel_rfl) Z Z Z (λt u n=> ?_)
 refine kB e λv c e=>rg _ (cF Fo) (λo w z_=>Co N _ _ c z_.view t ((AB n (Al (Ls:=[(PL p d a b),u]) (k:=1) Z Z)) o w z_)) (λ_ _ v_ L_ U_=>⟨λh_=>h_ _ f _ g _ c,λh_=>by intro _ e_;cases q3 (e_.symm.trans f);intro _ e_;cases q3 (e_.symm.trans g);intro _ e_;cases q3 (e_.symm.trans c);exact h_⟩) ?_
 refine rz Z<|m _ _ ?_
 cases e
 exact aR eE1
def MX(N:Nat)(i:Int)(c:W2)(d f:Int)(a:Y0 (W2)):Y1 Int:=ck (0<=i/\i<(a.length:Int)) ((Fl N (a[i.toNat]!)).bind λh=>(Ap N h 4).bind λj=>(Bk N a i).bind λg=>(MI N c d f).bind λb=>(AO N ([j,g,b])).bind λe=>some e)
theorem Yq(N i e f g d r)(b:MX N i e f g d=some r)(D)(p:Nat)(a)(h:Rd Aa4 D a d)(j:Blk D p [a])(q:Nat)(s:Blk D q [vF 97 #[] #[]]):Does prog 174 #[vI i,vA #[vS e,vI f,vI g],vP p 0,vP q 0] D [] (pV (vI r)):=by
 unfold MX at b
 refine Ak follows func174 Z 21 Z _ fz4 (λC=> ?_)
 refine Ad<|rA Z λI=>rz Z<|Aa λO E=>BO [(some 15,false),(some 19,false),(some 20,false)] (conG prog [(15,cV (Bk N d i) λn=>vI n),(20,λ_ _ v_ L_ U_=> ∀n,Fl N (d[i.toNat]!)=some n-> ∀v,Ap N n 4=some v-> ∀x,Bk N d i=some x-> ∀y,MI N e f g=some y-> ∀z,AO N ([v,x,y])=some z->(pV (vI z)) v_ L_ U_)]) [] (by decide+kernel) (λP=>AN)<|Ii a (vs:=[a]) (o:=0) Z Z (Bg j) Z<|rn 1 Z<|kC b λA b=>rI (W8 h) A Z<|rE (Ay h) A 0 Z<|kB b λL t b=>rc _ (cF Oy) (MH N _ _ t)<|kB b λJ u b=>rc _ (cF Bw) (AE N L 4 _ u)<|Ii a (vs:=[a]) (o:=0) Z Z (Bg j) Z<|rn 1 Z<|kB b λK c b=>rg _ (cF Pc) (λo w z_=>IL N d i _ c z_.view a (z_.r h)) (Hq c)<|Ii (vF 97 #[] #[]) (vs:=[vF 97 #[] #[]]) (o:=0) Z Z (Bg s) Z<|rm 1 [0] Z<|kB b λB l b=>rc _ (Cc (caps:=[]) Z tx Z) (fT N e f g _ l) ?_
 refine KP (Ls:=[(PL I e f g)]) 51 Ca [J,K,B] [vI J,vI K,vI B] [vI 0,vI 0,vI 0] Z Z Z Z Z Z Z (by kernel_rfl) (by kernel_rfl) Z Z Z (λF G H=> ?_)
 refine kB b λM m b=>rg _ (cF Fo) (λo w z_=>Co N _ _ m z_.view F ((AB H (Al (Ls:=[(PL I e f g),G]) (k:=1) Z Z)) o w z_)) (λ_ _ v_ L_ U_=>⟨λh_=>h_ _ t _ u _ c _ l _ m,λh_=>by intro _ e_;cases q3 (e_.symm.trans t);intro _ e_;cases q3 (e_.symm.trans u);intro _ e_;cases q3 (e_.symm.trans c);intro _ e_;cases q3 (e_.symm.trans l);intro _ e_;cases q3 (e_.symm.trans m);exact h_⟩) ?_
 refine rz Z<|E _ _ ?_
 cases b
 exact aR eV1
def KZ(N:Nat)(c:Y0 (W2×Int×Int))(b:Y0 (W2)):Nat->Int->Y1 (Int×Int)
  |0,_=>none
  |e+1,a=>if a<(c.length:Int)then ck (0<=a/\a<(c.length:Int)) ((MX N a ((c[a.toNat]!).1) ((c[a.toNat]!).2.1) ((c[a.toNat]!).2.2) b).bind λd=>if(d:Int)≠0 then some (a,d)else ck (R64 (a+1)) ((KZ N c b e) (a+1)))else some (0,0)
def OX(N:Nat)(c:Y0 (W2×Int×Int))(b:Int)(a:Y0 (W2)):Y1 (Int×Int):=if(c.length:Int)>b then some (0,2)else KZ N c a N 0
theorem dh(N B m d r)(c:OX N B m d=some r)(z p)(j:Rd Ae2 z p B)(a:Nat)(e)(i:Rd Aa4 z e d)(f:Blk z a [e])(b:Nat)(g:Blk z b [vF 97 #[] #[]]):Does prog 173 #[p,vI m,vF 174 #[] #[vP a 0,vP b 0]] z [] (pV (vT #[vI r.1,vI r.2])):=by
 unfold OX at c
 refine Ak follows func173 Z 31 Z _ fz3 (λA=> ?_)
 refine AZ Z<|Aa λJ C=>Ad<|rn 1 Z<|rL (W8 j) Z<|rz Z<|aD c Z (λD c=> ?_) (λD c=> ?_)
 ·refine AZ Z ?_
  cases c
  exact aR eV2
 refine Ac<|C _ _ ?_
 refine Aa λK E=>Ad<|rn 1 Z<|rL (W8 j) Z<|rz Z<|Ai<|AL (λtt ll nn=> ∃(n:Nat) (h:Int),(KZ N B d n h=some r)/\Is [(2,vF 174 #[] #[vP a 0,vP b 0]),(15,p),(16,vI (B.length:Int)),(17,vI h)] [] tt ll/\nn=n+1) (N+1) ?_ ?_
 ·exact⟨N,0,c,Ag Z Z,Z⟩
 clear c;rintro t l _ ⟨n,h,c,⟨⟨T,rfl⟩,rfl⟩,rfl⟩
 rcases n with _|n
 ·exact absurd c (by simp [KZ])
 rw [KZ] at c
 refine AZ Z<|Aa λF q=>aD c Z (λs c=> ?_) (λs c=> ?_)
 ·refine Ac<|q _ _ ?_
  refine Aa λG u=>Ai<|Ad<|rn 1 Z<|kC c λk c=>rI (W8 j) k Z<|rE (Ay j) k 0 Z<|rA Z λH=>ry [0] Z<|Ad<|rm 3 [0] Z<|kB c λI v c=>gV _ (Cc (caps:=[vP a 0,vP b 0]) Z pS Z) (λo w z_=>Yq N h _ _ _ d _ v z_.view a e (z_.r i) (Bg f o w z_) b (Bg g o w z_))<|rz Z<|AZ Z<|aN c Z (λx c=> ?_) (λx c=> ?_)
  ·refine AZ Z ?_
   cases c
   exact aR eV2
  refine Ac<|u _ _ ?_
  refine Ah<|kC c λy c=>rX y Z<|rz Z<|fg _ (Sub.of (suC _ suN)) ?_
  exact⟨n+1,by omega,n,(h+1),c,Ag Z Z,Z⟩
 refine AM<|E _ _ ?_
 refine AZ Z ?_
 cases c
 exact aR eV2
def Rt(N:Nat)(c:Y0 (W2×Int×Int))(b:Int):Y1 (Int×Int):=(Ru N c).bind λd=>(OX N c b d).bind λa=>some (a.1,a.2)
theorem db(N j a r)(c:Rt N j a=some r)(p b)(f:Rd Ae2 p b j):Does prog 95 #[b,vI a,vF 96 #[] #[],vF 97 #[] #[]] p [] (pV (vT #[vI r.1,vI r.2])):=by
 unfold Rt at c
 refine Ak follows func95 Z 20 Z _ fz4 (λg=> ?_)
 refine Ad<|rA Z λd=>rz Z<|Ad<|rn 2 Z<|kB c λq l c=>gS (Ls:=[(Wp d (vF 97 #[] #[]))]) (cF pU) (λo w z_=>dc N j _ l z_.view b ((Ay f) o w z_)) (λh n m=> ?_)
 refine rA Z λi=>r_s (V2 [(PM i h),(Wp d (vF 97 #[] #[])),n]) 0 _ _ _ _ _ (#[h]) Z Z Z (CR Z (W7 m)) (.ofS Z Z (sS m AD)) Z Z<|Aj<|Ad<|rn 2 Z<|r_W (vF 174 #[] #[vP i 0,vP d 0]) Z (Jt Z)<|kB c λs e c=>gV _ (cF pT) (λo w z_=>dh N j a q _ e z_.view b ((Ay f) o w z_) i h ((AB m (Al (Ls:=[(PM i h),(Wp d (vF 97 #[] #[])),n]) (k:=2) Z Z)) o w z_) (Da 0 Z Z o w z_) d (Da 1 Z Z o w z_))<|rz Z ?_
 cases c
 exact aR eV2
def LX(N:Nat)(c:Ao):Y1 (Int×Int):=(Rt N c.2.2.2.2.2.2.2.2.2.2.2.2.1 8).bind λa=>some (a.1,a.2)
theorem dk(N c r)(a:LX N c=some r)(f)(e:AC)(g:Aa2 f e c):Does prog 42 #[vA (Ab c e)] f [] (pV (vT #[vI r.1,vI r.2])):=by
 unfold LX at a
 refine Ak follows func42 Z 10 Z _ fz1 (λb=> ?_)
 refine Ad<|rA Z λh=>rz Z<|Ad<|rm 3 [0] Z<|kB a λi d a=>gV _ (cF tA) (λo w z_=>db N _ 8 _ d z_.view (D8 e).2.2.2.1 ((Ay g.2.2.2.2.2.2.2.2.2.2.2.1) o w z_))<|rz Z ?_
 cases a
 exact aR eV2
def Om(_:Nat)(a:W2)(_:Int):Y1 (W2):=some a
theorem WP(N a b r)(d:Om N a b=some r):Gives prog 100 #[vA #[vS a,vI b]] (vS r):=by
 unfold Om at d
 refine Au follows func100 Z 5 Z _ fz1 (λc=> ?_)
 refine Ad<|rA Z λe=>rz Z<|AY [0] Z ?_
 cases d
 exact aR eE1
def Ia(N:Nat)(b:Y0 (W2×Int)):Nat->Y0 (W2)->Int->Y1 (Y0 (W2))
  |0,_,_=>none
  |e+1,c,a=>if a<(b.length:Int)then ck (0<=a/\a<(b.length:Int)) ((Om N ((b[a.toNat]!).1) ((b[a.toNat]!).2)).bind λd=>ck (0<=a/\a<(c.length:Int)) (ck (R64 (a+1)) ((Ia N b e) ((c).set (a.toNat) d) (a+1))))else some c
def Nu(N:Nat)(a:Y0 (W2×Int)):Y1 (Y0 (W2)):=ck (0<=(a.length:Int)/\(a.length:Int)<=8796093022208) (Ia N a N ((List.replicate ((a.length:Int)).toNat ([]))) 0)
theorem UW(N f r)(b:Nu N f=some r)(C k)(g:Rd Ae3 C k f):Does prog 175 #[k,vF 100 #[] #[]] C [] (p1 (λs_=>s_) 9 Aa4 r):=by
 unfold Nu at b
 refine Ak follows func175 Z 26 Z _ fz2 (λw=> ?_)
 refine AZ Z<|Ad<|rn 1 Z<|rL (W8 g) Z<|kC b λx b=>cB 10<|Ta (Ls:=[]) 9 Aa4 ([]) (f.length:Int) Z Z Z Z Z Z Z Z Z Z 8796093022208 Z x (λ_ _ _ _ _=>Iff.rfl) (λy B D=> ?_)
 refine rz Z<|Aa λG z=>Ad<|rn 1 Z<|rL (W8 g) Z<|rz Z<|Ai<|BF _ (W5 [B] [0] Z)<|AL (λtt ll nn=> ∃(j:Nat) (d:Y0 (W2)) (a:Int),(Ia N f j d a=some r)/\ ∃(c:Y0 Bl),Sl 9 Aa4 y d c/\Is [(1,vF 100 #[] #[]),(5,y),(11,k),(12,vI (f.length:Int)),(13,vI a)] (V2 [c]) tt ll/\nn=j+1) (N+1) ?_ ?_
 ·exact⟨N,(List.replicate ((f.length:Int)).toNat ([])),0,b,B,D,Ag Z Z,Z⟩
 clear b;rintro t l _ ⟨j,d,a,b,c,e,⟨⟨T,rfl⟩,rfl⟩,rfl⟩
 rcases j with _|j
 ·exact absurd b (by simp [Ia])
 rw [Ia] at b
 refine AZ Z<|Aa λE m=>aD b Z (λn b=> ?_) (λn b=> ?_)
 ·refine Ac<|m _ _ ?_
  refine Aa λF o=>Ai<|Ad<|rn 1 Z<|kC b λh b=>rI (W8 g) h Z<|rE (Ay g) h 0 Z<|rA Z λp=>ry [0] Z<|Ah<|rm 4 [0] Z<|kB b λq s b=>rc _ (Cc (caps:=[]) Z qS Z) (WP N _ _ _ s)<|kC b λi b=>rI (W7 e) i Z<|QR (Ls:=[(Tj p ((f[a.toNat]!).1) ((f[a.toNat]!).2)),c]) 1 (En:=Aa4) (d[a.toNat]!) q (a.toNat) 0 Z Z Z e (Cp i) Z Z Z (It Z) Z (λu A=> ?_)
  refine Aj<|o _ _ ?_
  refine Ah<|kC b λv b=>rX v Z<|rz Z<|fg _ (W5 [(Tj p ((f[a.toNat]!).1) ((f[a.toNat]!).2)),u] [1] Z) ?_
  exact⟨j+1,by omega,j,(d).set (a.toNat) q,(a+1),b,u,A,Ag Z Z,Z⟩
 refine AM<|z _ _ ?_
 refine AZ Z ?_
 cases b
 refine AU (λH=>Iq (v0:=y) e (Fu (W5 [c] [0] Z)) Z (Gl Z))
def My(N:Nat)(_:W2)(a:Int):Y1 Int:=(KB N a).bind λb=>some b
theorem WO(N b a r)(c:My N b a=some r):Gives prog 101 #[vA #[vS b,vI a]] (vI r):=by
 unfold My at c
 refine Au follows func101 Z 6 Z _ fz1 (λd=> ?_)
 refine Ad<|rA Z λf=>rz Z<|Ad<|rm 2 [0] Z<|kB c λg e c=>rc _ (cF br) (SG N a _ e)<|rz Z ?_
 cases c
 exact aR eE1
def Kl(N:Nat)(i:Int)(c:W2)(d:Int)(a:Y0 (W2)):Y1 Int:=ck (0<=i/\i<(a.length:Int)) ((Fl N (a[i.toNat]!)).bind λg=>(Ap N g 4).bind λh=>(Bk N a i).bind λf=>(My N c d).bind λb=>(AO N ([h,f,b])).bind λe=>some e)
theorem Ts(N i e f d r)(b:Kl N i e f d=some r)(C)(n:Nat)(a)(g:Rd Aa4 C a d)(h:Blk C n [a])(p:Nat)(q:Blk C p [vF 101 #[] #[]]):Does prog 177 #[vI i,vA #[vS e,vI f],vP n 0,vP p 0] C [] (pV (vI r)):=by
 unfold Kl at b
 refine Ak follows func177 Z 21 Z _ fz4 (λB=> ?_)
 refine Ad<|rA Z λH=>rz Z<|Aa λM D=>BO [(some 15,false),(some 19,false),(some 20,false)] (conG prog [(15,cV (Bk N d i) λm=>vI m),(20,λ_ _ v_ L_ U_=> ∀m,Fl N (d[i.toNat]!)=some m-> ∀u,Ap N m 4=some u-> ∀v,Bk N d i=some v-> ∀x,My N e f=some x-> ∀y,AO N ([u,v,x])=some y->(pV (vI y)) v_ L_ U_)]) [] (by decide+kernel) (λO=>AN)<|Ii a (vs:=[a]) (o:=0) Z Z (Bg h) Z<|rn 1 Z<|kC b λz b=>rI (W8 g) z Z<|rE (Ay g) z 0 Z<|kB b λK s b=>rc _ (cF Oy) (MH N _ _ s)<|kB b λI t b=>rc _ (cF Bw) (AE N K 4 _ t)<|Ii a (vs:=[a]) (o:=0) Z Z (Bg h) Z<|rn 1 Z<|kB b λJ c b=>rg _ (cF Pc) (λo w z_=>IL N d i _ c z_.view a (z_.r g)) (Hq c)<|Ii (vF 101 #[] #[]) (vs:=[vF 101 #[] #[]]) (o:=0) Z Z (Bg q) Z<|rm 1 [0] Z<|kB b λA j b=>rc _ (Cc (caps:=[]) Z qR Z) (WO N e f _ j) ?_
 refine KP (Ls:=[(Tj H e f)]) 51 Ca [I,J,A] [vI I,vI J,vI A] [vI 0,vI 0,vI 0] Z Z Z Z Z Z Z (by kernel_rfl) (by kernel_rfl) Z Z Z (λE F G=> ?_)
 refine kB b λL l b=>rg _ (cF Fo) (λo w z_=>Co N _ _ l z_.view E ((AB G (Al (Ls:=[(Tj H e f),F]) (k:=1) Z Z)) o w z_)) (λ_ _ v_ L_ U_=>⟨λh_=>h_ _ s _ t _ c _ j _ l,λh_=>by intro _ e_;cases q3 (e_.symm.trans s);intro _ e_;cases q3 (e_.symm.trans t);intro _ e_;cases q3 (e_.symm.trans c);intro _ e_;cases q3 (e_.symm.trans j);intro _ e_;cases q3 (e_.symm.trans l);exact h_⟩) ?_
 refine rz Z<|D _ _ ?_
 cases b
 exact aR eV1
def Ib(N:Nat)(c:Y0 (W2×Int))(b:Y0 (W2)):Nat->Int->Y1 (Int×Int)
  |0,_=>none
  |e+1,a=>if a<(c.length:Int)then ck (0<=a/\a<(c.length:Int)) ((Kl N a ((c[a.toNat]!).1) ((c[a.toNat]!).2) b).bind λd=>if(d:Int)≠0 then some (a,d)else ck (R64 (a+1)) ((Ib N c b e) (a+1)))else some (0,0)
def LJ(N:Nat)(c:Y0 (W2×Int))(b:Int)(a:Y0 (W2)):Y1 (Int×Int):=if(c.length:Int)>b then some (0,2)else Ib N c a N 0
theorem UX(N B m d r)(c:LJ N B m d=some r)(z p)(j:Rd Ae3 z p B)(a:Nat)(e)(i:Rd Aa4 z e d)(f:Blk z a [e])(b:Nat)(g:Blk z b [vF 101 #[] #[]]):Does prog 176 #[p,vI m,vF 177 #[] #[vP a 0,vP b 0]] z [] (pV (vT #[vI r.1,vI r.2])):=by
 unfold LJ at c
 refine Ak follows func176 Z 31 Z _ fz3 (λA=> ?_)
 refine AZ Z<|Aa λJ C=>Ad<|rn 1 Z<|rL (W8 j) Z<|rz Z<|aD c Z (λD c=> ?_) (λD c=> ?_)
 ·refine AZ Z ?_
  cases c
  exact aR eV2
 refine Ac<|C _ _ ?_
 refine Aa λK E=>Ad<|rn 1 Z<|rL (W8 j) Z<|rz Z<|Ai<|AL (λtt ll nn=> ∃(n:Nat) (h:Int),(Ib N B d n h=some r)/\Is [(2,vF 177 #[] #[vP a 0,vP b 0]),(15,p),(16,vI (B.length:Int)),(17,vI h)] [] tt ll/\nn=n+1) (N+1) ?_ ?_
 ·exact⟨N,0,c,Ag Z Z,Z⟩
 clear c;rintro t l _ ⟨n,h,c,⟨⟨T,rfl⟩,rfl⟩,rfl⟩
 rcases n with _|n
 ·exact absurd c (by simp [Ib])
 rw [Ib] at c
 refine AZ Z<|Aa λF q=>aD c Z (λs c=> ?_) (λs c=> ?_)
 ·refine Ac<|q _ _ ?_
  refine Aa λG u=>Ai<|Ad<|rn 1 Z<|kC c λk c=>rI (W8 j) k Z<|rE (Ay j) k 0 Z<|rA Z λH=>ry [0] Z<|Ad<|rm 3 [0] Z<|kB c λI v c=>gV _ (Cc (caps:=[vP a 0,vP b 0]) Z pP Z) (λo w z_=>Ts N h _ _ d _ v z_.view a e (z_.r i) (Bg f o w z_) b (Bg g o w z_))<|rz Z<|AZ Z<|aN c Z (λx c=> ?_) (λx c=> ?_)
  ·refine AZ Z ?_
   cases c
   exact aR eV2
  refine Ac<|u _ _ ?_
  refine Ah<|kC c λy c=>rX y Z<|rz Z<|fg _ (Sub.of (suC _ suN)) ?_
  exact⟨n+1,by omega,n,(h+1),c,Ag Z Z,Z⟩
 refine AM<|E _ _ ?_
 refine AZ Z ?_
 cases c
 exact aR eV2
def Nt(N:Nat)(c:Y0 (W2×Int))(b:Int):Y1 (Int×Int):=(Nu N c).bind λd=>(LJ N c b d).bind λa=>some (a.1,a.2)
theorem UV(N j a r)(c:Nt N j a=some r)(p b)(f:Rd Ae3 p b j):Does prog 99 #[b,vI a,vF 100 #[] #[],vF 101 #[] #[]] p [] (pV (vT #[vI r.1,vI r.2])):=by
 unfold Nt at c
 refine Ak follows func99 Z 20 Z _ fz4 (λg=> ?_)
 refine Ad<|rA Z λd=>rz Z<|Ad<|rn 2 Z<|kB c λq l c=>gS (Ls:=[(Wo d (vF 101 #[] #[]))]) (cF pR) (λo w z_=>UW N j _ l z_.view b ((Ay f) o w z_)) (λh n m=> ?_)
 refine rA Z λi=>r_s (V2 [(PM i h),(Wo d (vF 101 #[] #[])),n]) 0 _ _ _ _ _ (#[h]) Z Z Z (CR Z (W7 m)) (.ofS Z Z (sS m AD)) Z Z<|Aj<|Ad<|rn 2 Z<|r_W (vF 177 #[] #[vP i 0,vP d 0]) Z (Jt Z)<|kB c λs e c=>gV _ (cF pQ) (λo w z_=>UX N j a q _ e z_.view b ((Ay f) o w z_) i h ((AB m (Al (Ls:=[(PM i h),(Wo d (vF 101 #[] #[])),n]) (k:=2) Z Z)) o w z_) (Da 0 Z Z o w z_) d (Da 1 Z Z o w z_))<|rz Z ?_
 cases c
 exact aR eV2
def IB(N:Nat)(c:Ao):Y1 (Int×Int):=(Nt N c.2.2.2.2.2.2.2.2.2.2.2.2.2.1 8).bind λa=>some (a.1,a.2)
theorem Vc(N c r)(a:IB N c=some r)(f)(e:AC)(g:Aa2 f e c):Does prog 43 #[vA (Ab c e)] f [] (pV (vT #[vI r.1,vI r.2])):=by
 unfold IB at a
 refine Ak follows func43 Z 10 Z _ fz1 (λb=> ?_)
 refine Ad<|rA Z λh=>rz Z<|Ad<|rm 3 [0] Z<|kB a λi d a=>gV _ (cF tw) (λo w z_=>UV N _ 8 _ d z_.view (D8 e).2.2.2.2.1 ((Ay g.2.2.2.2.2.2.2.2.2.2.2.2.1) o w z_))<|rz Z ?_
 cases a
 exact aR eV2
def Qy(_:Nat)(a:W2)(_ _ _:Int):Y1 (W2):=some a
theorem aW(N a b c d r)(f:Qy N a b c d=some r):Gives prog 103 #[vA #[vS a,vI b,vI c,vI d]] (vS r):=by
 unfold Qy at f
 refine Au follows func103 Z 5 Z _ fz1 (λe=> ?_)
 refine Ad<|rA Z λg=>rz Z<|AY [0] Z ?_
 cases f
 exact aR eE1
def Jk(N:Nat)(b:Y0 (W2×Int×Int×Int)):Nat->Y0 (W2)->Int->Y1 (Y0 (W2))
  |0,_,_=>none
  |e+1,c,a=>if a<(b.length:Int)then ck (0<=a/\a<(b.length:Int)) ((Qy N ((b[a.toNat]!).1) ((b[a.toNat]!).2.1) ((b[a.toNat]!).2.2.1) ((b[a.toNat]!).2.2.2)).bind λd=>ck (0<=a/\a<(c.length:Int)) (ck (R64 (a+1)) ((Jk N b e) ((c).set (a.toNat) d) (a+1))))else some c
def Pp(N:Nat)(a:Y0 (W2×Int×Int×Int)):Y1 (Y0 (W2)):=ck (0<=(a.length:Int)/\(a.length:Int)<=8796093022208) (Jk N a N ((List.replicate ((a.length:Int)).toNat ([]))) 0)
theorem Yv(N d r)(b:Pp N d=some r)(C k)(g:Rd Ae4 C k d):Does prog 178 #[k,vF 103 #[] #[]] C [] (p1 (λs_=>s_) 9 Aa4 r):=by
 unfold Pp at b
 refine Ak follows func178 Z 26 Z _ fz2 (λw=> ?_)
 refine AZ Z<|Ad<|rn 1 Z<|rL (W8 g) Z<|kC b λx b=>cB 10<|Ta (Ls:=[]) 9 Aa4 ([]) (d.length:Int) Z Z Z Z Z Z Z Z Z Z 8796093022208 Z x (λ_ _ _ _ _=>Iff.rfl) (λy B D=> ?_)
 refine rz Z<|Aa λG z=>Ad<|rn 1 Z<|rL (W8 g) Z<|rz Z<|Ai<|BF _ (W5 [B] [0] Z)<|AL (λtt ll nn=> ∃(j:Nat) (e:Y0 (W2)) (a:Int),(Jk N d j e a=some r)/\ ∃(c:Y0 Bl),Sl 9 Aa4 y e c/\Is [(1,vF 103 #[] #[]),(5,y),(11,k),(12,vI (d.length:Int)),(13,vI a)] (V2 [c]) tt ll/\nn=j+1) (N+1) ?_ ?_
 ·exact⟨N,(List.replicate ((d.length:Int)).toNat ([])),0,b,B,D,Ag Z Z,Z⟩
 clear b;rintro t l _ ⟨j,e,a,b,c,f,⟨⟨T,rfl⟩,rfl⟩,rfl⟩
 rcases j with _|j
 ·exact absurd b (by simp [Jk])
 rw [Jk] at b
 refine AZ Z<|Aa λE m=>aD b Z (λn b=> ?_) (λn b=> ?_)
 ·refine Ac<|m _ _ ?_
  refine Aa λF o=>Ai<|Ad<|rn 1 Z<|kC b λh b=>rI (W8 g) h Z<|rE (Ay g) h 0 Z<|rA Z λp=>ry [0] Z<|Ah<|rm 4 [0] Z<|kB b λq s b=>rc _ (Cc (caps:=[]) Z qP Z) (aW N _ _ _ _ _ s)<|kC b λi b=>rI (W7 f) i Z<|QR (Ls:=[(Og p ((d[a.toNat]!).1) ((d[a.toNat]!).2.1) ((d[a.toNat]!).2.2.1) ((d[a.toNat]!).2.2.2)),c]) 1 (En:=Aa4) (e[a.toNat]!) q (a.toNat) 0 Z Z Z f (Cp i) Z Z Z (It Z) Z (λu A=> ?_)
  refine Aj<|o _ _ ?_
  refine Ah<|kC b λv b=>rX v Z<|rz Z<|fg _ (W5 [(Og p ((d[a.toNat]!).1) ((d[a.toNat]!).2.1) ((d[a.toNat]!).2.2.1) ((d[a.toNat]!).2.2.2)),u] [1] Z) ?_
  exact⟨j+1,by omega,j,(e).set (a.toNat) q,(a+1),b,u,A,Ag Z Z,Z⟩
 refine AM<|z _ _ ?_
 refine AZ Z ?_
 cases b
 refine AU (λH=>Iq (v0:=y) f (Fu (W5 [c] [0] Z)) Z (Gl Z))
def Kc(N:Nat)(c:Int)(a:Y3):Y1 Int:=(KB N c).bind λe=>(Ap N a 7).bind λd=>(AO N ([e,d])).bind λb=>some b
def Ld(N:Nat)(_:W2)(a d c:Int):Y1 Int:=(AG N d 0 65535).bind λe=>if e=true then(AG N c 1 1048576).bind λb=>Kc N a b else Kc N a false
theorem aV(N g d e f r)(b:Ld N g d e f=some r):Gives prog 104 #[vA #[vS g,vI d,vI e,vI f]] (vI r):=by
 unfold Ld at b
 refine Au follows func104 Z 19 Z _ fz1 (λm=> ?_)
 refine Ad<|rA Z λn=>rz Z<|Cs (λtt ll=> ∃(a:Y3),(Kc N d a=some r)/\Is [(1,vP n 0),(3,vB a)] (Og n g d e f) tt ll) ?_ ?_
 ·refine Ah<|rm 2 [0] Z<|kB b λp h b=>rc _ (cF FK) (Ba N e 0 65535 _ h)<|rn 1 Z ?_
  rcases c:p with _|_
  ·replace b:=iB c b
   refine rz Z<|fg _ (Sub.of (suK _ suN)) ?_
   exact⟨false,b,Ag (by first|rfl|(simp only [c];done)|(simp only [c];rfl)|(simp only [BB];rfl)) Z⟩
  replace b:=ifp c b
  refine rn 1 Z<|r_y Z<|rm 1 [0] Z<|r_y Z<|kB b λq i b=>rc _ (cF FK) (Ba N f 1 1048576 _ i)<|rz Z<|fg _ (Sub.of (suK _ suN)) ?_
  exact⟨q,b,Ag (by first|rfl|(simp only [c];done)|(simp only [c];rfl)|(simp only [BB];rfl)) Z⟩
 clear b;rintro t l ⟨a,b,⟨T,rfl⟩,rfl⟩
 unfold Kc at b
 refine Ad<|rm 2 [0] Z<|kB b λx s b=>rc _ (cF br) (SG N d _ s)<|rn 1 Z<|kB b λy u b=>rc _ (cF Bw) (AE N _ 7 _ u)<|gB (Ls:=[(Og n g d e f)]) 51 Ca [x,y] (λz A v=> ?_)
 refine kB b λB j b=>gV _ (cF Fo) (λo w z_=>Co N _ _ j z_.view z ((AB v (Al (Ls:=[(Og n g d e f),A]) (k:=1) Z Z)) o w z_))<|rz Z ?_
 cases b
 exact aR eE1
def LH(N:Nat)(i:Int)(c:W2)(d g e:Int)(a:Y0 (W2)):Y1 Int:=ck (0<=i/\i<(a.length:Int)) ((Fl N (a[i.toNat]!)).bind λj=>(Ap N j 4).bind λk=>(Bk N a i).bind λh=>(Ld N c d g e).bind λb=>(AO N ([k,h,b])).bind λf=>some f)
theorem UT(N i e f g h d r)(b:LH N i e f g h d=some r)(E)(q:Nat)(a)(j:Rd Aa4 E a d)(l:Blk E q [a])(s:Nat)(t:Blk E s [vF 104 #[] #[]]):Does prog 180 #[vI i,vA #[vS e,vI f,vI g,vI h],vP q 0,vP s 0] E [] (pV (vI r)):=by
 unfold LH at b
 refine Ak follows func180 Z 21 Z _ fz4 (λD=> ?_)
 refine Ad<|rA Z λJ=>rz Z<|Aa λP F=>BO [(some 15,false),(some 19,false),(some 20,false)] (conG prog [(15,cV (Bk N d i) λp=>vI p),(20,λ_ _ v_ L_ U_=> ∀p,Fl N (d[i.toNat]!)=some p-> ∀x,Ap N p 4=some x-> ∀y,Bk N d i=some y-> ∀z,Ld N e f g h=some z-> ∀A,AO N ([x,y,z])=some A->(pV (vI A)) v_ L_ U_)]) [] (by decide+kernel) (λQ=>AN)<|Ii a (vs:=[a]) (o:=0) Z Z (Bg l) Z<|rn 1 Z<|kC b λB b=>rI (W8 j) B Z<|rE (Ay j) B 0 Z<|kB b λM u b=>rc _ (cF Oy) (MH N _ _ u)<|kB b λK v b=>rc _ (cF Bw) (AE N M 4 _ v)<|Ii a (vs:=[a]) (o:=0) Z Z (Bg l) Z<|rn 1 Z<|kB b λL c b=>rg _ (cF Pc) (λo w z_=>IL N d i _ c z_.view a (z_.r j)) (Hq c)<|Ii (vF 104 #[] #[]) (vs:=[vF 104 #[] #[]]) (o:=0) Z Z (Bg t) Z<|rm 1 [0] Z<|kB b λC m b=>rc _ (Cc (caps:=[]) Z qO Z) (aV N e f g h _ m) ?_
 refine KP (Ls:=[(Og J e f g h)]) 51 Ca [K,L,C] [vI K,vI L,vI C] [vI 0,vI 0,vI 0] Z Z Z Z Z Z Z (by kernel_rfl) (by kernel_rfl) Z Z Z (λG H I=> ?_)
 refine kB b λO n b=>rg _ (cF Fo) (λo w z_=>Co N _ _ n z_.view G ((AB I (Al (Ls:=[(Og J e f g h),H]) (k:=1) Z Z)) o w z_)) (λ_ _ v_ L_ U_=>⟨λh_=>h_ _ u _ v _ c _ m _ n,λh_=>by intro _ e_;cases q3 (e_.symm.trans u);intro _ e_;cases q3 (e_.symm.trans v);intro _ e_;cases q3 (e_.symm.trans c);intro _ e_;cases q3 (e_.symm.trans m);intro _ e_;cases q3 (e_.symm.trans n);exact h_⟩) ?_
 refine rz Z<|F _ _ ?_
 cases b
 exact aR eV1
def Jo(N:Nat)(b:Y0 (W2×Int×Int×Int))(c:Y0 (W2)):Nat->Int->Y1 (Int×Int)
  |0,_=>none
  |e+1,a=>if a<(b.length:Int)then ck (0<=a/\a<(b.length:Int)) ((LH N a ((b[a.toNat]!).1) ((b[a.toNat]!).2.1) ((b[a.toNat]!).2.2.1) ((b[a.toNat]!).2.2.2) c).bind λd=>if(d:Int)≠0 then some (a,d)else ck (R64 (a+1)) ((Jo N b c e) (a+1)))else some (0,0)
def Na(N:Nat)(c:Y0 (W2×Int×Int×Int))(b:Int)(a:Y0 (W2)):Y1 (Int×Int):=if(c.length:Int)>b then some (0,2)else Jo N c a N 0
theorem Yz(N B m d r)(c:Na N B m d=some r)(z p)(j:Rd Ae4 z p B)(a:Nat)(e)(i:Rd Aa4 z e d)(f:Blk z a [e])(b:Nat)(g:Blk z b [vF 104 #[] #[]]):Does prog 179 #[p,vI m,vF 180 #[] #[vP a 0,vP b 0]] z [] (pV (vT #[vI r.1,vI r.2])):=by
 unfold Na at c
 refine Ak follows func179 Z 31 Z _ fz3 (λA=> ?_)
 refine AZ Z<|Aa λJ C=>Ad<|rn 1 Z<|rL (W8 j) Z<|rz Z<|aD c Z (λD c=> ?_) (λD c=> ?_)
 ·refine AZ Z ?_
  cases c
  exact aR eV2
 refine Ac<|C _ _ ?_
 refine Aa λK E=>Ad<|rn 1 Z<|rL (W8 j) Z<|rz Z<|Ai<|AL (λtt ll nn=> ∃(n:Nat) (h:Int),(Jo N B d n h=some r)/\Is [(2,vF 180 #[] #[vP a 0,vP b 0]),(15,p),(16,vI (B.length:Int)),(17,vI h)] [] tt ll/\nn=n+1) (N+1) ?_ ?_
 ·exact⟨N,0,c,Ag Z Z,Z⟩
 clear c;rintro t l _ ⟨n,h,c,⟨⟨T,rfl⟩,rfl⟩,rfl⟩
 rcases n with _|n
 ·exact absurd c (by simp [Jo])
 rw [Jo] at c
 refine AZ Z<|Aa λF q=>aD c Z (λs c=> ?_) (λs c=> ?_)
 ·refine Ac<|q _ _ ?_
  refine Aa λG u=>Ai<|Ad<|rn 1 Z<|kC c λk c=>rI (W8 j) k Z<|rE (Ay j) k 0 Z<|rA Z λH=>ry [0] Z<|Ad<|rm 3 [0] Z<|kB c λI v c=>gV _ (Cc (caps:=[vP a 0,vP b 0]) Z pL Z) (λo w z_=>UT N h _ _ _ _ d _ v z_.view a e (z_.r i) (Bg f o w z_) b (Bg g o w z_))<|rz Z<|AZ Z<|aN c Z (λx c=> ?_) (λx c=> ?_)
  ·refine AZ Z ?_
   cases c
   exact aR eV2
  refine Ac<|u _ _ ?_
  refine Ah<|kC c λy c=>rX y Z<|rz Z<|fg _ (Sub.of (suC _ suN)) ?_
  exact⟨n+1,by omega,n,(h+1),c,Ag Z Z,Z⟩
 refine AM<|E _ _ ?_
 refine AZ Z ?_
 cases c
 exact aR eV2
def Pk(N:Nat)(c:Y0 (W2×Int×Int×Int))(b:Int):Y1 (Int×Int):=(Pp N c).bind λd=>(Na N c b d).bind λa=>some (a.1,a.2)
theorem Yr(N j a r)(c:Pk N j a=some r)(p b)(f:Rd Ae4 p b j):Does prog 102 #[b,vI a,vF 103 #[] #[],vF 104 #[] #[]] p [] (pV (vT #[vI r.1,vI r.2])):=by
 unfold Pk at c
 refine Ak follows func102 Z 20 Z _ fz4 (λg=> ?_)
 refine Ad<|rA Z λd=>rz Z<|Ad<|rn 2 Z<|kB c λq l c=>gS (Ls:=[(Wn d (vF 104 #[] #[]))]) (cF pN) (λo w z_=>Yv N j _ l z_.view b ((Ay f) o w z_)) (λh n m=> ?_)
 refine rA Z λi=>r_s (V2 [(PM i h),(Wn d (vF 104 #[] #[])),n]) 0 _ _ _ _ _ (#[h]) Z Z Z (CR Z (W7 m)) (.ofS Z Z (sS m AD)) Z Z<|Aj<|Ad<|rn 2 Z<|r_W (vF 180 #[] #[vP i 0,vP d 0]) Z (Jt Z)<|kB c λs e c=>gV _ (cF pM) (λo w z_=>Yz N j a q _ e z_.view b ((Ay f) o w z_) i h ((AB m (Al (Ls:=[(PM i h),(Wn d (vF 104 #[] #[])),n]) (k:=2) Z Z)) o w z_) (Da 0 Z Z o w z_) d (Da 1 Z Z o w z_))<|rz Z ?_
 cases c
 exact aR eV2
def Kb(N:Nat)(c:Ao):Y1 (Int×Int):=(Pk N c.2.2.2.2.2.2.2.2.2.2.2.2.2.2.1 8).bind λa=>some (a.1,a.2)
theorem YE(N c r)(a:Kb N c=some r)(f)(e:AC)(g:Aa2 f e c):Does prog 44 #[vA (Ab c e)] f [] (pV (vT #[vI r.1,vI r.2])):=by
 unfold Kb at a
 refine Ak follows func44 Z 10 Z _ fz1 (λb=> ?_)
 refine Ad<|rA Z λh=>rz Z<|Ad<|rm 3 [0] Z<|kB a λi d a=>gV _ (cF qQ) (λo w z_=>Yr N _ 8 _ d z_.view (D8 e).2.2.2.2.2 ((Ay g.2.2.2.2.2.2.2.2.2.2.2.2.2) o w z_))<|rz Z ?_
 cases a
 exact aR eV2
inductive Aa0 where
  |nil
  |t56 (x0:Int) (x1:Int) (x2:Int) (x3:Int)
  |t78 (x0:Int) (x1:Int) (x2:Int)
  deriving Inhabited
def Aa0.on{β:Type}(x:Aa0)(a:β)(c:Int->Int->Int->Int->β)(b:Int->Int->Int->β):β:=match x with| .nil=>a| .t56 x0 x1 x2 x3=>c x0 x1 x2 x3| .t78 x0 x1 x2=>b x0 x1 x2
theorem Aa0.on_nil{β:Type}{x:Aa0}{a r:β}{b:Int->Int->Int->Int->β}{c:Int->Int->Int->β}(h:x= .nil)(e:Aa0.on x a b c=r):a=r:=by subst h;exact e
theorem Aa0.at_nil{β:Type}{a:β}{b:Int->Int->Int->Int->β}{c:Int->Int->Int->β}:Aa0.on .nil a b c=a:=Z
theorem Aa0.on_t56{β:Type}{x:Aa0}{a r:β}{b:Int->Int->Int->Int->β}{c:Int->Int->Int->β}{d f x2 x3:Int}(h:x= .t56 d f x2 x3)(e:Aa0.on x a b c=r):b d f x2 x3=r:=by subst h;exact e
theorem Aa0.on_t78{β:Type}{x:Aa0}{a r:β}{c:Int->Int->Int->Int->β}{b:Int->Int->Int->β}{d f x2:Int}(h:x= .t78 d f x2)(e:Aa0.on x a c b=r):b d f x2=r:=by subst h;exact e
def Aa0.onP(x:Aa0)(a:PO)(c:Int->Int->Int->Int->PO)(b:Int->Int->Int->PO):PO:=match x with| .nil=>a| .t56 x0 x1 x2 x3=>c x0 x1 x2 x3| .t78 x0 x1 x2=>b x0 x1 x2
theorem Aa0.onP_nil{x:Aa0}{a:PO}{b:Int->Int->Int->Int->PO}{c:Int->Int->Int->PO}{v:Y2}{O:Y0 (Y0 Bl)}(h:x= .nil)(e:Aa0.onP x a b c v O):a v O:=by subst h;exact e
theorem Aa0.onP_t56{x:Aa0}{a:PO}{b:Int->Int->Int->Int->PO}{c:Int->Int->Int->PO}{d f x2 x3:Int}{v:Y2}{O:Y0 (Y0 Bl)}(h:x= .t56 d f x2 x3)(e:Aa0.onP x a b c v O):b d f x2 x3 v O:=by subst h;exact e
theorem Aa0.onP_t78{x:Aa0}{a:PO}{c:Int->Int->Int->Int->PO}{b:Int->Int->Int->PO}{d f x2:Int}{v:Y2}{O:Y0 (Y0 Bl)}(h:x= .t78 d f x2)(e:Aa0.onP x a c b v O):b d f x2 v O:=by subst h;exact e
theorem Aa0.niceP{x:Aa0}{a:PO}{b:Int->Int->Int->Int->PO}{c:Int->Int->Int->PO}{R:Y0 Bl}(h:Ac2 a R)(d: ∀e f x2 x3,Ac2 (b e f x2 x3) R)(g: ∀e f x2,Ac2 (c e f x2) R):Ac2 (Aa0.onP x a b c) R:=by cases x with|nil=>exact h|t56=>exact d _ _ _ _|t78=>exact g _ _ _
theorem Aa0.cases(x:Aa0):x= .nil\/(∃a b x2 x3,x= .t56 a b x2 x3)\/(∃a b x2,x= .t78 a b x2):=by cases x<;>simp
def An(N:Nat)(m:Ao):Nat->Int->Y1 Aa0
  |0,_=>none
  |b+1,a=>if a<15 then ck (0<=a/\a<(15:Int)) (if a=0 then(JJ N m).bind λo=>if(o.2:Int)≠0 then some (.t78 a o.1 o.2)else ck (R64 (a+1)) ((An N m b) (a+1))else if a=1 then(In N m).bind λq=>if(q.2:Int)≠0 then some (.t78 a q.1 q.2)else ck (R64 (a+1)) ((An N m b) (a+1))else if a=2 then(JI N m).bind λi=>if(i.2:Int)≠0 then some (.t78 a i.1 i.2)else ck (R64 (a+1)) ((An N m b) (a+1))else if a=3 then(Lf N m).bind λj=>if(j.2:Int)≠0 then some (.t78 a j.1 j.2)else ck (R64 (a+1)) ((An N m b) (a+1))else if a=4 then(IT N m).bind λr=>if(r.2:Int)≠0 then some (.t78 a r.1 r.2)else ck (R64 (a+1)) ((An N m b) (a+1))else if a=5 then(Js N m).bind λl=>if(l.2:Int)≠0 then some (.t78 a l.1 l.2)else ck (R64 (a+1)) ((An N m b) (a+1))else if a=6 then(Ka N m).bind λp=>if(p.2:Int)≠0 then some (.t78 a p.1 p.2)else ck (R64 (a+1)) ((An N m b) (a+1))else if a=7 then(KE N m).bind λn=>if(n.2:Int)≠0 then some (.t78 a n.1 n.2)else ck (R64 (a+1)) ((An N m b) (a+1))else if a=8 then(Lr N m).bind λk=>if(k.2:Int)≠0 then some (.t78 a k.1 k.2)else ck (R64 (a+1)) ((An N m b) (a+1))else if a=9 then(Ip N m).bind λd=>if(d.2:Int)≠0 then some (.t78 a d.1 d.2)else ck (R64 (a+1)) ((An N m b) (a+1))else if a=10 then(Lu N m).bind λe=>if(e.2:Int)≠0 then some (.t78 a e.1 e.2)else ck (R64 (a+1)) ((An N m b) (a+1))else if a=11 then(KD N m).bind λf=>if(f.2:Int)≠0 then some (.t78 a f.1 f.2)else ck (R64 (a+1)) ((An N m b) (a+1))else if a=12 then(LX N m).bind λc=>if(c.2:Int)≠0 then some (.t78 a c.1 c.2)else ck (R64 (a+1)) ((An N m b) (a+1))else if a=13 then(IB N m).bind λh=>if(h.2:Int)≠0 then some (.t78 a h.1 h.2)else ck (R64 (a+1)) ((An N m b) (a+1))else(Kb N m).bind λg=>if(g.2:Int)≠0 then some (.t78 a g.1 g.2)else ck (R64 (a+1)) ((An N m b) (a+1)))else some (.nil)
def JF(N:Nat)(m:Ao):Y1 Aa0:=(NL N m).bind λa=>An N m N 0
theorem Tp(N m r)(b:JF N m=some r)(ro)(d:AC)(hm:Aa2 ro d m):DoesI prog 10 #[vA (Ab m d)] Gt ro [] (pO [] (Aa0.onP r (oE V6 []) (λy0_0 y0_1 y0_2 y0_3=>(oB 58 #[vI y0_0,vI y0_1,vI y0_2,vI y0_3] λbs_0=>(oE (V5 56 (vP bs_0 0)) []))) (λy0_0 y0_1 y0_2=>(oB 80 #[vI y0_0,vI y0_1,vI y0_2] λbs_0=>(oE (V5 78 (vP bs_0 0)) []))))):=by
 unfold JF at b
 refine BZ follows func10 Z 30 Z _ fz1 Bm (λW=> ?_)
 refine Ad<|r_a (35,(Ab m d)) Z Z Z (λb2=> ?_) (.inr Z)
 refine r_V V6 Z<|Aj<|Aa λK3 Y=>Ad<|rl (vA (Ab m d)) 0<|r_W (vA (Ab m d)) Z (MM Z Z Z (FJ (c:=(Ab m d)) Z Qp) (by kernel_rfl)) ?_
 obtain⟨r5,aa,b⟩:=bF b
 refine gS (Ls:=[[(b2,35,(Ab m d))]]) (cF uC) (λo w z_=>aU N m _ aa z_.view d (Aa2.mono z_.ro_cell hm)) (λs7 j p=> ?_)
 refine r_W (vI 15) Z (dy (n:=15) Z Z Z (W7 p))<|r_V (vI 0) Z<|Aj<|Ai<|BF _ (W5 [[(b2,35,(Ab m d))],j] [1] Z)<|AL (λtt ll nn=> ∃(s:Nat) (a:Int),(An N m s a=some r)/\Is [(9,s7),(10,vI 15),(11,vI a)] (V2 [j]) tt ll/\nn=s+1) (N+1) ?_ ?_
 ·exact⟨N,0,b,Ag Z Z,Z⟩
 clear b;rintro t l _ ⟨s,a,b,⟨⟨T,rfl⟩,rfl⟩,rfl⟩
 rcases s with _|s
 ·exact absurd b (by simp [An])
 rw [An] at b
 refine Ad<|r_V (vB (decide (a<15))) Z<|Aj<|Aa λaf R=>BS _ Z (λB=> ?_) (λB=> ?_)
 ·replace b:=iD B b
  refine Ac<|R _ _ ?_
  refine Aa λag S=>Ai<|Cs (λtt ll=> ∃(g:FuncId) (X:Y1 (Int×Int)),(X.bind λq=>if(q.2:Int)≠0 then some (.t78 a q.1 q.2)else ck (R64 (a+1)) (An N m s (a+1)))=some r/\(∀v,X=some v-> ∀c,Aa2 c d m->DoesI prog g #[vA (Ab m d)] Gt c [] (pV (vT #[vI v.1,vI v.2])))/\Am prog g=true/\Is [(3,vI a),(4,vF g #[vA (Ab m d)] #[]),(9,s7),(10,vI 15),(11,vI a)] (V2 [j]) tt ll) ?_ ?_
  ·refine Ah<|r_V (vI a) Z ?_
   obtain⟨P,b⟩:=LN b
   refine r_W (elA s7 (a.toNat*1)) Z (GV (dA Z Z Z (W7 p) (yp (n:=15) Z P))) ?_
   rcases Decidable.em (a=0)with D|D
   ·replace b:=ifp D b
    refine RX (vF 30 #[vA (Ab m d)] #[]) (En:=Nn) (⟨vF 30 #[vA (Ab m d)] #[],Z⟩) (a.toNat) 0 Z Z (AB p (Al (Ls:=[j]) (k:=0) Z Z)) (On (i:=0) D Z) Z<|r_R [vI a,vF 30 #[vA (Ab m d)] #[]] Z<|Aj<|fg _ (W5 [j] [0] Z) ?_
    exact⟨30,_,b,λv e c h=>(ba N m _ e c d h).inv Gt,ut,Ag Z Z⟩
   replace b:=ifn D b
   rcases Decidable.em (a=1)with E|E
   ·replace b:=ifp E b
    refine RX (vF 31 #[vA (Ab m d)] #[]) (En:=Nn) (⟨vF 31 #[vA (Ab m d)] #[],Z⟩) (a.toNat) 0 Z Z (AB p (Al (Ls:=[j]) (k:=0) Z Z)) (On (i:=1) E Z) Z<|r_R [vI a,vF 31 #[vA (Ab m d)] #[]] Z<|Aj<|fg _ (W5 [j] [0] Z) ?_
    exact⟨31,_,b,λv e c h=>(WM N m _ e c d h).inv Gt,ur,Ag Z Z⟩
   replace b:=ifn E b
   rcases Decidable.em (a=2)with F|F
   ·replace b:=ifp F b
    refine RX (vF 32 #[vA (Ab m d)] #[]) (En:=Nn) (⟨vF 32 #[vA (Ab m d)] #[],Z⟩) (a.toNat) 0 Z Z (AB p (Al (Ls:=[j]) (k:=0) Z Z)) (On (i:=2) F Z) Z<|r_R [vI a,vF 32 #[vA (Ab m d)] #[]] Z<|Aj<|fg _ (W5 [j] [0] Z) ?_
    exact⟨32,_,b,λv e c h=>(aZ N m _ e c d h).inv Gt,uq,Ag Z Z⟩
   replace b:=ifn F b
   rcases Decidable.em (a=3)with G|G
   ·replace b:=ifp G b
    refine RX (vF 33 #[vA (Ab m d)] #[]) (En:=Nn) (⟨vF 33 #[vA (Ab m d)] #[],Z⟩) (a.toNat) 0 Z Z (AB p (Al (Ls:=[j]) (k:=0) Z Z)) (On (i:=3) G Z) Z<|r_R [vI a,vF 33 #[vA (Ab m d)] #[]] Z<|Aj<|fg _ (W5 [j] [0] Z) ?_
    exact⟨33,_,b,λv e c h=>(aX N m _ e c d h).inv Gt,uo,Ag Z Z⟩
   replace b:=ifn G b
   rcases Decidable.em (a=4)with H|H
   ·replace b:=ifp H b
    refine RX (vF 34 #[vA (Ab m d)] #[]) (En:=Nn) (⟨vF 34 #[vA (Ab m d)] #[],Z⟩) (a.toNat) 0 Z Z (AB p (Al (Ls:=[j]) (k:=0) Z Z)) (On (i:=4) H Z) Z<|r_R [vI a,vF 34 #[vA (Ab m d)] #[]] Z<|Aj<|fg _ (W5 [j] [0] Z) ?_
    exact⟨34,_,b,λv e c h=>YD N m _ e c d h,um,Ag Z Z⟩
   replace b:=ifn H b
   rcases Decidable.em (a=5)with I|I
   ·replace b:=ifp I b
    refine RX (vF 35 #[vA (Ab m d)] #[]) (En:=Nn) (⟨vF 35 #[vA (Ab m d)] #[],Z⟩) (a.toNat) 0 Z Z (AB p (Al (Ls:=[j]) (k:=0) Z Z)) (On (i:=5) I Z) Z<|r_R [vI a,vF 35 #[vA (Ab m d)] #[]] Z<|Aj<|fg _ (W5 [j] [0] Z) ?_
    exact⟨35,_,b,λv e c h=>WQ N m _ e c d h,ul,Ag Z Z⟩
   replace b:=ifn I b
   rcases Decidable.em (a=6)with J|J
   ·replace b:=ifp J b
    refine RX (vF 36 #[vA (Ab m d)] #[]) (En:=Nn) (⟨vF 36 #[vA (Ab m d)] #[],Z⟩) (a.toNat) 0 Z Z (AB p (Al (Ls:=[j]) (k:=0) Z Z)) (On (i:=6) J Z) Z<|r_R [vI a,vF 36 #[vA (Ab m d)] #[]] Z<|Aj<|fg _ (W5 [j] [0] Z) ?_
    exact⟨36,_,b,λv e c h=>YB N m _ e c d h,uk,Ag Z Z⟩
   replace b:=ifn J b
   rcases Decidable.em (a=7)with K|K
   ·replace b:=ifp K b
    refine RX (vF 37 #[vA (Ab m d)] #[]) (En:=Nn) (⟨vF 37 #[vA (Ab m d)] #[],Z⟩) (a.toNat) 0 Z Z (AB p (Al (Ls:=[j]) (k:=0) Z Z)) (On (i:=7) K Z) Z<|r_R [vI a,vF 37 #[vA (Ab m d)] #[]] Z<|Aj<|fg _ (W5 [j] [0] Z) ?_
    exact⟨37,_,b,λv e c h=>WL N m _ e c d h,uj,Ag Z Z⟩
   replace b:=ifn K b
   rcases Decidable.em (a=8)with L|L
   ·replace b:=ifp L b
    refine RX (vF 38 #[vA (Ab m d)] #[]) (En:=Nn) (⟨vF 38 #[vA (Ab m d)] #[],Z⟩) (a.toNat) 0 Z Z (AB p (Al (Ls:=[j]) (k:=0) Z Z)) (On (i:=8) L Z) Z<|r_R [vI a,vF 38 #[vA (Ab m d)] #[]] Z<|Aj<|fg _ (W5 [j] [0] Z) ?_
    exact⟨38,_,b,λv e c h=>YF N m _ e c d h,ui,Ag Z Z⟩
   replace b:=ifn L b
   rcases Decidable.em (a=9)with M|M
   ·replace b:=ifp M b
    refine RX (vF 39 #[vA (Ab m d)] #[]) (En:=Nn) (⟨vF 39 #[vA (Ab m d)] #[],Z⟩) (a.toNat) 0 Z Z (AB p (Al (Ls:=[j]) (k:=0) Z Z)) (On (i:=9) M Z) Z<|r_R [vI a,vF 39 #[vA (Ab m d)] #[]] Z<|Aj<|fg _ (W5 [j] [0] Z) ?_
    exact⟨39,_,b,λv e c h=>(WN N m _ e c d h).inv Gt,uh,Ag Z Z⟩
   replace b:=ifn M b
   rcases Decidable.em (a=10)with u|u
   ·replace b:=ifp u b
    refine RX (vF 40 #[vA (Ab m d)] #[]) (En:=Nn) (⟨vF 40 #[vA (Ab m d)] #[],Z⟩) (a.toNat) 0 Z Z (AB p (Al (Ls:=[j]) (k:=0) Z Z)) (On (i:=10) u Z) Z<|r_R [vI a,vF 40 #[vA (Ab m d)] #[]] Z<|Aj<|fg _ (W5 [j] [0] Z) ?_
    exact⟨40,_,b,λv e c h=>(YH N m _ e c d h).inv Gt,ug,Ag Z Z⟩
   replace b:=ifn u b
   rcases Decidable.em (a=11)with x|x
   ·replace b:=ifp x b
    refine RX (vF 41 #[vA (Ab m d)] #[]) (En:=Nn) (⟨vF 41 #[vA (Ab m d)] #[],Z⟩) (a.toNat) 0 Z Z (AB p (Al (Ls:=[j]) (k:=0) Z Z)) (On (i:=11) x Z) Z<|r_R [vI a,vF 41 #[vA (Ab m d)] #[]] Z<|Aj<|fg _ (W5 [j] [0] Z) ?_
    exact⟨41,_,b,λv e c h=>(WH N m _ e c d h).inv Gt,uf,Ag Z Z⟩
   replace b:=ifn x b
   rcases Decidable.em (a=12)with y|y
   ·replace b:=ifp y b
    refine RX (vF 42 #[vA (Ab m d)] #[]) (En:=Nn) (⟨vF 42 #[vA (Ab m d)] #[],Z⟩) (a.toNat) 0 Z Z (AB p (Al (Ls:=[j]) (k:=0) Z Z)) (On (i:=12) y Z) Z<|r_R [vI a,vF 42 #[vA (Ab m d)] #[]] Z<|Aj<|fg _ (W5 [j] [0] Z) ?_
    exact⟨42,_,b,λv e c h=>(dk N m _ e c d h).inv Gt,ue,Ag Z Z⟩
   replace b:=ifn y b
   rcases Decidable.em (a=13)with z|z
   ·replace b:=ifp z b
    refine RX (vF 43 #[vA (Ab m d)] #[]) (En:=Nn) (⟨vF 43 #[vA (Ab m d)] #[],Z⟩) (a.toNat) 0 Z Z (AB p (Al (Ls:=[j]) (k:=0) Z Z)) (On (i:=13) z Z) Z<|r_R [vI a,vF 43 #[vA (Ab m d)] #[]] Z<|Aj<|fg _ (W5 [j] [0] Z) ?_
    exact⟨43,_,b,λv e c h=>(Vc N m _ e c d h).inv Gt,ud,Ag Z Z⟩
   replace b:=ifn z b
   have U:a=14:=sY P (by omega)
   refine RX (vF 44 #[vA (Ab m d)] #[]) (En:=Nn) (⟨vF 44 #[vA (Ab m d)] #[],Z⟩) (a.toNat) 0 Z Z (AB p (Al (Ls:=[j]) (k:=0) Z Z)) (On (i:=14) U Z) Z<|r_R [vI a,vF 44 #[vA (Ab m d)] #[]] Z<|Aj<|fg _ (W5 [j] [0] Z) ?_
   exact⟨44,_,b,λv e c h=>(YE N m _ e c d h).inv Gt,uc,Ag Z Z⟩
  clear b;rintro t l ⟨g,X,b,hX,hg,⟨T,rfl⟩,rfl⟩
  refine Ad<|r_V (vF g #[vA (Ab m d)] #[]) Z ?_
  obtain⟨f,V,b⟩:=bF b
  refine gV (vT #[vI f.1,vI f.2]) (RB (bd:=[vA (Ab m d)]) (caps:=[]) Z hg Z) (λo w z_=>(hX _ V z_.view (Aa2.mono z_.ro_cell hm)))<|r_R [vT #[vI f.1,vI f.2],vI f.1,vI f.2,vI f.1,vI f.2] Z<|Aj<|Ad<|r_R [vI f.2,vB (f.2 !=0)] Z<|Aj<|BS _ Z (λC=> ?_) (λC=> ?_)
  ·replace b:=iN C b
   refine Ad<|r_R [vI a,vI f.1,vI f.2] Z<|r_W (vA #[vI a,vI f.1,vI f.2]) Z (Ar Z Z Z Z)<|r_a (80, #[vI a,vI f.1,vI f.2]) Z Z Z (λA=> ?_) (.inr Z)
   refine r_R [V5 78 (vP A 0),V5 78 (vP A 0)] Z<|Aj ?_
   cases b
   refine AU (λhn=>CI (v0:=V5 78 (vP A 0)) (O:=[(ir A a f.1 f.2)]) (Gl Z) (W5 [(ir A a f.1 f.2),j] [0] Z) ⟨A,_,⟨Z,Z⟩,Z⟩)
  replace b:=iM C b
  refine Ac<|S _ _ ?_
  refine Ah ?_
  obtain⟨Q,b⟩:=LN b
  refine r_X (vI (a+1)) Z (RU Z Q.1 Q.2) Z<|r_V (vI (a+1)) Z<|Aj<|fg _ (W5 [j] [0] Z) ?_
  exact⟨s+1,by omega,s,(a+1),b,Ag Z Z,Z⟩
 replace b:=iF B b
 refine AM<|Y _ _ ?_
 refine Ad<|r_V V6 Z<|Aj ?_
 cases b
 refine AU (λhn=>CI (v0:=V6) (O:=[]) (Gl Z) (Sub.nil _) ⟨Z,Z⟩)
def BT(_:Nat)(m:Ao):Y1 (Ao):=some (m.1,m.2.1,m.2.2.1,m.2.2.2.1,[(([115]:W2),[],[],[],-1)],[],[],[],[],[],[],[],m.2.2.2.2.2.2.2.2.2.2.2.2.1,m.2.2.2.2.2.2.2.2.2.2.2.2.2.1,m.2.2.2.2.2.2.2.2.2.2.2.2.2.2.1,1,1,0)
abbrev kO1(ro:Addr->Y1 Y2)(r:Ao):PO:=(oRN Ad1 ro r.2.1 λs_0=>(oR Ad7 ro r.2.2.1 λs_1=>(oR Ab3 ro r.2.2.2.1 λs_2=>(oSO 72 Km r.2.2.2.2.1 λs_3=>(oSO 120 Tx r.2.2.2.2.2.1 λs_4=>(oSO 111 Ty r.2.2.2.2.2.2.1 λs_5=>(oSO 88 QA r.2.2.2.2.2.2.2.1 λs_6=>(oSO 88 QA r.2.2.2.2.2.2.2.2.1 λs_7=>(oS 3 Ca r.2.2.2.2.2.2.2.2.2.1 λs_8=>(oS 133 Ad3 r.2.2.2.2.2.2.2.2.2.2.1 λs_9=>(oS 133 Ad3 r.2.2.2.2.2.2.2.2.2.2.2.1 λs_10=>(oR Ae2 ro r.2.2.2.2.2.2.2.2.2.2.2.2.1 λs_11=>(oR Ae3 ro r.2.2.2.2.2.2.2.2.2.2.2.2.2.1 λs_12=>(oR Ae4 ro r.2.2.2.2.2.2.2.2.2.2.2.2.2.2.1 λs_13=>(oE (vA #[vS r.1,s_0,s_1,s_2,s_3,s_4,s_5,s_6,s_7,s_8,s_9,s_10,s_11,s_12,s_13,vI r.2.2.2.2.2.2.2.2.2.2.2.2.2.2.2.1,vI r.2.2.2.2.2.2.2.2.2.2.2.2.2.2.2.2.1,vI r.2.2.2.2.2.2.2.2.2.2.2.2.2.2.2.2.2]) [])))))))))))))))
theorem FN(N m r)(k:BT N m=some r)(j)(a:AC)(b:Aa2 j a m):Does prog 17 #[vA (Ab m a)] j [] (pO [] (kO1 j r)):=by
 unfold BT at k
 refine BZ follows func17 Z 20 Z _ fz1 (λ_ _ h_ _=>h_) (λi=> ?_)
 refine Ad<|rA Z λc=>rA Z λg=>Aj<|Ad<|r_V (vP c 0) Z<|rl (vS m.1) 1<|r_V (vP c 1) Z<|rl a.1 1<|r_V (vP c 2) Z<|rl a.2.1 1<|r_V (vP c 3) Z<|rl a.2.2.1 1<|r_V (vP c 12) Z<|rl (D8 a).2.2.2.1 1<|r_V (vP c 13) Z<|rl (D8 a).2.2.2.2.1 1<|r_V (vP c 14) Z<|rl (D8 a).2.2.2.2.2 1<|r_W (vA #[V4 (⟨#[115]⟩),nS,nS,nS,vI (-1)]) Z (Ar Z Z Z Z) ?_
 have hR5:(Km).R (([115]:W2),[],[],[],-1) [V4 (⟨#[115]⟩),nS,nS,nS,vI (-1)] ([]):=(by have h_:=(Nl (Tz (E:=Aa4) ([115]:W2)) (Nl (PV (e:=196) (E:=Af0) Sl.nil) (Nl (PV (e:=184) (E:=Ac9) Sl.nil) (Nl (PV (e:=202) (E:=Af1) Sl.nil) (Tz (E:=Ca) (-1))))));exact EncO.cast h_ (by first|rfl|simp only [y5,List.append_nil,j0]))
 refine cD 18<|KP (cs0:=[]) (Ls:=[(iu g (V4 (⟨#[]⟩)) nS nS nS nS nS nS nS nS nS nS nS nS nS nS 0 0 0),[(c,35,(Ab m a))]]) 72 (EncO.raw Km) [EncO.of Km hR5] [V4 (⟨#[115]⟩),nS,nS,nS,vI (-1)] [V4 (⟨#[]⟩),nS,nS,nS,vI 0] Z Z Z Z Z Z Z (by kernel_rfl) ((Rz _ _ _ _ (FJ Z Qp)).trans (by kernel_rfl)) Z Z Z (λd l n=> ?_)
 refine au (Ls:=[(iu g (V4 (⟨#[]⟩)) nS nS nS nS nS nS nS nS nS nS nS nS nS nS 0 0 0),[(c,35,(Ab m a))],l]) (p:=λS_=>SlO 72 Km d ([(([115]:W2),[],[],[],-1)]) S_) 2 Z (SlO.cast (⟨_,_,_,n,(Items.one hR5),Z⟩:SlO 72 Km d [(([115]:W2),[],[],[],-1)] _) (by first|rfl|simp only [y5,List.append_nil,j0])) (λh f=> ?_)
 refine r_W (vA #[vS m.1,a.1,a.2.1,a.2.2.1,d,nS,nS,nS,nS,nS,nS,nS,(D8 a).2.2.2.1,(D8 a).2.2.2.2.1,(D8 a).2.2.2.2.2,vI 1,vI 1,vI 0]) Z (MM Z Z Z (FJ Z (FJ (CR Z (W9 b.1)) (FJ (CR Z (W8 b.2.1)) (FJ (CR Z (W8 b.2.2.1)) (FJ (CR Z (W8 b.2.2.2.2.2.2.2.2.2.2.2.1)) (FJ (CR Z (W8 b.2.2.2.2.2.2.2.2.2.2.2.2.1)) (FJ (CR Z (W8 b.2.2.2.2.2.2.2.2.2.2.2.2.2)) (FJ (CR Z (SlO.shp f)) (FJ Z (FJ Z Qp)))))))))) (by kernel_rfl)) ?_
 refine r_s (V2 [(aH g m.1 a.1 a.2.1 a.2.2.1 d nS nS nS nS nS nS nS (D8 a).2.2.2.1 (D8 a).2.2.2.2.1 (D8 a).2.2.2.2.2 1 1 0),[(c,35,(Ab m a))],h]) 0 _ _ _ _ _ (#[vS m.1,a.1,a.2.1,a.2.2.1,d,nS,nS,nS,nS,nS,nS,nS,(D8 a).2.2.2.1,(D8 a).2.2.2.2.1,(D8 a).2.2.2.2.2,vI 1,vI 1,vI 0]) Z Z Z Z (.ofS Z Z (Ae Z (sN b.1 (sR b.2.1 (sR b.2.2.1 (sO f (sE (sE (sE (sE (sE (sE (sE (sR b.2.2.2.2.2.2.2.2.2.2.2.1 (sR b.2.2.2.2.2.2.2.2.2.2.2.2.1 (sR b.2.2.2.2.2.2.2.2.2.2.2.2.2 (Ae Z (Ae Z (Ae Z AD))))))))))))))))))) Z Z ?_
 refine Aj ?_
 cases k
 refine AU (λo=>CI (v0:=vA #[vS m.1,a.1,a.2.1,a.2.2.1,d,nS,nS,nS,nS,nS,nS,nS,(D8 a).2.2.2.1,(D8 a).2.2.2.2.1,(D8 a).2.2.2.2.2,vI 1,vI 1,vI 0]) (O:=[h,[],[],[],[],[],[],[]]) (Gl (Bf o 0 Z Z Z)) (W6 (Ls:=[(aH g m.1 a.1 a.2.1 a.2.2.1 d nS nS nS nS nS nS nS (D8 a).2.2.2.1 (D8 a).2.2.2.2.1 (D8 a).2.2.2.2.2 1 1 0),[(c,35,(Ab m a))],h,[],[],[],[],[],[],[]]) (Ls0:=[(aH g m.1 a.1 a.2.1 a.2.2.1 d nS nS nS nS nS nS nS (D8 a).2.2.2.1 (D8 a).2.2.2.2.1 (D8 a).2.2.2.2.2 1 1 0),[(c,35,(Ab m a))],h]) Z [2,3,4,5,6,7,8,9] Z) ⟨a.1,b.1,⟨a.2.1,b.2.1,⟨a.2.2.1,b.2.2.1,⟨d,h,_,f,⟨nS,[],_,SlO.nil,⟨nS,[],_,SlO.nil,⟨nS,[],_,SlO.nil,⟨nS,[],_,SlO.nil,⟨nS,[],_,Sl.nil,⟨nS,[],_,Sl.nil,⟨nS,[],_,Sl.nil,⟨(D8 a).2.2.2.1,b.2.2.2.2.2.2.2.2.2.2.2.1,⟨(D8 a).2.2.2.2.1,b.2.2.2.2.2.2.2.2.2.2.2.2.1,⟨(D8 a).2.2.2.2.2,b.2.2.2.2.2.2.2.2.2.2.2.2.2,⟨Z,Z⟩⟩⟩⟩,Z⟩,Z⟩,Z⟩,Z⟩,Z⟩,Z⟩,Z⟩,Z⟩⟩⟩⟩)
end Go.Proofs.YtjnanfkpdhmnpaaGreatDoor
