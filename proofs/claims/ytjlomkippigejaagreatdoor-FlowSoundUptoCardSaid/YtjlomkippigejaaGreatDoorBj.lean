import Derived.Test.YtjlomkippigejaaGreatDoorBi
namespace Go.Proofs.YtjlomkippigejaaGreatDoor
open Go Go.RowKit Go.Eng _root_.Go.Proofs.Tryz
set_option linter.unusedSimpArgs false
set_option linter.unusedVariables false
set_option maxRecDepth 100000
set_option maxHeartbeats 80000000
abbrev Pp(b:Nat)(x0:W2)(x1:Int)(x2:Int):List Bl:=[(b,148, #[vS x0,vI x1,vI x2])]
abbrev VR(b:Nat)(x0:Value):List Bl:=[(b,218, #[x0])]
abbrev Pq(b:Nat)(x0:Value):List Bl:=[(b,134, #[x0])]
abbrev SK(b:Nat)(x0:W2)(x1:Int):List Bl:=[(b,151, #[vS x0,vI x1])]
abbrev VQ(b:Nat)(x0:Value):List Bl:=[(b,221, #[x0])]
abbrev NK(b:Nat)(x0:W2)(x1:Int)(x2:Int)(x3:Int):List Bl:=[(b,154, #[vS x0,vI x1,vI x2,vI x3])]
abbrev VP(b:Nat)(x0:Value):List Bl:=[(b,224, #[x0])]
abbrev cd(b:Nat)(x0:Int)(x1:Int)(x2:Int):List Bl:=[(b,109, #[vI x0,vI x1,vI x2])]
def Lq(N:Nat)(c:Ao)(b:List (Int×Int)):Option (Int×Int):=(OA N b 4 c).bind λa=>some (a.1,a.2)
theorem Un(N c f r)(b:Lq N c f=some r)(g)(h:AB)(k:Aa1 g h c)(a)(i:Rd Ae6 g a f):Does prog 118 #[vA (Ac c h),a] g [] (pV (vT #[vI r.1,vI r.2])):=by
 unfold Lq at b
 refine Al follows func118 Z 11 Z _ fz2 (λd=> ?_)
 refine Ad<|rA Z λj=>rz Z<|Ad<|rn 1 Z<|r_W (vF 194 #[] #[vP j 0]) Z (Jc Z)<|kB b λl e b=>gV _ (cF nY) (λo w z_=>cE N f 4 c _ e z_.view a ((Aw i) o w z_) j h (Aa1.mono z_.ro_cell k) (CN 0 Z Z o w z_))<|rz Z ?_
 cases b
 exact aR eV2
def KS(N:Nat)(c:Ao):Option (Int×Int):=(Lq N c c.2.2.2.2.2.2.2.2.2.2.1).bind λa=>some (a.1,a.2)
theorem XN(N c r)(a:KS N c=some r)(f)(d:AB)(g:Aa1 f d c):Does prog 59 #[vA (Ac c d)] f [] (pV (vT #[vI r.1,vI r.2])):=by
 unfold KS at a
 refine Al follows func59 Z 11 Z _ fz1 (λb=> ?_)
 refine Ad<|rA Z λh=>rz Z<|Ad<|rm 4 [0,0] Z<|kB a λi e a=>gV _ (cF dY) (λo w z_=>Un N c c.2.2.2.2.2.2.2.2.2.2.1 _ e z_.view d (Aa1.mono z_.ro_cell g) d.2.2.2.2.2.2.2.2.2.1 ((Aw g.2.2.2.2.2.2.2.2.2.1) o w z_))<|rz Z ?_
 cases a
 exact aR eV2
def Kj(N:Nat)(c:Ao):Option (Int×Int):=(Lq N c c.2.2.2.2.2.2.2.2.2.2.2.1).bind λa=>some (a.1,a.2)
theorem Wk(N c r)(a:Kj N c=some r)(f)(d:AB)(g:Aa1 f d c):Does prog 60 #[vA (Ac c d)] f [] (pV (vT #[vI r.1,vI r.2])):=by
 unfold Kj at a
 refine Al follows func60 Z 11 Z _ fz1 (λb=> ?_)
 refine Ad<|rA Z λh=>rz Z<|Ad<|rm 4 [0,0] Z<|kB a λi e a=>gV _ (cF dY) (λo w z_=>Un N c c.2.2.2.2.2.2.2.2.2.2.2.1 _ e z_.view d (Aa1.mono z_.ro_cell g) d.2.2.2.2.2.2.2.2.2.2.1 ((Aw g.2.2.2.2.2.2.2.2.2.2.1) o w z_))<|rz Z ?_
 cases a
 exact aR eV2
def Sc(_:Nat)(a:W2)(_:Int)(_:Int):Option (W2):=some a
theorem fl(N a b c r)(e:Sc N a b c=some r):Gives prog 120 #[vA #[vS a,vI b,vI c]] (vS r):=by
 unfold Sc at e
 refine Aq follows func120 Z 5 Z _ fz1 (λd=> ?_)
 refine Ad<|rA Z λf=>rz Z<|AY [0] Z ?_
 cases e
 exact aR eE1
def KC(N:Nat)(b:List (W2×Int×Int)):Nat->List (W2)->Int->Option (List (W2))
  |0,_,_=>none
  |e+1,c,a=>if a<(b.length:Int)then ck (0<=a/\a<(b.length:Int)) ((Sc N ((b[a.toNat]!).1) ((b[a.toNat]!).2.1) ((b[a.toNat]!).2.2)).bind λd=>ck (0<=a/\a<(c.length:Int)) (ck (R64 (a+1)) ((KC N b e) ((c).set (a.toNat) d) (a+1))))else some c
def QP(N:Nat)(a:List (W2×Int×Int)):Option (List (W2)):=ck (0<=(a.length:Int)/\(a.length:Int)<=8796093022208) (KC N a N ((List.replicate ((a.length:Int)).toNat ([]))) 0)
theorem cy(N d r)(b:QP N d=some r)(C k)(g:Rd Af0 C k d):Does prog 196 #[k,vF 120 #[] #[]] C [] (p1 (λs_=>s_) 9 Aa3 r):=by
 unfold QP at b
 refine Al follows func196 Z 26 Z _ fz2 (λw=> ?_)
 refine AZ Z<|Ad<|rn 1 Z<|rL (Rd.shp g) Z<|kC b λx b=>cB 10<|Tx (Ls:=[]) 9 Aa3 ([]) (d.length:Int) Z Z Z Z Z Z Z Z Z Z 8796093022208 Z x (λ_ _ _ _ _=>Iff.rfl) (λy B D=> ?_)
 refine rz Z<|Aa λG z=>Ad<|rn 1 Z<|rL (Rd.shp g) Z<|rz Z<|Ai<|Bs _ (Sub.pick [B] [0] Z)<|AH (λtt ll nn=> ∃(j:Nat) (e:List (W2)) (a:Int),(KC N d j e a=some r)/\ ∃(c:List Bl),Sl 9 Aa3 y e c/\Is [(1,vF 120 #[] #[]),(5,y),(11,k),(12,vI (d.length:Int)),(13,vI a)] (List.flatten [c]) tt ll/\nn=j+1) (N+1) ?_ ?_
 ·exact⟨N,(List.replicate ((d.length:Int)).toNat ([])),0,b,B,D,Ag Z Z,Z⟩
 clear b;rintro t l _ ⟨j,e,a,b,c,f,⟨⟨T,rfl⟩,rfl⟩,rfl⟩
 rcases j with _|j
 ·exact absurd b (by simp [KC])
 rw [KC] at b
 refine AZ Z<|Aa λE m=>aD b Z (λn b=> ?_) (λn b=> ?_)
 ·refine Ab<|m _ _ ?_
  refine Aa λF o=>Ai<|Ad<|rn 1 Z<|kC b λh b=>rI (Rd.shp g) h Z<|rE (Aw g) h 0 Z<|rA Z λp=>ry [0] Z<|Ah<|rm 4 [0] Z<|kB b λq s b=>rc _ (BO (caps:=[]) Z pp Z) (fl N ((d[a.toNat]!).1) ((d[a.toNat]!).2.1) ((d[a.toNat]!).2.2) _ s)<|kC b λi b=>rI (Sl.shp f) i Z<|RT (Ls:=[(Pp p ((d[a.toNat]!).1) ((d[a.toNat]!).2.1) ((d[a.toNat]!).2.2)),c]) 1 (En:=Aa3) (e[a.toNat]!) q (a.toNat) 0 Z Z Z f (Dx i) Z Z Z (Jp Z) Z (λu A=> ?_)
  refine Ak<|o _ _ ?_
  refine Ah<|kC b λv b=>rX v Z<|rz Z<|fg _ (Sub.pick [(Pp p ((d[a.toNat]!).1) ((d[a.toNat]!).2.1) ((d[a.toNat]!).2.2)),u] [1] Z) ?_
  exact⟨j+1,by omega,j,(e).set (a.toNat) q,(a+1),b,u,A,Ag Z Z,Z⟩
 refine AG<|z _ _ ?_
 refine AZ Z ?_
 cases b
 refine Bh (λH=>GZ (v0:=y) f (Dy (Sub.pick [c] [0] Z)) Z (FZ Z))
def Ki(N:Nat)(n:Int):Option Int:=(AA N n 1 8).bind λa=>(Ap N a 7).bind λb=>some b
theorem RZ(N n r)(a:Ki N n=some r):Gives prog 122 #[vI n] (vI r):=by
 unfold Ki at a
 refine Aq follows func122 Z 6 Z _ fz1 (λb=> ?_)
 refine AZ Z<|Ad<|rn 1 Z<|kB a λe c a=>rc _ (cF Fz) (AR N n 1 8 _ c)<|kB a λf d a=>rc _ (cF Bk) (Az N e 7 _ d)<|rz Z ?_
 cases a
 exact aR eE1
def Mp(N:Nat)(_:W2)(b:Int)(a:Int):Option Int:=(Iv N b).bind λd=>(Ki N a).bind λe=>(AI N ([d,e])).bind λc=>some c
theorem fk(N d a b r)(e:Mp N d a b=some r):Gives prog 121 #[vA #[vS d,vI a,vI b]] (vI r):=by
 unfold Mp at e
 refine Aq follows func121 Z 11 Z _ fz1 (λl=> ?_)
 refine Ad<|rA Z λs=>rz Z<|Aa λx m=>BB [(some 9,false),(some 10,false)] (conG prog [(10,λ_ _ v_ L_ U_=> ∀h,Iv N a=some h-> ∀i,Ki N b=some i-> ∀j,AI N ([h,i])=some j->(pV (vI j)) v_ L_ U_)]) [] (by decide+kernel) (λy=>AK)<|rm 2 [0] Z<|kB e λn f e=>rc _ (cF WX) (PU N a _ f)<|rm 2 [0] Z<|kB e λp g e=>rc _ (cF WV) (RZ N b _ g)<|Ke (Ls:=[(Pp s d a b)]) 43 BE [n,p] [vI n,vI p] [vI 0,vI 0] Z Z Z Z Z Z Z (by kernel_rfl) (by kernel_rfl) Z Z Z (λt u q=> ?_)
 refine kB e λv c e=>rg _ (cF Fb) (λo w z_=>Cc N ([n,p]) _ c z_.view t ((Ax q (Aj (Ls:=[(Pp s d a b),u]) (k:=1) Z Z)) o w z_)) (λ_ _ v_ L_ U_=>⟨λh_=>h_ _ f _ g _ c,λh_=>by intro _ e_;cases q1 (e_.symm.trans f);intro _ e_;cases q1 (e_.symm.trans g);intro _ e_;cases q1 (e_.symm.trans c);exact h_⟩) ?_
 refine rz Z<|m _ _ ?_
 cases e
 exact aR eE1
def ME(N:Nat)(i:Int)(b:W2)(d:Int)(c:Int)(a:List (W2)):Option Int:=ck (0<=i/\i<(a.length:Int)) ((EZ N (a[i.toNat]!)).bind λh=>(Ap N h 4).bind λj=>(Ba N a i).bind λg=>(Mp N b d c).bind λf=>(AI N ([j,g,f])).bind λe=>some e)
theorem Xw(N i e f g b r)(c:ME N i e f g b=some r)(D)(p:Nat)(a)(h:Rd Aa3 D a b)(j:Blk D p [a])(q:Nat)(s:Blk D q [vF 121 #[] #[]]):Does prog 198 #[vI i,vA #[vS e,vI f,vI g],vP p 0,vP q 0] D [] (pV (vI r)):=by
 unfold ME at c
 refine Al follows func198 Z 21 Z _ fz4 (λC=> ?_)
 refine Ad<|rA Z λK=>rz Z<|Aa λO E=>BB [(some 15,false),(some 19,false),(some 20,false)] (conG prog [(15,cV (Ba N b i) λn=>vI n),(20,λ_ _ v_ L_ U_=> ∀n,EZ N (b[i.toNat]!)=some n-> ∀x,Ap N n 4=some x-> ∀y,Ba N b i=some y-> ∀z,Mp N e f g=some z-> ∀A,AI N ([x,y,z])=some A->(pV (vI A)) v_ L_ U_)]) [] (by decide+kernel) (λP=>AK)<|HO a (vs:=[a]) (o:=0) Z Z (AT j) Z<|rn 1 Z<|kC c λB c=>rI (Rd.shp h) B Z<|rE (Aw h) B 0 Z<|kB c λL t c=>rc _ (cF Oc) (Mo N (b[i.toNat]!) _ t)<|kB c λF u c=>rc _ (cF Bk) (Az N L 4 _ u)<|HO a (vs:=[a]) (o:=0) Z Z (AT j) Z<|rn 1 Z<|kB c λG d c=>rg _ (cF OI) (λo w z_=>Iu N b i _ d z_.view a (z_.r h)) (GQ d)<|HO (vF 121 #[] #[]) (vs:=[vF 121 #[] #[]]) (o:=0) Z Z (AT s) Z<|rm 1 [0] Z<|kB c λv l c=>rc _ (BO (caps:=[]) Z po Z) (fk N e f g _ l) ?_
 refine Ke (Ls:=[(Pp K e f g)]) 43 BE [F,G,v] [vI F,vI G,vI v] [vI 0,vI 0,vI 0] Z Z Z Z Z Z Z (by kernel_rfl) (by kernel_rfl) Z Z Z (λH I J=> ?_)
 refine kB c λM m c=>rg _ (cF Fb) (λo w z_=>Cc N ([F,G,v]) _ m z_.view H ((Ax J (Aj (Ls:=[(Pp K e f g),I]) (k:=1) Z Z)) o w z_)) (λ_ _ v_ L_ U_=>⟨λh_=>h_ _ t _ u _ d _ l _ m,λh_=>by intro _ e_;cases q1 (e_.symm.trans t);intro _ e_;cases q1 (e_.symm.trans u);intro _ e_;cases q1 (e_.symm.trans d);intro _ e_;cases q1 (e_.symm.trans l);intro _ e_;cases q1 (e_.symm.trans m);exact h_⟩) ?_
 refine rz Z<|E _ _ ?_
 cases c
 exact aR eV1
def KF(N:Nat)(c:List (W2×Int×Int))(b:List (W2)):Nat->Int->Option (Int×Int)
  |0,_=>none
  |e+1,a=>if a<(c.length:Int)then ck (0<=a/\a<(c.length:Int)) ((ME N a ((c[a.toNat]!).1) ((c[a.toNat]!).2.1) ((c[a.toNat]!).2.2) b).bind λd=>if(d:Int)≠0 then some (a,d)else ck (R64 (a+1)) ((KF N c b e) (a+1)))else some (0,0)
def OB(N:Nat)(c:List (W2×Int×Int))(b:Int)(a:List (W2)):Option (Int×Int):=if(c.length:Int)>b then some (0,2)else KF N c a N 0
theorem cG(N p m d r)(c:OB N p m d=some r)(A q)(j:Rd Af0 A q p)(a:Nat)(e)(i:Rd Aa3 A e d)(g:Blk A a [e])(b:Nat)(h:Blk A b [vF 121 #[] #[]]):Does prog 197 #[q,vI m,vF 198 #[] #[vP a 0,vP b 0]] A [] (pV (vT #[vI r.1,vI r.2])):=by
 unfold OB at c
 refine Al follows func197 Z 31 Z _ fz3 (λB=> ?_)
 refine AZ Z<|Aa λJ C=>Ad<|rn 1 Z<|rL (Rd.shp j) Z<|rz Z<|aD c Z (λD c=> ?_) (λD c=> ?_)
 ·refine AZ Z ?_
  cases c
  exact aR eV2
 refine Ab<|C _ _ ?_
 refine Aa λK E=>Ad<|rn 1 Z<|rL (Rd.shp j) Z<|rz Z<|Ai<|AH (λtt ll nn=> ∃(n:Nat) (f:Int),(KF N p d n f=some r)/\Is [(2,vF 198 #[] #[vP a 0,vP b 0]),(15,q),(16,vI (p.length:Int)),(17,vI f)] [] tt ll/\nn=n+1) (N+1) ?_ ?_
 ·exact⟨N,0,c,Ag Z Z,Z⟩
 clear c;rintro t l _ ⟨n,f,c,⟨⟨T,rfl⟩,rfl⟩,rfl⟩
 rcases n with _|n
 ·exact absurd c (by simp [KF])
 rw [KF] at c
 refine AZ Z<|Aa λF s=>aD c Z (λu c=> ?_) (λu c=> ?_)
 ·refine Ab<|s _ _ ?_
  refine Aa λG v=>Ai<|Ad<|rn 1 Z<|kC c λk c=>rI (Rd.shp j) k Z<|rE (Aw j) k 0 Z<|rA Z λH=>ry [0] Z<|Ad<|rm 3 [0] Z<|kB c λI x c=>gV _ (BO (caps:=[vP a 0,vP b 0]) Z nT Z) (λo w z_=>Xw N f ((p[f.toNat]!).1) ((p[f.toNat]!).2.1) ((p[f.toNat]!).2.2) d _ x z_.view a e (z_.r i) (AT g o w z_) b (AT h o w z_))<|rz Z<|AZ Z<|aN c Z (λy c=> ?_) (λy c=> ?_)
  ·refine AZ Z ?_
   cases c
   exact aR eV2
  refine Ab<|v _ _ ?_
  refine Ah<|kC c λz c=>rX z Z<|rz Z<|fg _ (Sub.of (suC _ suN)) ?_
  exact⟨n+1,by omega,n,(f+1),c,Ag Z Z,Z⟩
 refine AG<|E _ _ ?_
 refine AZ Z ?_
 cases c
 exact aR eV2
def QO(N:Nat)(c:List (W2×Int×Int))(b:Int):Option (Int×Int):=(QP N c).bind λd=>(OB N c b d).bind λa=>some (a.1,a.2)
theorem cw(N j a r)(c:QO N j a=some r)(p b)(f:Rd Af0 p b j):Does prog 119 #[b,vI a,vF 120 #[] #[],vF 121 #[] #[]] p [] (pV (vT #[vI r.1,vI r.2])):=by
 unfold QO at c
 refine Al follows func119 Z 20 Z _ fz4 (λg=> ?_)
 refine Ad<|rA Z λd=>rz Z<|Ad<|rn 2 Z<|kB c λq l c=>gS (Ls:=[(VR d (vF 121 #[] #[]))]) (cF nV) (λo w z_=>cy N j _ l z_.view b ((Aw f) o w z_)) (λh n m=> ?_)
 refine rA Z λi=>r_s (List.flatten [(Pq i h),(VR d (vF 121 #[] #[])),n]) 0 _ _ _ _ _ (#[h]) Z Z Z (Gs Z (Sl.shp m)) (.ofS Z Z (Ae (Shp.one (Sl.shp m)) BA)) Z Z<|Ak<|Ad<|rn 2 Z<|r_W (vF 198 #[] #[vP i 0,vP d 0]) Z (Jc Z)<|kB c λs e c=>gV _ (cF nU) (λo w z_=>cG N j a q _ e z_.view b ((Aw f) o w z_) i h ((Ax m (Aj (Ls:=[(Pq i h),(VR d (vF 121 #[] #[])),n]) (k:=2) Z Z)) o w z_) (CN 0 Z Z o w z_) d (CN 1 Z Z o w z_))<|rz Z ?_
 cases c
 exact aR eV2
def Lr(N:Nat)(c:Ao):Option (Int×Int):=(QO N c.2.2.2.2.2.2.2.2.2.2.2.2.1 8).bind λa=>some (a.1,a.2)
theorem cJ(N c r)(a:Lr N c=some r)(f)(e:AB)(g:Aa1 f e c):Does prog 61 #[vA (Ac c e)] f [] (pV (vT #[vI r.1,vI r.2])):=by
 unfold Lr at a
 refine Al follows func61 Z 10 Z _ fz1 (λb=> ?_)
 refine Ad<|rA Z λh=>rz Z<|Ad<|rm 3 [0] Z<|kB a λi d a=>gV _ (cF pr) (λo w z_=>cw N c.2.2.2.2.2.2.2.2.2.2.2.2.1 8 _ d z_.view e.2.2.2.2.2.2.2.2.2.2.2.1 ((Aw g.2.2.2.2.2.2.2.2.2.2.2.1) o w z_))<|rz Z ?_
 cases a
 exact aR eV2
def NR(_:Nat)(a:W2)(_:Int):Option (W2):=some a
theorem Ws(N a b r)(d:NR N a b=some r):Gives prog 124 #[vA #[vS a,vI b]] (vS r):=by
 unfold NR at d
 refine Aq follows func124 Z 5 Z _ fz1 (λc=> ?_)
 refine Ad<|rA Z λe=>rz Z<|AY [0] Z ?_
 cases d
 exact aR eE1
def HF(N:Nat)(c:List (W2×Int)):Nat->List (W2)->Int->Option (List (W2))
  |0,_,_=>none
  |e+1,b,a=>if a<(c.length:Int)then ck (0<=a/\a<(c.length:Int)) ((NR N ((c[a.toNat]!).1) ((c[a.toNat]!).2)).bind λd=>ck (0<=a/\a<(b.length:Int)) (ck (R64 (a+1)) ((HF N c e) ((b).set (a.toNat) d) (a+1))))else some b
def MY(N:Nat)(a:List (W2×Int)):Option (List (W2)):=ck (0<=(a.length:Int)/\(a.length:Int)<=8796093022208) (HF N a N ((List.replicate ((a.length:Int)).toNat ([]))) 0)
theorem UC(N d r)(b:MY N d=some r)(C k)(g:Rd Af1 C k d):Does prog 199 #[k,vF 124 #[] #[]] C [] (p1 (λs_=>s_) 9 Aa3 r):=by
 unfold MY at b
 refine Al follows func199 Z 26 Z _ fz2 (λw=> ?_)
 refine AZ Z<|Ad<|rn 1 Z<|rL (Rd.shp g) Z<|kC b λx b=>cB 10<|Tx (Ls:=[]) 9 Aa3 ([]) (d.length:Int) Z Z Z Z Z Z Z Z Z Z 8796093022208 Z x (λ_ _ _ _ _=>Iff.rfl) (λy B D=> ?_)
 refine rz Z<|Aa λG z=>Ad<|rn 1 Z<|rL (Rd.shp g) Z<|rz Z<|Ai<|Bs _ (Sub.pick [B] [0] Z)<|AH (λtt ll nn=> ∃(j:Nat) (e:List (W2)) (a:Int),(HF N d j e a=some r)/\ ∃(c:List Bl),Sl 9 Aa3 y e c/\Is [(1,vF 124 #[] #[]),(5,y),(11,k),(12,vI (d.length:Int)),(13,vI a)] (List.flatten [c]) tt ll/\nn=j+1) (N+1) ?_ ?_
 ·exact⟨N,(List.replicate ((d.length:Int)).toNat ([])),0,b,B,D,Ag Z Z,Z⟩
 clear b;rintro t l _ ⟨j,e,a,b,c,f,⟨⟨T,rfl⟩,rfl⟩,rfl⟩
 rcases j with _|j
 ·exact absurd b (by simp [HF])
 rw [HF] at b
 refine AZ Z<|Aa λE m=>aD b Z (λn b=> ?_) (λn b=> ?_)
 ·refine Ab<|m _ _ ?_
  refine Aa λF o=>Ai<|Ad<|rn 1 Z<|kC b λh b=>rI (Rd.shp g) h Z<|rE (Aw g) h 0 Z<|rA Z λp=>ry [0] Z<|Ah<|rm 4 [0] Z<|kB b λq s b=>rc _ (BO (caps:=[]) Z pm Z) (Ws N ((d[a.toNat]!).1) ((d[a.toNat]!).2) _ s)<|kC b λi b=>rI (Sl.shp f) i Z<|RT (Ls:=[(SK p ((d[a.toNat]!).1) ((d[a.toNat]!).2)),c]) 1 (En:=Aa3) (e[a.toNat]!) q (a.toNat) 0 Z Z Z f (Dx i) Z Z Z (Jp Z) Z (λu A=> ?_)
  refine Ak<|o _ _ ?_
  refine Ah<|kC b λv b=>rX v Z<|rz Z<|fg _ (Sub.pick [(SK p ((d[a.toNat]!).1) ((d[a.toNat]!).2)),u] [1] Z) ?_
  exact⟨j+1,by omega,j,(e).set (a.toNat) q,(a+1),b,u,A,Ag Z Z,Z⟩
 refine AG<|z _ _ ?_
 refine AZ Z ?_
 cases b
 refine Bh (λH=>GZ (v0:=y) f (Dy (Sub.pick [c] [0] Z)) Z (FZ Z))
def Mb(N:Nat)(_:W2)(a:Int):Option Int:=(Ki N a).bind λb=>some b
theorem Wr(N b a r)(c:Mb N b a=some r):Gives prog 125 #[vA #[vS b,vI a]] (vI r):=by
 unfold Mb at c
 refine Aq follows func125 Z 6 Z _ fz1 (λd=> ?_)
 refine Ad<|rA Z λf=>rz Z<|Ad<|rm 2 [0] Z<|kB c λg e c=>rc _ (cF WV) (RZ N a _ e)<|rz Z ?_
 cases c
 exact aR eE1
def JQ(N:Nat)(i:Int)(b:W2)(c:Int)(a:List (W2)):Option Int:=ck (0<=i/\i<(a.length:Int)) ((EZ N (a[i.toNat]!)).bind λg=>(Ap N g 4).bind λh=>(Ba N a i).bind λf=>(Mb N b c).bind λe=>(AI N ([h,f,e])).bind λd=>some d)
theorem SR(N i e f b r)(c:JQ N i e f b=some r)(C)(n:Nat)(a)(g:Rd Aa3 C a b)(h:Blk C n [a])(p:Nat)(q:Blk C p [vF 125 #[] #[]]):Does prog 201 #[vI i,vA #[vS e,vI f],vP n 0,vP p 0] C [] (pV (vI r)):=by
 unfold JQ at c
 refine Al follows func201 Z 21 Z _ fz4 (λB=> ?_)
 refine Ad<|rA Z λJ=>rz Z<|Aa λM D=>BB [(some 15,false),(some 19,false),(some 20,false)] (conG prog [(15,cV (Ba N b i) λm=>vI m),(20,λ_ _ v_ L_ U_=> ∀m,EZ N (b[i.toNat]!)=some m-> ∀v,Ap N m 4=some v-> ∀x,Ba N b i=some x-> ∀y,Mb N e f=some y-> ∀z,AI N ([v,x,y])=some z->(pV (vI z)) v_ L_ U_)]) [] (by decide+kernel) (λO=>AK)<|HO a (vs:=[a]) (o:=0) Z Z (AT h) Z<|rn 1 Z<|kC c λA c=>rI (Rd.shp g) A Z<|rE (Aw g) A 0 Z<|kB c λK s c=>rc _ (cF Oc) (Mo N (b[i.toNat]!) _ s)<|kB c λE t c=>rc _ (cF Bk) (Az N K 4 _ t)<|HO a (vs:=[a]) (o:=0) Z Z (AT h) Z<|rn 1 Z<|kB c λF d c=>rg _ (cF OI) (λo w z_=>Iu N b i _ d z_.view a (z_.r g)) (GQ d)<|HO (vF 125 #[] #[]) (vs:=[vF 125 #[] #[]]) (o:=0) Z Z (AT q) Z<|rm 1 [0] Z<|kB c λu j c=>rc _ (BO (caps:=[]) Z pk Z) (Wr N e f _ j) ?_
 refine Ke (Ls:=[(SK J e f)]) 43 BE [E,F,u] [vI E,vI F,vI u] [vI 0,vI 0,vI 0] Z Z Z Z Z Z Z (by kernel_rfl) (by kernel_rfl) Z Z Z (λG H I=> ?_)
 refine kB c λL l c=>rg _ (cF Fb) (λo w z_=>Cc N ([E,F,u]) _ l z_.view G ((Ax I (Aj (Ls:=[(SK J e f),H]) (k:=1) Z Z)) o w z_)) (λ_ _ v_ L_ U_=>⟨λh_=>h_ _ s _ t _ d _ j _ l,λh_=>by intro _ e_;cases q1 (e_.symm.trans s);intro _ e_;cases q1 (e_.symm.trans t);intro _ e_;cases q1 (e_.symm.trans d);intro _ e_;cases q1 (e_.symm.trans j);intro _ e_;cases q1 (e_.symm.trans l);exact h_⟩) ?_
 refine rz Z<|D _ _ ?_
 cases c
 exact aR eV1
def HG(N:Nat)(c:List (W2×Int))(b:List (W2)):Nat->Int->Option (Int×Int)
  |0,_=>none
  |e+1,a=>if a<(c.length:Int)then ck (0<=a/\a<(c.length:Int)) ((JQ N a ((c[a.toNat]!).1) ((c[a.toNat]!).2) b).bind λd=>if(d:Int)≠0 then some (a,d)else ck (R64 (a+1)) ((HG N c b e) (a+1)))else some (0,0)
def Ld(N:Nat)(c:List (W2×Int))(b:Int)(a:List (W2)):Option (Int×Int):=if(c.length:Int)>b then some (0,2)else HG N c a N 0
theorem UD(N q m d r)(c:Ld N q m d=some r)(A p)(j:Rd Af1 A p q)(a:Nat)(e)(i:Rd Aa3 A e d)(g:Blk A a [e])(b:Nat)(h:Blk A b [vF 125 #[] #[]]):Does prog 200 #[p,vI m,vF 201 #[] #[vP a 0,vP b 0]] A [] (pV (vT #[vI r.1,vI r.2])):=by
 unfold Ld at c
 refine Al follows func200 Z 31 Z _ fz3 (λB=> ?_)
 refine AZ Z<|Aa λJ C=>Ad<|rn 1 Z<|rL (Rd.shp j) Z<|rz Z<|aD c Z (λD c=> ?_) (λD c=> ?_)
 ·refine AZ Z ?_
  cases c
  exact aR eV2
 refine Ab<|C _ _ ?_
 refine Aa λK E=>Ad<|rn 1 Z<|rL (Rd.shp j) Z<|rz Z<|Ai<|AH (λtt ll nn=> ∃(n:Nat) (f:Int),(HG N q d n f=some r)/\Is [(2,vF 201 #[] #[vP a 0,vP b 0]),(15,p),(16,vI (q.length:Int)),(17,vI f)] [] tt ll/\nn=n+1) (N+1) ?_ ?_
 ·exact⟨N,0,c,Ag Z Z,Z⟩
 clear c;rintro t l _ ⟨n,f,c,⟨⟨T,rfl⟩,rfl⟩,rfl⟩
 rcases n with _|n
 ·exact absurd c (by simp [HG])
 rw [HG] at c
 refine AZ Z<|Aa λF s=>aD c Z (λu c=> ?_) (λu c=> ?_)
 ·refine Ab<|s _ _ ?_
  refine Aa λG v=>Ai<|Ad<|rn 1 Z<|kC c λk c=>rI (Rd.shp j) k Z<|rE (Aw j) k 0 Z<|rA Z λH=>ry [0] Z<|Ad<|rm 3 [0] Z<|kB c λI x c=>gV _ (BO (caps:=[vP a 0,vP b 0]) Z nP Z) (λo w z_=>SR N f ((q[f.toNat]!).1) ((q[f.toNat]!).2) d _ x z_.view a e (z_.r i) (AT g o w z_) b (AT h o w z_))<|rz Z<|AZ Z<|aN c Z (λy c=> ?_) (λy c=> ?_)
  ·refine AZ Z ?_
   cases c
   exact aR eV2
  refine Ab<|v _ _ ?_
  refine Ah<|kC c λz c=>rX z Z<|rz Z<|fg _ (Sub.of (suC _ suN)) ?_
  exact⟨n+1,by omega,n,(f+1),c,Ag Z Z,Z⟩
 refine AG<|E _ _ ?_
 refine AZ Z ?_
 cases c
 exact aR eV2
def MX(N:Nat)(c:List (W2×Int))(b:Int):Option (Int×Int):=(MY N c).bind λd=>(Ld N c b d).bind λa=>some (a.1,a.2)
theorem UB(N j a r)(c:MX N j a=some r)(p b)(f:Rd Af1 p b j):Does prog 123 #[b,vI a,vF 124 #[] #[],vF 125 #[] #[]] p [] (pV (vT #[vI r.1,vI r.2])):=by
 unfold MX at c
 refine Al follows func123 Z 20 Z _ fz4 (λg=> ?_)
 refine Ad<|rA Z λd=>rz Z<|Ad<|rn 2 Z<|kB c λq l c=>gS (Ls:=[(VQ d (vF 125 #[] #[]))]) (cF nR) (λo w z_=>UC N j _ l z_.view b ((Aw f) o w z_)) (λh n m=> ?_)
 refine rA Z λi=>r_s (List.flatten [(Pq i h),(VQ d (vF 125 #[] #[])),n]) 0 _ _ _ _ _ (#[h]) Z Z Z (Gs Z (Sl.shp m)) (.ofS Z Z (Ae (Shp.one (Sl.shp m)) BA)) Z Z<|Ak<|Ad<|rn 2 Z<|r_W (vF 201 #[] #[vP i 0,vP d 0]) Z (Jc Z)<|kB c λs e c=>gV _ (cF nQ) (λo w z_=>UD N j a q _ e z_.view b ((Aw f) o w z_) i h ((Ax m (Aj (Ls:=[(Pq i h),(VQ d (vF 125 #[] #[])),n]) (k:=2) Z Z)) o w z_) (CN 0 Z Z o w z_) d (CN 1 Z Z o w z_))<|rz Z ?_
 cases c
 exact aR eV2
def Ii(N:Nat)(c:Ao):Option (Int×Int):=(MX N c.2.2.2.2.2.2.2.2.2.2.2.2.2.1 8).bind λa=>some (a.1,a.2)
theorem UI(N c r)(a:Ii N c=some r)(f)(e:AB)(g:Aa1 f e c):Does prog 62 #[vA (Ac c e)] f [] (pV (vT #[vI r.1,vI r.2])):=by
 unfold Ii at a
 refine Al follows func62 Z 10 Z _ fz1 (λb=> ?_)
 refine Ad<|rA Z λh=>rz Z<|Ad<|rm 3 [0] Z<|kB a λi d a=>gV _ (cF pn) (λo w z_=>UB N c.2.2.2.2.2.2.2.2.2.2.2.2.2.1 8 _ d z_.view e.2.2.2.2.2.2.2.2.2.2.2.2.1 ((Aw g.2.2.2.2.2.2.2.2.2.2.2.2.1) o w z_))<|rz Z ?_
 cases a
 exact aR eV2
def PW(_:Nat)(a:W2)(_:Int)(_:Int)(_:Int):Option (W2):=some a
theorem ad(N a b c d r)(f:PW N a b c d=some r):Gives prog 127 #[vA #[vS a,vI b,vI c,vI d]] (vS r):=by
 unfold PW at f
 refine Aq follows func127 Z 5 Z _ fz1 (λe=> ?_)
 refine Ad<|rA Z λg=>rz Z<|AY [0] Z ?_
 cases f
 exact aR eE1
def IS(N:Nat)(b:List (W2×Int×Int×Int)):Nat->List (W2)->Int->Option (List (W2))
  |0,_,_=>none
  |e+1,c,a=>if a<(b.length:Int)then ck (0<=a/\a<(b.length:Int)) ((PW N ((b[a.toNat]!).1) ((b[a.toNat]!).2.1) ((b[a.toNat]!).2.2.1) ((b[a.toNat]!).2.2.2)).bind λd=>ck (0<=a/\a<(c.length:Int)) (ck (R64 (a+1)) ((IS N b e) ((c).set (a.toNat) d) (a+1))))else some c
def OU(N:Nat)(a:List (W2×Int×Int×Int)):Option (List (W2)):=ck (0<=(a.length:Int)/\(a.length:Int)<=8796093022208) (IS N a N ((List.replicate ((a.length:Int)).toNat ([]))) 0)
theorem XB(N c r)(b:OU N c=some r)(C k)(g:Rd Af2 C k c):Does prog 202 #[k,vF 127 #[] #[]] C [] (p1 (λs_=>s_) 9 Aa3 r):=by
 unfold OU at b
 refine Al follows func202 Z 26 Z _ fz2 (λw=> ?_)
 refine AZ Z<|Ad<|rn 1 Z<|rL (Rd.shp g) Z<|kC b λx b=>cB 10<|Tx (Ls:=[]) 9 Aa3 ([]) (c.length:Int) Z Z Z Z Z Z Z Z Z Z 8796093022208 Z x (λ_ _ _ _ _=>Iff.rfl) (λy B D=> ?_)
 refine rz Z<|Aa λG z=>Ad<|rn 1 Z<|rL (Rd.shp g) Z<|rz Z<|Ai<|Bs _ (Sub.pick [B] [0] Z)<|AH (λtt ll nn=> ∃(j:Nat) (e:List (W2)) (a:Int),(IS N c j e a=some r)/\ ∃(d:List Bl),Sl 9 Aa3 y e d/\Is [(1,vF 127 #[] #[]),(5,y),(11,k),(12,vI (c.length:Int)),(13,vI a)] (List.flatten [d]) tt ll/\nn=j+1) (N+1) ?_ ?_
 ·exact⟨N,(List.replicate ((c.length:Int)).toNat ([])),0,b,B,D,Ag Z Z,Z⟩
 clear b;rintro t l _ ⟨j,e,a,b,d,f,⟨⟨T,rfl⟩,rfl⟩,rfl⟩
 rcases j with _|j
 ·exact absurd b (by simp [IS])
 rw [IS] at b
 refine AZ Z<|Aa λE m=>aD b Z (λn b=> ?_) (λn b=> ?_)
 ·refine Ab<|m _ _ ?_
  refine Aa λF o=>Ai<|Ad<|rn 1 Z<|kC b λh b=>rI (Rd.shp g) h Z<|rE (Aw g) h 0 Z<|rA Z λp=>ry [0] Z<|Ah<|rm 4 [0] Z<|kB b λq s b=>rc _ (BO (caps:=[]) Z pi Z) (ad N ((c[a.toNat]!).1) ((c[a.toNat]!).2.1) ((c[a.toNat]!).2.2.1) ((c[a.toNat]!).2.2.2) _ s)<|kC b λi b=>rI (Sl.shp f) i Z<|RT (Ls:=[(NK p ((c[a.toNat]!).1) ((c[a.toNat]!).2.1) ((c[a.toNat]!).2.2.1) ((c[a.toNat]!).2.2.2)),d]) 1 (En:=Aa3) (e[a.toNat]!) q (a.toNat) 0 Z Z Z f (Dx i) Z Z Z (Jp Z) Z (λu A=> ?_)
  refine Ak<|o _ _ ?_
  refine Ah<|kC b λv b=>rX v Z<|rz Z<|fg _ (Sub.pick [(NK p ((c[a.toNat]!).1) ((c[a.toNat]!).2.1) ((c[a.toNat]!).2.2.1) ((c[a.toNat]!).2.2.2)),u] [1] Z) ?_
  exact⟨j+1,by omega,j,(e).set (a.toNat) q,(a+1),b,u,A,Ag Z Z,Z⟩
 refine AG<|z _ _ ?_
 refine AZ Z ?_
 cases b
 refine Bh (λH=>GZ (v0:=y) f (Dy (Sub.pick [d] [0] Z)) Z (FZ Z))
def JJ(N:Nat)(b:Int)(a:Bool):Option Int:=(Ki N b).bind λd=>(Ap N a 7).bind λe=>(AI N ([d,e])).bind λc=>some c
def KJ(N:Nat)(_:W2)(a:Int)(b:Int)(d:Int):Option Int:=(AA N b 0 65535).bind λe=>if e=true then(AA N d 1 1048576).bind λc=>JJ N a c else JJ N a false
theorem ab(N g d e f r)(b:KJ N g d e f=some r):Gives prog 128 #[vA #[vS g,vI d,vI e,vI f]] (vI r):=by
 unfold KJ at b
 refine Aq follows func128 Z 19 Z _ fz1 (λm=> ?_)
 refine Ad<|rA Z λn=>rz Z<|Cb (λtt ll=> ∃(a:Bool),(JJ N d a=some r)/\Is [(1,vP n 0),(3,vB a)] (NK n g d e f) tt ll) ?_ ?_
 ·refine Ah<|rm 2 [0] Z<|kB b λp h b=>rc _ (cF Fz) (AR N e 0 65535 _ h)<|rn 1 Z ?_
  rcases c:p with _|_
  ·replace b:=iB c b
   refine rz Z<|fg _ (Sub.of (suK _ suN)) ?_
   exact⟨false,b,Ag (by first|rfl|(simp only [c];done)|(simp only [c];rfl)|(simp only [Br];rfl)) Z⟩
  replace b:=ifp c b
  refine rn 1 Z<|r_y Z<|rm 1 [0] Z<|r_y Z<|kB b λq i b=>rc _ (cF Fz) (AR N f 1 1048576 _ i)<|rz Z<|fg _ (Sub.of (suK _ suN)) ?_
  exact⟨q,b,Ag (by first|rfl|(simp only [c];done)|(simp only [c];rfl)|(simp only [Br];rfl)) Z⟩
 clear b;rintro t l ⟨a,b,⟨T,rfl⟩,rfl⟩
 unfold JJ at b
 refine Ad<|rm 2 [0] Z<|kB b λx s b=>rc _ (cF WV) (RZ N d _ s)<|rn 1 Z<|kB b λy u b=>rc _ (cF Bk) (Az N a 7 _ u)<|gB (Ls:=[(NK n g d e f)]) 43 BE [x,y] (λz A v=> ?_)
 refine kB b λB j b=>gV _ (cF Fb) (λo w z_=>Cc N ([x,y]) _ j z_.view z ((Ax v (Aj (Ls:=[(NK n g d e f),A]) (k:=1) Z Z)) o w z_))<|rz Z ?_
 cases b
 exact aR eE1
def Lb(N:Nat)(i:Int)(b:W2)(d:Int)(c:Int)(g:Int)(a:List (W2)):Option Int:=ck (0<=i/\i<(a.length:Int)) ((EZ N (a[i.toNat]!)).bind λj=>(Ap N j 4).bind λk=>(Ba N a i).bind λh=>(KJ N b d c g).bind λf=>(AI N ([k,h,f])).bind λe=>some e)
theorem Uz(N i e f g h b r)(c:Lb N i e f g h b=some r)(E)(q:Nat)(a)(j:Rd Aa3 E a b)(l:Blk E q [a])(s:Nat)(t:Blk E s [vF 128 #[] #[]]):Does prog 204 #[vI i,vA #[vS e,vI f,vI g,vI h],vP q 0,vP s 0] E [] (pV (vI r)):=by
 unfold Lb at c
 refine Al follows func204 Z 21 Z _ fz4 (λD=> ?_)
 refine Ad<|rA Z λL=>rz Z<|Aa λP F=>BB [(some 15,false),(some 19,false),(some 20,false)] (conG prog [(15,cV (Ba N b i) λp=>vI p),(20,λ_ _ v_ L_ U_=> ∀p,EZ N (b[i.toNat]!)=some p-> ∀y,Ap N p 4=some y-> ∀z,Ba N b i=some z-> ∀A,KJ N e f g h=some A-> ∀B,AI N ([y,z,A])=some B->(pV (vI B)) v_ L_ U_)]) [] (by decide+kernel) (λQ=>AK)<|HO a (vs:=[a]) (o:=0) Z Z (AT l) Z<|rn 1 Z<|kC c λC c=>rI (Rd.shp j) C Z<|rE (Aw j) C 0 Z<|kB c λM u c=>rc _ (cF Oc) (Mo N (b[i.toNat]!) _ u)<|kB c λG v c=>rc _ (cF Bk) (Az N M 4 _ v)<|HO a (vs:=[a]) (o:=0) Z Z (AT l) Z<|rn 1 Z<|kB c λH d c=>rg _ (cF OI) (λo w z_=>Iu N b i _ d z_.view a (z_.r j)) (GQ d)<|HO (vF 128 #[] #[]) (vs:=[vF 128 #[] #[]]) (o:=0) Z Z (AT t) Z<|rm 1 [0] Z<|kB c λx m c=>rc _ (BO (caps:=[]) Z ph Z) (ab N e f g h _ m) ?_
 refine Ke (Ls:=[(NK L e f g h)]) 43 BE [G,H,x] [vI G,vI H,vI x] [vI 0,vI 0,vI 0] Z Z Z Z Z Z Z (by kernel_rfl) (by kernel_rfl) Z Z Z (λI J K=> ?_)
 refine kB c λO n c=>rg _ (cF Fb) (λo w z_=>Cc N ([G,H,x]) _ n z_.view I ((Ax K (Aj (Ls:=[(NK L e f g h),J]) (k:=1) Z Z)) o w z_)) (λ_ _ v_ L_ U_=>⟨λh_=>h_ _ u _ v _ d _ m _ n,λh_=>by intro _ e_;cases q1 (e_.symm.trans u);intro _ e_;cases q1 (e_.symm.trans v);intro _ e_;cases q1 (e_.symm.trans d);intro _ e_;cases q1 (e_.symm.trans m);intro _ e_;cases q1 (e_.symm.trans n);exact h_⟩) ?_
 refine rz Z<|F _ _ ?_
 cases c
 exact aR eV1
def IW(N:Nat)(b:List (W2×Int×Int×Int))(c:List (W2)):Nat->Int->Option (Int×Int)
  |0,_=>none
  |e+1,a=>if a<(b.length:Int)then ck (0<=a/\a<(b.length:Int)) ((Lb N a ((b[a.toNat]!).1) ((b[a.toNat]!).2.1) ((b[a.toNat]!).2.2.1) ((b[a.toNat]!).2.2.2) c).bind λd=>if(d:Int)≠0 then some (a,d)else ck (R64 (a+1)) ((IW N b c e) (a+1)))else some (0,0)
def MH(N:Nat)(c:List (W2×Int×Int×Int))(b:Int)(a:List (W2)):Option (Int×Int):=if(c.length:Int)>b then some (0,2)else IW N c a N 0
theorem XF(N m n d r)(c:MH N m n d=some r)(A q)(j:Rd Af2 A q m)(a:Nat)(e)(i:Rd Aa3 A e d)(g:Blk A a [e])(b:Nat)(h:Blk A b [vF 128 #[] #[]]):Does prog 203 #[q,vI n,vF 204 #[] #[vP a 0,vP b 0]] A [] (pV (vT #[vI r.1,vI r.2])):=by
 unfold MH at c
 refine Al follows func203 Z 31 Z _ fz3 (λB=> ?_)
 refine AZ Z<|Aa λJ C=>Ad<|rn 1 Z<|rL (Rd.shp j) Z<|rz Z<|aD c Z (λD c=> ?_) (λD c=> ?_)
 ·refine AZ Z ?_
  cases c
  exact aR eV2
 refine Ab<|C _ _ ?_
 refine Aa λK E=>Ad<|rn 1 Z<|rL (Rd.shp j) Z<|rz Z<|Ai<|AH (λtt ll nn=> ∃(p:Nat) (f:Int),(IW N m d p f=some r)/\Is [(2,vF 204 #[] #[vP a 0,vP b 0]),(15,q),(16,vI (m.length:Int)),(17,vI f)] [] tt ll/\nn=p+1) (N+1) ?_ ?_
 ·exact⟨N,0,c,Ag Z Z,Z⟩
 clear c;rintro t l _ ⟨p,f,c,⟨⟨T,rfl⟩,rfl⟩,rfl⟩
 rcases p with _|p
 ·exact absurd c (by simp [IW])
 rw [IW] at c
 refine AZ Z<|Aa λF s=>aD c Z (λu c=> ?_) (λu c=> ?_)
 ·refine Ab<|s _ _ ?_
  refine Aa λG v=>Ai<|Ad<|rn 1 Z<|kC c λk c=>rI (Rd.shp j) k Z<|rE (Aw j) k 0 Z<|rA Z λH=>ry [0] Z<|Ad<|rm 3 [0] Z<|kB c λI x c=>gV _ (BO (caps:=[vP a 0,vP b 0]) Z nM Z) (λo w z_=>Uz N f ((m[f.toNat]!).1) ((m[f.toNat]!).2.1) ((m[f.toNat]!).2.2.1) ((m[f.toNat]!).2.2.2) d _ x z_.view a e (z_.r i) (AT g o w z_) b (AT h o w z_))<|rz Z<|AZ Z<|aN c Z (λy c=> ?_) (λy c=> ?_)
  ·refine AZ Z ?_
   cases c
   exact aR eV2
  refine Ab<|v _ _ ?_
  refine Ah<|kC c λz c=>rX z Z<|rz Z<|fg _ (Sub.of (suC _ suN)) ?_
  exact⟨p+1,by omega,p,(f+1),c,Ag Z Z,Z⟩
 refine AG<|E _ _ ?_
 refine AZ Z ?_
 cases c
 exact aR eV2
def OQ(N:Nat)(c:List (W2×Int×Int×Int))(b:Int):Option (Int×Int):=(OU N c).bind λd=>(MH N c b d).bind λa=>some (a.1,a.2)
theorem Xx(N j a r)(c:OQ N j a=some r)(p b)(f:Rd Af2 p b j):Does prog 126 #[b,vI a,vF 127 #[] #[],vF 128 #[] #[]] p [] (pV (vT #[vI r.1,vI r.2])):=by
 unfold OQ at c
 refine Al follows func126 Z 20 Z _ fz4 (λg=> ?_)
 refine Ad<|rA Z λd=>rz Z<|Ad<|rn 2 Z<|kB c λq l c=>gS (Ls:=[(VP d (vF 128 #[] #[]))]) (cF nO) (λo w z_=>XB N j _ l z_.view b ((Aw f) o w z_)) (λh n m=> ?_)
 refine rA Z λi=>r_s (List.flatten [(Pq i h),(VP d (vF 128 #[] #[])),n]) 0 _ _ _ _ _ (#[h]) Z Z Z (Gs Z (Sl.shp m)) (.ofS Z Z (Ae (Shp.one (Sl.shp m)) BA)) Z Z<|Ak<|Ad<|rn 2 Z<|r_W (vF 204 #[] #[vP i 0,vP d 0]) Z (Jc Z)<|kB c λs e c=>gV _ (cF nN) (λo w z_=>XF N j a q _ e z_.view b ((Aw f) o w z_) i h ((Ax m (Aj (Ls:=[(Pq i h),(VP d (vF 128 #[] #[])),n]) (k:=2) Z Z)) o w z_) (CN 0 Z Z o w z_) d (CN 1 Z Z o w z_))<|rz Z ?_
 cases c
 exact aR eV2
def JI(N:Nat)(c:Ao):Option (Int×Int):=(OQ N c.2.2.2.2.2.2.2.2.2.2.2.2.2.2.1 8).bind λa=>some (a.1,a.2)
theorem XK(N c r)(a:JI N c=some r)(f)(e:AB)(g:Aa1 f e c):Does prog 63 #[vA (Ac c e)] f [] (pV (vT #[vI r.1,vI r.2])):=by
 unfold JI at a
 refine Al follows func63 Z 10 Z _ fz1 (λb=> ?_)
 refine Ad<|rA Z λh=>rz Z<|Ad<|rm 3 [0] Z<|kB a λi d a=>gV _ (cF pj) (λo w z_=>Xx N c.2.2.2.2.2.2.2.2.2.2.2.2.2.2.1 8 _ d z_.view e.2.2.2.2.2.2.2.2.2.2.2.2.2 ((Aw g.2.2.2.2.2.2.2.2.2.2.2.2.2) o w z_))<|rz Z ?_
 cases a
 exact aR eV2
inductive Ac0 where
  |nil
  |t107 (x0:Int) (x1:Int) (x2:Int)
  deriving Inhabited
def Ac0.on{β:Type}(x:Ac0)(a:β)(b:Int->Int->Int->β):β:=match x with| .nil=>a| .t107 x0 x1 x2=>b x0 x1 x2
theorem Ac0.on_nil {β:Type}{x:Ac0}{a r:β}{b:Int->Int->Int->β}(h:x= .nil)(e:Ac0.on x a b=r):a=r:=by subst h;exact e
theorem Ac0.on_t107 {β:Type}{x:Ac0}{a r:β}{b:Int->Int->Int->β}{c:Int}{d:Int}{x2:Int}(h:x= .t107 c d x2)(e:Ac0.on x a b=r):b c d x2=r:=by subst h;exact e
def Ac0.onP(x:Ac0)(a:PO)(b:Int->Int->Int->PO):PO:=match x with| .nil=>a| .t107 x0 x1 x2=>b x0 x1 x2
theorem Ac0.onP_nil {x:Ac0}{a:PO}{b:Int->Int->Int->PO}{v:Value}{O:List (List Bl)}(h:x= .nil)(e:Ac0.onP x a b v O):a v O:=by subst h;exact e
theorem Ac0.onP_t107 {x:Ac0}{a:PO}{b:Int->Int->Int->PO}{c:Int}{d:Int}{x2:Int}{v:Value}{O:List (List Bl)}(h:x= .t107 c d x2)(e:Ac0.onP x a b v O):b c d x2 v O:=by subst h;exact e
theorem Ac0.niceP {x:Ac0}{a:PO}{b:Int->Int->Int->PO}{R:List Bl}(h:Ac6 a R)(c: ∀d e x2,Ac6 (b d e x2) R):Ac6 (Ac0.onP x a b) R:=by cases x with|nil=>exact h|t107=>exact c _ _ _
theorem Ac0.cases(x:Ac0):x= .nil\/(∃a b x2,x= .t107 a b x2):=by cases x<;>simp
def An(N:Nat)(m:Ao):Nat->Int->Option Ac0
  |0,_=>none
  |b+1,a=>if a<15 then ck (0<=a/\a<(15:Int)) (if a=0 then(Jt N m).bind λj=>if(j.2:Int)≠0 then some (.t107 a j.1 j.2)else ck (R64 (a+1)) ((An N m b) (a+1))else if a=1 then(HR N m).bind λi=>if(i.2:Int)≠0 then some (.t107 a i.1 i.2)else ck (R64 (a+1)) ((An N m b) (a+1))else if a=2 then(Js N m).bind λp=>if(p.2:Int)≠0 then some (.t107 a p.1 p.2)else ck (R64 (a+1)) ((An N m b) (a+1))else if a=3 then(KK N m).bind λo=>if(o.2:Int)≠0 then some (.t107 a o.1 o.2)else ck (R64 (a+1)) ((An N m b) (a+1))else if a=4 then(IB N m).bind λq=>if(q.2:Int)≠0 then some (.t107 a q.1 q.2)else ck (R64 (a+1)) ((An N m b) (a+1))else if a=5 then(Ja N m).bind λn=>if(n.2:Int)≠0 then some (.t107 a n.1 n.2)else ck (R64 (a+1)) ((An N m b) (a+1))else if a=6 then(JH N m).bind λr=>if(r.2:Int)≠0 then some (.t107 a r.1 r.2)else ck (R64 (a+1)) ((An N m b) (a+1))else if a=7 then(Kk N m).bind λl=>if(l.2:Int)≠0 then some (.t107 a l.1 l.2)else ck (R64 (a+1)) ((An N m b) (a+1))else if a=8 then(KR N m).bind λk=>if(k.2:Int)≠0 then some (.t107 a k.1 k.2)else ck (R64 (a+1)) ((An N m b) (a+1))else if a=9 then(HS N m).bind λd=>if(d.2:Int)≠0 then some (.t107 a d.1 d.2)else ck (R64 (a+1)) ((An N m b) (a+1))else if a=10 then(KS N m).bind λg=>if(g.2:Int)≠0 then some (.t107 a g.1 g.2)else ck (R64 (a+1)) ((An N m b) (a+1))else if a=11 then(Kj N m).bind λc=>if(c.2:Int)≠0 then some (.t107 a c.1 c.2)else ck (R64 (a+1)) ((An N m b) (a+1))else if a=12 then(Lr N m).bind λh=>if(h.2:Int)≠0 then some (.t107 a h.1 h.2)else ck (R64 (a+1)) ((An N m b) (a+1))else if a=13 then(Ii N m).bind λf=>if(f.2:Int)≠0 then some (.t107 a f.1 f.2)else ck (R64 (a+1)) ((An N m b) (a+1))else(JI N m).bind λe=>if(e.2:Int)≠0 then some (.t107 a e.1 e.2)else ck (R64 (a+1)) ((An N m b) (a+1)))else some (.nil)
def Kv(N:Nat)(m:Ao):Option Ac0:=(Nq N m).bind λa=>An N m N 0
theorem ZT(N m r)(b:Kv N m=some r)(ro)(d:AB)(hm:Aa1 ro d m):DoesI prog 18 #[vA (Ac m d)] Ho ro [] (pO [] (Ac0.onP r (oE Value.nilIface []) (λy0_0 y0_1 y0_2=>(oB 109 #[vI y0_0,vI y0_1,vI y0_2] λbs_0=>(oE (Value.iface 107 (vP bs_0 0)) []))))):=by
 unfold Kv at b
 refine EE follows func18 Z 30 Z _ fz1 Bi (λW=> ?_)
 refine Ad<|r_a (35,(Ac m d)) Z Z Z (λb2=> ?_) (.inr Z)
 refine r_V Value.nilIface Z<|Ak<|Aa λK3 Y=>Ad<|rl (vA (Ac m d)) 0<|r_W (vA (Ac m d)) Z (NW Z Z Z (Jo (c:=(Ac m d)) Z QI) (by kernel_rfl)) ?_
 obtain⟨r5,ab,b⟩:=be b
 refine gS (Ls:=[[(b2,35,(Ac m d))]]) (cF tg) (λo w z_=>aa N m _ ab z_.view d (Aa1.mono z_.ro_cell hm)) (λs7 j p=> ?_)
 refine r_W (vI 15) Z (cS (n:=15) Z Z Z (Sl.shp p))<|r_V (vI 0) Z<|Ak<|Ai<|Bs _ (Sub.pick [[(b2,35,(Ac m d))],j] [1] Z)<|AH (λtt ll nn=> ∃(s:Nat) (a:Int),(An N m s a=some r)/\Is [(9,s7),(10,vI 15),(11,vI a)] (List.flatten [j]) tt ll/\nn=s+1) (N+1) ?_ ?_
 ·exact⟨N,0,b,Ag Z Z,Z⟩
 clear b;rintro t l _ ⟨s,a,b,⟨⟨T,rfl⟩,rfl⟩,rfl⟩
 rcases s with _|s
 ·exact absurd b (by simp [An])
 rw [An] at b
 refine Ad<|r_V (vB (decide (a<15))) Z<|Ak<|Aa λah R=>BI _ Z (λB=> ?_) (λB=> ?_)
 ·replace b:=iD B b
  refine Ab<|R _ _ ?_
  refine Aa λak S=>Ai<|Cb (λtt ll=> ∃(g:FuncId) (X:Option (Int×Int)),(X.bind λq=>if(q.2:Int)≠0 then some (.t107 a q.1 q.2)else ck (R64 (a+1)) (An N m s (a+1)))=some r/\(∀v,X=some v-> ∀c,Aa1 c d m->DoesI prog g #[vA (Ac m d)] Ho c [] (pV (vT #[vI v.1,vI v.2])))/\Am prog g=true/\Is [(3,vI a),(4,vF g #[vA (Ac m d)] #[]),(9,s7),(10,vI 15),(11,vI a)] (List.flatten [j]) tt ll) ?_ ?_
  ·refine Ah<|r_V (vI a) Z ?_
   obtain⟨P,b⟩:=Iz b
   refine r_W (elA s7 (a.toNat*1)) Z (Fc (cU Z Z Z (Sl.shp p) (xk (n:=15) Z P))) ?_
   rcases Decidable.em (a=0)with D|D
   ·replace b:=ifp D b
    refine Ry (vF 49 #[vA (Ac m d)] #[]) (En:=MR) (⟨vF 49 #[vA (Ac m d)] #[],Z⟩) (a.toNat) 0 Z Z (Ax p (Aj (Ls:=[j]) (k:=0) Z Z)) (NS (i:=0) D Z) Z<|r_R [vI a,vF 49 #[vA (Ac m d)] #[]] Z<|Ak<|fg _ (Sub.pick [j] [0] Z) ?_
    exact⟨49,_,b,λv e c h=>(aj N m _ e c d h).inv Ho,sS,Ag Z Z⟩
   replace b:=ifn D b
   rcases Decidable.em (a=1)with E|E
   ·replace b:=ifp E b
    refine Ry (vF 50 #[vA (Ac m d)] #[]) (En:=MR) (⟨vF 50 #[vA (Ac m d)] #[],Z⟩) (a.toNat) 0 Z Z (Ax p (Aj (Ls:=[j]) (k:=0) Z Z)) (NS (i:=1) E Z) Z<|r_R [vI a,vF 50 #[vA (Ac m d)] #[]] Z<|Ak<|fg _ (Sub.pick [j] [0] Z) ?_
    exact⟨50,_,b,λv e c h=>(Wp N m _ e c d h).inv Ho,sR,Ag Z Z⟩
   replace b:=ifn E b
   rcases Decidable.em (a=2)with F|F
   ·replace b:=ifp F b
    refine Ry (vF 51 #[vA (Ac m d)] #[]) (En:=MR) (⟨vF 51 #[vA (Ac m d)] #[],Z⟩) (a.toNat) 0 Z Z (Ax p (Aj (Ls:=[j]) (k:=0) Z Z)) (NS (i:=2) F Z) Z<|r_R [vI a,vF 51 #[vA (Ac m d)] #[]] Z<|Ak<|fg _ (Sub.pick [j] [0] Z) ?_
    exact⟨51,_,b,λv e c h=>(ai N m _ e c d h).inv Ho,sQ,Ag Z Z⟩
   replace b:=ifn F b
   rcases Decidable.em (a=3)with G|G
   ·replace b:=ifp G b
    refine Ry (vF 52 #[vA (Ac m d)] #[]) (En:=MR) (⟨vF 52 #[vA (Ac m d)] #[],Z⟩) (a.toNat) 0 Z Z (Ax p (Aj (Ls:=[j]) (k:=0) Z Z)) (NS (i:=3) G Z) Z<|r_R [vI a,vF 52 #[vA (Ac m d)] #[]] Z<|Ak<|fg _ (Sub.pick [j] [0] Z) ?_
    exact⟨52,_,b,λv e c h=>(ae N m _ e c d h).inv Ho,sP,Ag Z Z⟩
   replace b:=ifn G b
   rcases Decidable.em (a=4)with H|H
   ·replace b:=ifp H b
    refine Ry (vF 53 #[vA (Ac m d)] #[]) (En:=MR) (⟨vF 53 #[vA (Ac m d)] #[],Z⟩) (a.toNat) 0 Z Z (Ax p (Aj (Ls:=[j]) (k:=0) Z Z)) (NS (i:=4) H Z) Z<|r_R [vI a,vF 53 #[vA (Ac m d)] #[]] Z<|Ak<|fg _ (Sub.pick [j] [0] Z) ?_
    exact⟨53,_,b,λv e c h=>XJ N m _ e c d h,sO,Ag Z Z⟩
   replace b:=ifn H b
   rcases Decidable.em (a=5)with I|I
   ·replace b:=ifp I b
    refine Ry (vF 54 #[vA (Ac m d)] #[]) (En:=MR) (⟨vF 54 #[vA (Ac m d)] #[],Z⟩) (a.toNat) 0 Z Z (Ax p (Aj (Ls:=[j]) (k:=0) Z Z)) (NS (i:=5) I Z) Z<|r_R [vI a,vF 54 #[vA (Ac m d)] #[]] Z<|Ak<|fg _ (Sub.pick [j] [0] Z) ?_
    exact⟨54,_,b,λv e c h=>Wt N m _ e c d h,sN,Ag Z Z⟩
   replace b:=ifn I b
   rcases Decidable.em (a=6)with J|J
   ·replace b:=ifp J b
    refine Ry (vF 55 #[vA (Ac m d)] #[]) (En:=MR) (⟨vF 55 #[vA (Ac m d)] #[],Z⟩) (a.toNat) 0 Z Z (Ax p (Aj (Ls:=[j]) (k:=0) Z Z)) (NS (i:=6) J Z) Z<|r_R [vI a,vF 55 #[vA (Ac m d)] #[]] Z<|Ak<|fg _ (Sub.pick [j] [0] Z) ?_
    exact⟨55,_,b,λv e c h=>XH N m _ e c d h,sM,Ag Z Z⟩
   replace b:=ifn J b
   rcases Decidable.em (a=7)with K|K
   ·replace b:=ifp K b
    refine Ry (vF 56 #[vA (Ac m d)] #[]) (En:=MR) (⟨vF 56 #[vA (Ac m d)] #[],Z⟩) (a.toNat) 0 Z Z (Ax p (Aj (Ls:=[j]) (k:=0) Z Z)) (NS (i:=7) K Z) Z<|r_R [vI a,vF 56 #[vA (Ac m d)] #[]] Z<|Ak<|fg _ (Sub.pick [j] [0] Z) ?_
    exact⟨56,_,b,λv e c h=>Wo N m _ e c d h,sL,Ag Z Z⟩
   replace b:=ifn K b
   rcases Decidable.em (a=8)with L|L
   ·replace b:=ifp L b
    refine Ry (vF 57 #[vA (Ac m d)] #[]) (En:=MR) (⟨vF 57 #[vA (Ac m d)] #[],Z⟩) (a.toNat) 0 Z Z (Ax p (Aj (Ls:=[j]) (k:=0) Z Z)) (NS (i:=8) L Z) Z<|r_R [vI a,vF 57 #[vA (Ac m d)] #[]] Z<|Ak<|fg _ (Sub.pick [j] [0] Z) ?_
    exact⟨57,_,b,λv e c h=>XL N m _ e c d h,sK,Ag Z Z⟩
   replace b:=ifn L b
   rcases Decidable.em (a=9)with M|M
   ·replace b:=ifp M b
    refine Ry (vF 58 #[vA (Ac m d)] #[]) (En:=MR) (⟨vF 58 #[vA (Ac m d)] #[],Z⟩) (a.toNat) 0 Z Z (Ax p (Aj (Ls:=[j]) (k:=0) Z Z)) (NS (i:=9) M Z) Z<|r_R [vI a,vF 58 #[vA (Ac m d)] #[]] Z<|Ak<|fg _ (Sub.pick [j] [0] Z) ?_
    exact⟨58,_,b,λv e c h=>(Wq N m _ e c d h).inv Ho,sJ,Ag Z Z⟩
   replace b:=ifn M b
   rcases Decidable.em (a=10)with u|u
   ·replace b:=ifp u b
    refine Ry (vF 59 #[vA (Ac m d)] #[]) (En:=MR) (⟨vF 59 #[vA (Ac m d)] #[],Z⟩) (a.toNat) 0 Z Z (Ax p (Aj (Ls:=[j]) (k:=0) Z Z)) (NS (i:=10) u Z) Z<|r_R [vI a,vF 59 #[vA (Ac m d)] #[]] Z<|Ak<|fg _ (Sub.pick [j] [0] Z) ?_
    exact⟨59,_,b,λv e c h=>(XN N m _ e c d h).inv Ho,sI,Ag Z Z⟩
   replace b:=ifn u b
   rcases Decidable.em (a=11)with x|x
   ·replace b:=ifp x b
    refine Ry (vF 60 #[vA (Ac m d)] #[]) (En:=MR) (⟨vF 60 #[vA (Ac m d)] #[],Z⟩) (a.toNat) 0 Z Z (Ax p (Aj (Ls:=[j]) (k:=0) Z Z)) (NS (i:=11) x Z) Z<|r_R [vI a,vF 60 #[vA (Ac m d)] #[]] Z<|Ak<|fg _ (Sub.pick [j] [0] Z) ?_
    exact⟨60,_,b,λv e c h=>(Wk N m _ e c d h).inv Ho,sH,Ag Z Z⟩
   replace b:=ifn x b
   rcases Decidable.em (a=12)with y|y
   ·replace b:=ifp y b
    refine Ry (vF 61 #[vA (Ac m d)] #[]) (En:=MR) (⟨vF 61 #[vA (Ac m d)] #[],Z⟩) (a.toNat) 0 Z Z (Ax p (Aj (Ls:=[j]) (k:=0) Z Z)) (NS (i:=12) y Z) Z<|r_R [vI a,vF 61 #[vA (Ac m d)] #[]] Z<|Ak<|fg _ (Sub.pick [j] [0] Z) ?_
    exact⟨61,_,b,λv e c h=>(cJ N m _ e c d h).inv Ho,sG,Ag Z Z⟩
   replace b:=ifn y b
   rcases Decidable.em (a=13)with z|z
   ·replace b:=ifp z b
    refine Ry (vF 62 #[vA (Ac m d)] #[]) (En:=MR) (⟨vF 62 #[vA (Ac m d)] #[],Z⟩) (a.toNat) 0 Z Z (Ax p (Aj (Ls:=[j]) (k:=0) Z Z)) (NS (i:=13) z Z) Z<|r_R [vI a,vF 62 #[vA (Ac m d)] #[]] Z<|Ak<|fg _ (Sub.pick [j] [0] Z) ?_
    exact⟨62,_,b,λv e c h=>(UI N m _ e c d h).inv Ho,sF,Ag Z Z⟩
   replace b:=ifn z b
   have U:a=14:=rD P (by omega)
   refine Ry (vF 63 #[vA (Ac m d)] #[]) (En:=MR) (⟨vF 63 #[vA (Ac m d)] #[],Z⟩) (a.toNat) 0 Z Z (Ax p (Aj (Ls:=[j]) (k:=0) Z Z)) (NS (i:=14) U Z) Z<|r_R [vI a,vF 63 #[vA (Ac m d)] #[]] Z<|Ak<|fg _ (Sub.pick [j] [0] Z) ?_
   exact⟨63,_,b,λv e c h=>(XK N m _ e c d h).inv Ho,sE,Ag Z Z⟩
  clear b;rintro t l ⟨g,X,b,hX,hg,⟨T,rfl⟩,rfl⟩
  refine Ad<|r_V (vF g #[vA (Ac m d)] #[]) Z ?_
  obtain⟨f,V,b⟩:=be b
  refine gV (vT #[vI f.1,vI f.2]) (QW (bd:=[vA (Ac m d)]) (caps:=[]) Z hg Z) (λo w z_=>(hX _ V z_.view (Aa1.mono z_.ro_cell hm)))<|r_R [vT #[vI f.1,vI f.2],vI f.1,vI f.2,vI f.1,vI f.2] Z<|Ak<|Ad<|r_R [vI f.2,vB (f.2 !=0)] Z<|Ak<|BI _ Z (λC=> ?_) (λC=> ?_)
  ·replace b:=iN C b
   refine Ad<|r_R [vI a,vI f.1,vI f.2] Z<|r_W (vA #[vI a,vI f.1,vI f.2]) Z (Ar Z Z Z Z)<|r_a (109, #[vI a,vI f.1,vI f.2]) Z Z Z (λA=> ?_) (.inr Z)
   refine r_R [Value.iface 107 (vP A 0),Value.iface 107 (vP A 0)] Z<|Ak ?_
   cases b
   refine Bh (λhn=>KV (v0:=Value.iface 107 (vP A 0)) (O:=[(cd A a f.1 f.2)]) (FZ Z) (Sub.pick [(cd A a f.1 f.2),j] [0] Z) ⟨A,_,⟨Z,Z⟩,Z⟩)
  replace b:=iM C b
  refine Ab<|S _ _ ?_
  refine Ah ?_
  obtain⟨Q,b⟩:=Iz b
  refine r_X (vI (a+1)) Z (Rv Z Q.1 Q.2) Z<|r_V (vI (a+1)) Z<|Ak<|fg _ (Sub.pick [j] [0] Z) ?_
  exact⟨s+1,by omega,s,(a+1),b,Ag Z Z,Z⟩
 replace b:=iF B b
 refine AG<|Y _ _ ?_
 refine Ad<|r_V Value.nilIface Z<|Ak ?_
 cases b
 refine Bh (λhn=>KV (v0:=Value.nilIface) (O:=[]) (FZ Z) (Sub.nil _) ⟨Z,Z⟩)
def LN(_:Nat)(x:W4)(y:W4):Option ((W4)×(W4)):=some (((((x>>>32)*(y>>>32))+((((x>>>32)*(y&&&4294967295#64))+(((x&&&4294967295#64)*(y&&&4294967295#64))>>>32))>>>32))+((((((x>>>32)*(y&&&4294967295#64))+(((x&&&4294967295#64)*(y&&&4294967295#64))>>>32))&&&4294967295#64)+((x&&&4294967295#64)*(y>>>32)))>>>32)),(x*y))
theorem SH(N x y r)(b:LN N x y=some r):Gives prog 135 #[U x,U y] (vT #[U r.1,U r.2]):=by
 unfold LN at b
 refine Aq follows func135 Z 51 Z _ fz2 (λa=> ?_)
 refine AZ Z<|Ad<|rn 1 Z<|r_X (U (x&&&4294967295#64)) Z (Xb x (4294967295#64)) Z<|rz Z<|Ad<|rn 1 Z<|r_v (U (x>>>32)) Z Z (eq x 32) (WA Z Z)<|rz Z<|Ad<|rn 1 Z<|r_X (U (y&&&4294967295#64)) Z (Xb y (4294967295#64)) Z<|rz Z<|Ad<|rn 1 Z<|r_v (U (y>>>32)) Z Z (eq y 32) (WA Z Z)<|rz Z<|Ad<|rn 2 Z ?_
 refine r_X (U ((x&&&4294967295#64)*(y&&&4294967295#64))) Z (Us (x&&&4294967295#64) (y&&&4294967295#64)) Z<|rz Z<|Ad<|rn 2 Z<|r_X (U ((x>>>32)*(y&&&4294967295#64))) Z (Us (x>>>32) (y&&&4294967295#64)) Z<|rn 1 Z<|r_v (U (((x&&&4294967295#64)*(y&&&4294967295#64))>>>32)) Z Z (eq ((x&&&4294967295#64)*(y&&&4294967295#64)) 32) (WA Z Z) ?_
 refine r_X (U ((((x>>>32)*(y&&&4294967295#64))+(((x&&&4294967295#64)*(y&&&4294967295#64))>>>32)))) Z (Xc ((x>>>32)*(y&&&4294967295#64)) (((x&&&4294967295#64)*(y&&&4294967295#64))>>>32)) Z<|rz Z<|Ad<|rn 1 Z ?_
 refine r_X (U (((((x>>>32)*(y&&&4294967295#64))+(((x&&&4294967295#64)*(y&&&4294967295#64))>>>32))&&&4294967295#64))) Z (Xb ((((x>>>32)*(y&&&4294967295#64))+(((x&&&4294967295#64)*(y&&&4294967295#64))>>>32))) (4294967295#64)) Z<|rz Z<|Ad<|rn 1 Z ?_
 refine r_v (U (((((x>>>32)*(y&&&4294967295#64))+(((x&&&4294967295#64)*(y&&&4294967295#64))>>>32))>>>32))) Z Z (eq ((((x>>>32)*(y&&&4294967295#64))+(((x&&&4294967295#64)*(y&&&4294967295#64))>>>32))) 32) (WA Z Z)<|rz Z ?_
 refine GS [(0,U x),(1,U y),(6,U (x&&&4294967295#64)),(7,U (x>>>32)),(9,U (y>>>32)),(12,U (((((x>>>32)*(y&&&4294967295#64))+(((x&&&4294967295#64)*(y&&&4294967295#64))>>>32))&&&4294967295#64))),(13,U (((((x>>>32)*(y&&&4294967295#64))+(((x&&&4294967295#64)*(y&&&4294967295#64))>>>32))>>>32)))] Z (λT=> ?_)
 refine Ad<|rn 3 Z<|r_X (U ((x&&&4294967295#64)*(y>>>32))) Z (Us (x&&&4294967295#64) (y>>>32)) Z<|r_X (U ((((((x>>>32)*(y&&&4294967295#64))+(((x&&&4294967295#64)*(y&&&4294967295#64))>>>32))&&&4294967295#64)+((x&&&4294967295#64)*(y>>>32))))) Z (Xc (((((x>>>32)*(y&&&4294967295#64))+(((x&&&4294967295#64)*(y&&&4294967295#64))>>>32))&&&4294967295#64)) ((x&&&4294967295#64)*(y>>>32))) Z ?_
 refine rz Z<|Ad<|rn 2 Z<|r_X (U ((x>>>32)*(y>>>32))) Z (Us (x>>>32) (y>>>32)) Z<|rn 1 Z ?_
 refine r_X (U ((((x>>>32)*(y>>>32))+((((x>>>32)*(y&&&4294967295#64))+(((x&&&4294967295#64)*(y&&&4294967295#64))>>>32))>>>32)))) Z (Xc ((x>>>32)*(y>>>32)) (((((x>>>32)*(y&&&4294967295#64))+(((x&&&4294967295#64)*(y&&&4294967295#64))>>>32))>>>32))) Z<|rn 1 Z ?_
 refine r_v (U (((((((x>>>32)*(y&&&4294967295#64))+(((x&&&4294967295#64)*(y&&&4294967295#64))>>>32))&&&4294967295#64)+((x&&&4294967295#64)*(y>>>32)))>>>32))) Z Z (eq ((((((x>>>32)*(y&&&4294967295#64))+(((x&&&4294967295#64)*(y&&&4294967295#64))>>>32))&&&4294967295#64)+((x&&&4294967295#64)*(y>>>32)))) 32) (WA Z Z) ?_
 refine r_X (U (((((x>>>32)*(y>>>32))+((((x>>>32)*(y&&&4294967295#64))+(((x&&&4294967295#64)*(y&&&4294967295#64))>>>32))>>>32))+((((((x>>>32)*(y&&&4294967295#64))+(((x&&&4294967295#64)*(y&&&4294967295#64))>>>32))&&&4294967295#64)+((x&&&4294967295#64)*(y>>>32)))>>>32)))) Z (Xc ((((x>>>32)*(y>>>32))+((((x>>>32)*(y&&&4294967295#64))+(((x&&&4294967295#64)*(y&&&4294967295#64))>>>32))>>>32))) (((((((x>>>32)*(y&&&4294967295#64))+(((x&&&4294967295#64)*(y&&&4294967295#64))>>>32))&&&4294967295#64)+((x&&&4294967295#64)*(y>>>32)))>>>32))) Z ?_
 refine rz Z<|Ad<|rn 2 Z<|r_X (U (x*y)) Z (Us x y) Z<|rz Z ?_
 cases b
 exact aR eE2
def MV(N:Nat)(x:W4)(y:W4):Option ((W4)×(W4)):=(LN N x y).bind λa=>some (a.1,a.2)
theorem Uw(N x y r)(a:MV N x y=some r):Gives prog 76 #[U x,U y] (vT #[U r.1,U r.2]):=by
 unfold MV at a
 refine Aq follows func76 Z 30 Z _ fz2 (λb=> ?_)
 refine AZ Z<|Aa λe c=>Co Z ?_
 refine Ab<|c _ _ ?_
 refine Ad<|rn 2 Z<|kB a λf d a=>rc _ (cF pd) (SH N x y _ d)<|rz Z<|AZ Z ?_
 cases a
 exact aR eE2
def Gc  :Nat->List Int->Int->Option (List Int)
  |0,_,_=>none
  |c+1,b,a=>if a<(b.length:Int)then ck (0<=a/\a<=(b.length:Int)) (ck (0<=a/\a<=(b.length:Int)) (ck ((R64 (a+((min (a.toNat) ((b).length - (a.toNat)):Nat):Int)))) ((Gc c) (Ta b (a.toNat) (a.toNat)) ((a+((min (a.toNat) ((b).length - (a.toNat)):Nat):Int))))))else some b
def Jk(N:Nat)(x:List Int)(a:(W4)×(W4)):Option (List Int):=ck ((((a.2).toNat:Nat):Int)<=9223372036854775807) (ck (0<=(((a.2).toNat:Nat):Int)/\(((a.2).toNat:Nat):Int)<=17592186044416) (Gc N (((x).take ((List.replicate ((((a.2).toNat:Nat):Int)).toNat (0:Int))).length++((List.replicate ((((a.2).toNat:Nat):Int)).toNat (0:Int))).drop (x).length)) (((min (x).length ((List.replicate ((((a.2).toNat:Nat):Int)).toNat (0:Int))).length:Nat):Int))))
def Jl(N:Nat)(x:List Int)(a:Int):Option (List Int):=(MV N (BitVec.ofInt 64 (x.length:Int)) (BitVec.ofInt 64 a)).bind λb=>if(0#64)<b.1 then none else if(9223372036854775807#64)<b.2 then none else Jk N x b 
def JL(N:Nat)(x:List Int)(a:Int):Option (List Int):=if a<0 then none else Jl N x a 
theorem Qh(N x c r)(a:JL N x c=some r)(L C)(J:Rd BE L C x):Does prog 35 #[C,vI c] L [] (p1 (λs_=>s_) 3 BE r):=by
 unfold JL at a
 refine Al follows func35 Z 48 Z _ fz2 (λB=> ?_)
 refine AZ Z<|Cb (λtt ll=>(Jl N x c  =some r)/\Is [(0,C),(1,vI c)] [] tt ll) ?_ ?_
 ·refine AZ Z<|aD a Z (λq a=> ?_) (λq a=> ?_)
  ·refine Ah<|rn 1 Z ?_
   cases a
  refine Ab<|fg _ (Sub.of suN) ?_
  exact⟨a,Ag Z Z⟩
 clear a;rintro t l ⟨a,⟨T,rfl⟩,rfl⟩
 unfold Jl at a
 refine Ad<|rn 1 Z<|rL (Rd.shp J) Z<|r_w (U (BitVec.ofInt 64 (x.length:Int))) Z Z (ir (x.length:Int)) (λ_=>Z)<|rn 1 Z<|r_w (U (BitVec.ofInt 64 c)) Z Z (ir c) (λ_=>Z)<|kB a λg D a=>rc _ (cF ss) (Uw N (BitVec.ofInt 64 (x.length:Int)) (BitVec.ofInt 64 c) _ D)<|rz Z<|Cb (λtt ll=>(Jk N x g  =some r)/\Is [(0,C),(6,U g.2)] [] tt ll) ?_ ?_
 ·refine Aa λM i=>Ah<|rn 1 Z<|r_X (vB (decide ((0#64)<g.1))) Z (xz (0#64) g.1) Z<|rn 1 Z ?_
  rcases j:(decide ((0#64)<g.1))with _|_
  ·replace a:=iF j a
   refine rn 1 Z<|r_y Z<|r_X (vB (decide ((9223372036854775807#64)<g.2))) Z (xz (9223372036854775807#64) g.2) Z<|rz Z<|i _ _ ?_
   refine aD a Z (λs a=> ?_) (λs a=> ?_)
   ·refine Ah<|rn 1 Z ?_
    cases a
   refine Ab<|fg _ (Sub.of suN) ?_
   exact⟨a,Ag Z Z⟩
  replace a:=iD j a
  refine rz Z<|i _ _ ?_
  refine Nt Z ?_
  refine Ah<|rn 1 Z ?_
  cases a
 clear a;rintro t l ⟨a,⟨T,rfl⟩,rfl⟩
 unfold Jk at a
 refine Ad<|rn 1 Z<|kC a λE a=>r_w (vI (((g.2).toNat:Nat):Int)) Z Z (Rv Z (by omega) E) (λ_=>Z)<|kC a λF a=>cB 30<|Tx (Ls:=[]) 3 BE 0 (((g.2).toNat:Nat):Int) Z Z Z Z Z Z Z Z Z Z 17592186044416 Z F (λ_ _ _ _ _=>Iff.rfl) (λn K G=> ?_)
 refine rz Z<|Ad<|rn 2 Z<|cA 33 (p:=(pUp (λv_ U_=>v_= .int .i64 ((min (x).length ((List.replicate ((((g.2).toNat:Nat):Int)).toNat (0:Int))).length:Nat):Int)/\Sl 3 BE n ((x).take ((List.replicate ((((g.2).toNat:Nat):Int)).toNat (0:Int))).length++((List.replicate ((((g.2).toNat:Nat):Int)).toNat (0:Int))).drop (x).length) U_/\U_.map (·.1)=K.map (·.1))))<|tO (Ls:=[K]) 0 (En:=BE) (ys:=x) Z Z Z Z Z Z G (Rd.shp J) (Aw J) Z Z Z Z (λ_ _ _ _ _=>Iff.rfl) (λu H=> ?_)
 refine rz Z<|Aa λO v=>Ai<|Bs _ (Sub.pick [u] [0] Z)<|AH (λtt ll nn=> ∃(h:Nat) (e:List Int) (b:Int),(Gc h e b=some r)/\ ∃(d:List Bl),Sl 3 BE n e d/\Is [(7,n),(8,vI b)] (List.flatten [d]) tt ll/\nn=h+1) (N+1) ?_ ?_
 ·exact⟨N,((x).take ((List.replicate ((((g.2).toNat:Nat):Int)).toNat (0:Int))).length++((List.replicate ((((g.2).toNat:Nat):Int)).toNat (0:Int))).drop (x).length),((min (x).length ((List.replicate ((((g.2).toNat:Nat):Int)).toNat (0:Int))).length:Nat):Int),a,u,H,Ag Z Z,Z⟩
 clear a;rintro t l _ ⟨h,e,b,a,d,f,⟨⟨T,rfl⟩,rfl⟩,rfl⟩
 rcases h with _|h
 ·exact absurd a (by simp [Gc])
 rw [Gc] at a
 refine Aa λP w=>Ad<|rn 2 Z<|rL (Sl.shp f) Z<|rz Z<|aD a Z (λy a=> ?_) (λy a=> ?_)
 ·refine Ab<|w _ _ ?_
  refine Ai<|BB [(some 45,true)] (conG prog [(45,λ_ _ v_ L_ U_=>(pUp (λv_ U_=>v_= .int .i64 ((min (b.toNat) ((e).length - (b.toNat)):Nat):Int)/\Sl 3 BE n (Ta e (b.toNat) (b.toNat)) U_/\U_.map (·.1)=d.map (·.1))) v_ L_ U_)]) [] (by decide+kernel) (λQ=>AK)<|rn 3 Z<|kC a λk a=>r_W (GE n (b.toNat) ((e).length) 1) Z (Fc (YQ Z Z Z Z (Sl.shp f) k))<|rn 2 Z<|kC a λm a=>r_W (GE n 0 (b.toNat) 1) Z (Fc (Jb Z Z Z Z (Sl.shp f) m))<|uz (Ls:=[d]) 0 (En:=BE) (o:=b.toNat) (p:=b.toNat) Z Z Z Z Z Z f (Hp k.2) (Hp m.2) Z Z Z Z (λ_ _ _ _ _=>Iff.rfl) (λz I=> ?_)
  refine kC a λA a=>rX A Z<|rz Z<|fg _ (Sub.pick [z] [0] Z) ?_
  exact⟨h+1,by omega,h,(Ta e (b.toNat) (b.toNat)),(b+((min (b.toNat) ((e).length - (b.toNat)):Nat):Int)),a,z,I,Ag Z Z,Z⟩
 refine AG<|v _ _ ?_
 refine AZ Z ?_
 cases a
 refine Bh (λQ=>GZ (v0:=n) f (Dy (Sub.pick [d] [0] Z)) Z (FZ Z))
end Go.Proofs.YtjlomkippigejaaGreatDoor
