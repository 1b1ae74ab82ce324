import Derived.Test.YthmpbldidnmenaaGreatDoorBi
namespace Go.Proofs.YthmpbldidnmenaaGreatDoor
open Go Go.RowKit Go.Eng _root_.Go.Proofs.Tryz
set_option linter.unusedSimpArgs false
set_option linter.unusedVariables false
set_option maxRecDepth 100000
set_option maxHeartbeats 80000000
abbrev NO(b:Nat)(x0:List UInt8)(x1:Int)(x2:Int):List Bl:=[(b,195, #[vS x0,vI x1,vI x2])]
abbrev UB(b:Nat)(x0:Value):List Bl:=[(b,255, #[x0])]
abbrev NP(b:Nat)(x0:Value):List Bl:=[(b,136, #[x0])]
abbrev RA(b:Nat)(x0:List UInt8)(x1:Int):List Bl:=[(b,197, #[vS x0,vI x1])]
abbrev UA(b:Nat)(x0:Value):List Bl:=[(b,258, #[x0])]
abbrev Ma(b:Nat)(x0:List UInt8)(x1:Int)(x2:Int)(x3:Int):List Bl:=[(b,199, #[vS x0,vI x1,vI x2,vI x3])]
abbrev Uz(b:Nat)(x0:Value):List Bl:=[(b,261, #[x0])]
abbrev ag(b:Nat)(x0:Int)(x1:Int)(x2:Int):List Bl:=[(b,148, #[vI x0,vI x1,vI x2])]
def MO(N:Nat)(c:An)(b:List (Int×Int)):Option (Int×Int):=(PJ N b 4 c).bind fun a=>some (a.1,a.2)
theorem Tc(N c l' r)(a:MO N c l'=some r)(ro)(cv:Ay)(hc:Aa2 ro cv c)(l'v)(hl':Rd Ae3 ro l'v l'):Does prog 141 #[vA (Ac c cv),l'v] ro [] (pV (vT #[vI r.1,vI r.2])):=by
 unfold MO at a
 refine Aj follows func141 rfl 11 rfl _ fz2 (fun b=> ?_)
 refine Ad<|rA rfl fun e=>rz rfl<|Ad<|rn 1 rfl<|r_W (vF 206 #[] #[vP e 0]) rfl (HD rfl)<|kB a fun f d a=>gV _ (cF kK) (fun o w z_=>ay N l' 4 c _ d z_.view l'v ((Au hl') o w z_) e cv (Aa2.mono z_.ro_cell hc) (Cw 0 rfl rfl o w z_))<|rz rfl ?_
 cases a
 exact aR eV2
def Nw(N:Nat)(c:An):Option (Int×Int):=(MO N c c.2.2.2.2.2.2.2.2.2.2.1).bind fun a=>some (a.1,a.2)
theorem WB(N c r)(a:Nw N c=some r)(ro)(cv:Ay)(hc:Aa2 ro cv c):Does prog 87 #[vA (Ac c cv)] ro [] (pV (vT #[vI r.1,vI r.2])):=by
 unfold Nw at a
 refine Aj follows func87 rfl 11 rfl _ fz1 (fun b=> ?_)
 refine Ad<|rA rfl fun e=>rz rfl<|Ad<|rm 4 [0,0] rfl<|kB a fun f d a=>gV _ (cF bH) (fun o w z_=>Tc N c c.2.2.2.2.2.2.2.2.2.2.1 _ d z_.view cv (Aa2.mono z_.ro_cell hc) cv.2.2.2.2.2.2.2.2.2.1 ((Au hc.2.2.2.2.2.2.2.2.2.1) o w z_))<|rz rfl ?_
 cases a
 exact aR eV2
def Mo(N:Nat)(c:An):Option (Int×Int):=(MO N c c.2.2.2.2.2.2.2.2.2.2.2.1).bind fun a=>some (a.1,a.2)
theorem UV(N c r)(a:Mo N c=some r)(ro)(cv:Ay)(hc:Aa2 ro cv c):Does prog 88 #[vA (Ac c cv)] ro [] (pV (vT #[vI r.1,vI r.2])):=by
 unfold Mo at a
 refine Aj follows func88 rfl 11 rfl _ fz1 (fun b=> ?_)
 refine Ad<|rA rfl fun e=>rz rfl<|Ad<|rm 4 [0,0] rfl<|kB a fun f d a=>gV _ (cF bH) (fun o w z_=>Tc N c c.2.2.2.2.2.2.2.2.2.2.2.1 _ d z_.view cv (Aa2.mono z_.ro_cell hc) cv.2.2.2.2.2.2.2.2.2.2.1 ((Au hc.2.2.2.2.2.2.2.2.2.2.1) o w z_))<|rz rfl ?_
 cases a
 exact aR eV2
def QX(_:Nat)(a:List UInt8)(_:Int)(_:Int):Option (List UInt8):=some a
theorem cN(N x_0 x_1 x_2 r)(b:QX N x_0 x_1 x_2=some r):Gives prog 143 #[vA #[vS x_0,vI x_1,vI x_2]] (vS r):=by
 unfold QX at b
 refine As follows func143 rfl 5 rfl _ fz1 (fun a=> ?_)
 refine Ad<|rA rfl fun c=>rz rfl<|AY [0] rfl ?_
 cases b
 exact aR eE1
def JP(N:Nat)(b:List (List UInt8×Int×Int)):Nat→List (List UInt8)→Int→Option (List (List UInt8))
  |0,_,_=>none
  |e+1,c,a=>if a<(b.length:Int)then ck (0≤a∧a<(b.length:Int)) ((QX N ((b[a.toNat]!).1) ((b[a.toNat]!).2.1) ((b[a.toNat]!).2.2)).bind fun d=>ck (0≤a∧a<(c.length:Int)) (ck (R64 (a+1)) ((JP N b e) ((c).set (a.toNat) d) (a+1))))else some c
def PH(N:Nat)(a:List (List UInt8×Int×Int)):Option (List (List UInt8)):=ck (0≤(a.length:Int)∧(a.length:Int)≤8796093022208) (JP N a N ((List.replicate ((a.length:Int)).toNat ([]))) 0)
theorem aw(N l' r)(b:PH N l'=some r)(ro l'v)(hl':Rd Ae8 ro l'v l'):Does prog 208 #[l'v,vF 143 #[] #[]] ro [] (p1 (fun s_=>s_) 9 Aa4 r):=by
 unfold PH at b
 refine Aj follows func208 rfl 26 rfl _ fz2 (fun s=> ?_)
 refine AZ rfl<|Ad<|rn 1 rfl<|rL (Rd.shp hl') rfl<|kC b fun u b=>cB 10<|Sq (Ls:=[]) 9 Aa4 ([]) (l'.length:Int) rfl rfl rfl rfl rfl rfl rfl rfl rfl rfl 8796093022208 rfl u (fun _ _ _ _ _=>Iff.rfl) (fun v y z=> ?_)
 refine rz rfl<|Aa fun C w=>Ad<|rn 1 rfl<|rL (Rd.shp hl') rfl<|rz rfl<|Ah<|Bo _ (Sub.pick [y] [0] rfl)<|AC (fun tt ll nn=> ∃(h:Nat) (d:List (List UInt8)) (a:Int),(JP N l' h d a=some r)∧ ∃(c:List Bl),Sl 9 Aa4 v d c∧Is [(1,vF 143 #[] #[]),(5,v),(11,l'v),(12,vI (l'.length:Int)),(13,vI a)] (List.flatten [c]) tt ll∧nn=h+1) (N+1) ?_ ?_
 ·exact⟨N,(List.replicate ((l'.length:Int)).toNat ([])),0,b,y,z,Af rfl rfl,rfl⟩
 clear b;rintro t l _ ⟨h,d,a,b,c,e,⟨⟨T,rfl⟩,rfl⟩,rfl⟩
 rcases h with _|h
 ·exact absurd b (by simp [JP])
 rw [JP] at b
 refine AZ rfl<|Aa fun A i=>aD b rfl (fun j b=> ?_) (fun j b=> ?_)
 ·refine Ab<|i _ _ ?_
  refine Aa fun B k=>Ah<|Ad<|rn 1 rfl<|kC b fun f b=>rI (Rd.shp hl') f rfl<|rE (Au hl') f 0 rfl<|rA rfl fun m=>ry [0] rfl<|Ag<|rm 4 [0] rfl<|kB b fun n o b=>rc _ (BG (caps:=[]) rfl lK rfl) (cN N ((l'[a.toNat]!).1) ((l'[a.toNat]!).2.1) ((l'[a.toNat]!).2.2) _ o)<|kC b fun g b=>rI (Sl.shp e) g rfl<|QS (Ls:=[(NO m ((l'[a.toNat]!).1) ((l'[a.toNat]!).2.1) ((l'[a.toNat]!).2.2)),c]) 1 (En:=Aa4) (d[a.toNat]!) n (a.toNat) 0 rfl rfl rfl e (De g) rfl rfl rfl (HN rfl) rfl (fun p x=> ?_)
  refine Ak<|k _ _ ?_
  refine Ag<|kC b fun q b=>rX q rfl<|rz rfl<|fg _ (Sub.pick [(NO m ((l'[a.toNat]!).1) ((l'[a.toNat]!).2.1) ((l'[a.toNat]!).2.2)),p] [1] rfl) ?_
  exact⟨h+1,by omega,h,(d).set (a.toNat) n,(a+1),b,p,x,Af rfl rfl,rfl⟩
 refine AD<|w _ _ ?_
 refine AZ rfl ?_
 cases b
 refine Bi (fun D=>Ha (v0:=v) e (EK (Sub.pick [c] [0] rfl)) rfl (Gj rfl))
def Ks(N:Nat)(n:Int):Option Int:=(AE N n 1 8).bind fun a=>(Ao N a 7).bind fun b=>some b
theorem QW(N n r)(a:Ks N n=some r):Gives prog 145 #[vI n] (vI r):=by
 unfold Ks at a
 refine As follows func145 rfl 6 rfl _ fz1 (fun b=> ?_)
 refine AZ rfl<|Ad<|rn 1 rfl<|kB a fun e c a=>rc _ (cF Dg) (AO N n 1 8 _ c)<|kB a fun f d a=>rc _ (cF Bg) (Ax N e 7 _ d)<|rz rfl ?_
 cases a
 exact aR eE1
def OB(N:Nat)(_:List UInt8)(c:Int)(b:Int):Option Int:=(IQ N c).bind fun d=>(Ks N b).bind fun e=>(AP N ([d,e])).bind fun a=>some a
theorem cM(N x_0 x_1 x_2 r)(b:OB N x_0 x_1 x_2=some r):Gives prog 144 #[vA #[vS x_0,vI x_1,vI x_2]] (vI r):=by
 unfold OB at b
 refine As follows func144 rfl 11 rfl _ fz1 (fun h=> ?_)
 refine Ad<|rA rfl fun n=>rz rfl<|Aa fun t i=>Bw [(some 9,false),(some 10,false)] (conG prog [(10,fun _ _ v_ L_ U_=> ∀e,IQ N x_1=some e→ ∀f,Ks N x_2=some f→ ∀g,AP N ([e,f])=some g→(pV (vI g)) v_ L_ U_)]) [] (by decide+kernel) (fun u=>AH)<|rm 2 [0] rfl<|kB b fun j c b=>rc _ (cF VJ) (Ow N x_1 _ c)<|rm 2 [0] rfl<|kB b fun l d b=>rc _ (cF VH) (QW N x_2 _ d)<|IW (Ls:=[(NO n x_0 x_1 x_2)]) 46 BJ [j,l] [vI j,vI l] [vI 0,vI 0] rfl rfl rfl rfl rfl rfl rfl (by kernel_rfl) (by kernel_rfl) rfl rfl rfl (fun p q m=> ?_)
 refine kB b fun s a b=>rg _ (cF EG) (fun o w z_=>BS N ([j,l]) _ a z_.view p ((Av m (Ai (Ls:=[(NO n x_0 x_1 x_2),q]) (k:=1) rfl rfl)) o w z_)) (fun _ _ v_ L_ U_=>⟨fun h_=>h_ _ c _ d _ a,fun h_=>by intro _ e_;cases q1 (e_.symm.trans c);intro _ e_;cases q1 (e_.symm.trans d);intro _ e_;cases q1 (e_.symm.trans a);exact h_⟩) ?_
 refine rz rfl<|i _ _ ?_
 cases b
 exact aR eE1
def Ng(N:Nat)(i:Int)(d:List UInt8)(f:Int)(c:Int)(a:List (List UInt8)):Option Int:=ck (0≤i∧i<(a.length:Int)) ((FS N (a[i.toNat]!)).bind fun j=>(Ao N j 4).bind fun g=>(Bf N a i).bind fun h=>(OB N d f c).bind fun b=>(AP N ([g,h,b])).bind fun e=>some e)
theorem Wk(N i x_0 x_1 x_2 b r)(c:Ng N i x_0 x_1 x_2 b=some r)(ro)(l:Nat)(a)(e:Rd Aa4 ro a b)(f:Blk ro l [a])(m:Nat)(n:Blk ro m [vF 144 #[] #[]]):Does prog 210 #[vI i,vA #[vS x_0,vI x_1,vI x_2],vP l 0,vP m 0] ro [] (pV (vI r)):=by
 unfold Ng at c
 refine Aj follows func210 rfl 21 rfl _ fz4 (fun z=> ?_)
 refine Ad<|rA rfl fun G=>rz rfl<|Aa fun J A=>Bw [(some 15,false),(some 19,false),(some 20,false)] (conG prog [(15,cV (Bf N b i) fun j=>vI j),(20,fun _ _ v_ L_ U_=> ∀j,FS N (b[i.toNat]!)=some j→ ∀t,Ao N j 4=some t→ ∀u,Bf N b i=some u→ ∀v,OB N x_0 x_1 x_2=some v→ ∀x,AP N ([t,u,v])=some x→(pV (vI x)) v_ L_ U_)]) [] (by decide+kernel) (fun K=>AH)<|GX a (vs:=[a]) (o:=0) rfl rfl (AQ f) rfl<|rn 1 rfl<|kC c fun y c=>rI (Rd.shp e) y rfl<|rE (Au e) y 0 rfl<|kB c fun H p c=>rc _ (cF ME) (Kr N (b[i.toNat]!) _ p)<|kB c fun B q c=>rc _ (cF Bg) (Ax N H 4 _ q)<|GX a (vs:=[a]) (o:=0) rfl rfl (AQ f) rfl<|rn 1 rfl<|kB c fun C d c=>rg _ (cF KU) (fun o w z_=>Hp N b i _ d z_.view a (z_.r e)) (GB d)<|GX (vF 144 #[] #[]) (vs:=[vF 144 #[] #[]]) (o:=0) rfl rfl (AQ n) rfl<|rm 1 [0] rfl<|kB c fun s g c=>rc _ (BG (caps:=[]) rfl lJ rfl) (cM N x_0 x_1 x_2 _ g) ?_
 refine IW (Ls:=[(NO G x_0 x_1 x_2)]) 46 BJ [B,C,s] [vI B,vI C,vI s] [vI 0,vI 0,vI 0] rfl rfl rfl rfl rfl rfl rfl (by kernel_rfl) (by kernel_rfl) rfl rfl rfl (fun D E F=> ?_)
 refine kB c fun I h c=>rg _ (cF EG) (fun o w z_=>BS N ([B,C,s]) _ h z_.view D ((Av F (Ai (Ls:=[(NO G x_0 x_1 x_2),E]) (k:=1) rfl rfl)) o w z_)) (fun _ _ v_ L_ U_=>⟨fun h_=>h_ _ p _ q _ d _ g _ h,fun h_=>by intro _ e_;cases q1 (e_.symm.trans p);intro _ e_;cases q1 (e_.symm.trans q);intro _ e_;cases q1 (e_.symm.trans d);intro _ e_;cases q1 (e_.symm.trans g);intro _ e_;cases q1 (e_.symm.trans h);exact h_⟩) ?_
 refine rz rfl<|A _ _ ?_
 cases c
 exact aR eV1
def JS(N:Nat)(c:List (List UInt8×Int×Int))(b:List (List UInt8)):Nat→Int→Option (Int×Int)
  |0,_=>none
  |e+1,a=>if a<(c.length:Int)then ck (0≤a∧a<(c.length:Int)) ((Ng N a ((c[a.toNat]!).1) ((c[a.toNat]!).2.1) ((c[a.toNat]!).2.2) b).bind fun d=>if(d:Int)≠0 then some (a,d)else ck (R64 (a+1)) ((JS N c b e) (a+1)))else some (0,0)
def PK(N:Nat)(c:List (List UInt8×Int×Int))(b:Int)(a:List (List UInt8)):Option (Int×Int):=if(c.length:Int)>b then some (0,2)else JS N c a N 0
theorem az(N l' most d r)(c:PK N l' most d=some r)(ro l'v)(hl':Rd Ae8 ro l'v l')(a:Nat)(e)(i:Rd Aa4 ro e d)(g:Blk ro a [e])(b:Nat)(h:Blk ro b [vF 144 #[] #[]]):Does prog 209 #[l'v,vI most,vF 210 #[] #[vP a 0,vP b 0]] ro [] (pV (vT #[vI r.1,vI r.2])):=by
 unfold PK at c
 refine Aj follows func209 rfl 31 rfl _ fz3 (fun v=> ?_)
 refine AZ rfl<|Aa fun E x=>Ad<|rn 1 rfl<|rL (Rd.shp hl') rfl<|rz rfl<|aD c rfl (fun y c=> ?_) (fun y c=> ?_)
 ·refine AZ rfl ?_
  cases c
  exact aR eV2
 refine Ab<|x _ _ ?_
 refine Aa fun F z=>Ad<|rn 1 rfl<|rL (Rd.shp hl') rfl<|rz rfl<|Ah<|AC (fun tt ll nn=> ∃(k:Nat) (f:Int),(JS N l' d k f=some r)∧Is [(2,vF 210 #[] #[vP a 0,vP b 0]),(15,l'v),(16,vI (l'.length:Int)),(17,vI f)] [] tt ll∧nn=k+1) (N+1) ?_ ?_
 ·exact⟨N,0,c,Af rfl rfl,rfl⟩
 clear c;rintro t l _ ⟨k,f,c,⟨⟨T,rfl⟩,rfl⟩,rfl⟩
 rcases k with _|k
 ·exact absurd c (by simp [JS])
 rw [JS] at c
 refine AZ rfl<|Aa fun A m=>aD c rfl (fun n c=> ?_) (fun n c=> ?_)
 ·refine Ab<|m _ _ ?_
  refine Aa fun B p=>Ah<|Ad<|rn 1 rfl<|kC c fun j c=>rI (Rd.shp hl') j rfl<|rE (Au hl') j 0 rfl<|rA rfl fun C=>ry [0] rfl<|Ad<|rm 3 [0] rfl<|kB c fun D q c=>gV _ (BG (caps:=[vP a 0,vP b 0]) rfl kF rfl) (fun o w z_=>Wk N f ((l'[f.toNat]!).1) ((l'[f.toNat]!).2.1) ((l'[f.toNat]!).2.2) d _ q z_.view a e (z_.r i) (AQ g o w z_) b (AQ h o w z_))<|rz rfl<|AZ rfl<|aN c rfl (fun s c=> ?_) (fun s c=> ?_)
  ·refine AZ rfl ?_
   cases c
   exact aR eV2
  refine Ab<|p _ _ ?_
  refine Ag<|kC c fun u c=>rX u rfl<|rz rfl<|fg _ (Sub.of (suC _ suN)) ?_
  exact⟨k+1,by omega,k,(f+1),c,Af rfl rfl,rfl⟩
 refine AD<|z _ _ ?_
 refine AZ rfl ?_
 cases c
 exact aR eV2
def PG(N:Nat)(c:List (List UInt8×Int×Int))(b:Int):Option (Int×Int):=(PH N c).bind fun d=>(PK N c b d).bind fun a=>some (a.1,a.2)
theorem au(N l' most r)(a:PG N l' most=some r)(ro l'v)(hl':Rd Ae8 ro l'v l'):Does prog 142 #[l'v,vI most,vF 143 #[] #[],vF 144 #[] #[]] ro [] (pV (vT #[vI r.1,vI r.2])):=by
 unfold PG at a
 refine Aj follows func142 rfl 20 rfl _ fz4 (fun d=> ?_)
 refine Ad<|rA rfl fun b=>rz rfl<|Ad<|rn 2 rfl<|kB a fun j g a=>gS (Ls:=[(UB b (vF 144 #[] #[]))]) (cF kH) (fun o w z_=>aw N l' _ g z_.view l'v ((Au hl') o w z_)) (fun e i h=> ?_)
 refine rA rfl fun f=>r_s (List.flatten [(NP f e),(UB b (vF 144 #[] #[])),i]) 0 _ _ _ _ _ (#[e]) rfl rfl rfl (FM rfl (Sl.shp h)) (.ofS rfl rfl (Ae (Shp.one (Sl.shp h)) Bt)) rfl rfl<|Ak<|Ad<|rn 2 rfl<|r_W (vF 210 #[] #[vP f 0,vP b 0]) rfl (HD rfl)<|kB a fun l c a=>gV _ (cF kG) (fun o w z_=>az N l' most j _ c z_.view l'v ((Au hl') o w z_) f e ((Av h (Ai (Ls:=[(NP f e),(UB b (vF 144 #[] #[])),i]) (k:=2) rfl rfl)) o w z_) (Cw 0 rfl rfl o w z_) b (Cw 1 rfl rfl o w z_))<|rz rfl ?_
 cases a
 exact aR eV2
def PN(N:Nat)(c:An):Option (Int×Int):=(PG N c.2.2.2.2.2.2.2.2.2.2.2.2.1 8).bind fun a=>some (a.1,a.2)
theorem aF(N c r)(a:PN N c=some r)(ro)(cv:Ay)(hc:Aa2 ro cv c):Does prog 89 #[vA (Ac c cv)] ro [] (pV (vT #[vI r.1,vI r.2])):=by
 unfold PN at a
 refine Aj follows func89 rfl 10 rfl _ fz1 (fun b=> ?_)
 refine Ad<|rA rfl fun e=>rz rfl<|Ad<|rm 3 [0] rfl<|kB a fun f d a=>gV _ (cF lL) (fun o w z_=>au N c.2.2.2.2.2.2.2.2.2.2.2.2.1 8 _ d z_.view cv.2.2.2.2.2.2.2.2.2.2.2.1 ((Au hc.2.2.2.2.2.2.2.2.2.2.2.1) o w z_))<|rz rfl ?_
 cases a
 exact aR eV2
def Mt(_:Nat)(a:List UInt8)(_:Int):Option (List UInt8):=some a
theorem Vd(N x_0 x_1 r)(b:Mt N x_0 x_1=some r):Gives prog 147 #[vA #[vS x_0,vI x_1]] (vS r):=by
 unfold Mt at b
 refine As follows func147 rfl 5 rfl _ fz1 (fun a=> ?_)
 refine Ad<|rA rfl fun c=>rz rfl<|AY [0] rfl ?_
 cases b
 exact aR eE1
def Hy(N:Nat)(c:List (List UInt8×Int)):Nat→List (List UInt8)→Int→Option (List (List UInt8))
  |0,_,_=>none
  |e+1,b,a=>if a<(c.length:Int)then ck (0≤a∧a<(c.length:Int)) ((Mt N ((c[a.toNat]!).1) ((c[a.toNat]!).2)).bind fun d=>ck (0≤a∧a<(b.length:Int)) (ck (R64 (a+1)) ((Hy N c e) ((b).set (a.toNat) d) (a+1))))else some b
def Le(N:Nat)(a:List (List UInt8×Int)):Option (List (List UInt8)):=ck (0≤(a.length:Int)∧(a.length:Int)≤8796093022208) (Hy N a N ((List.replicate ((a.length:Int)).toNat ([]))) 0)
theorem Tr(N l' r)(b:Le N l'=some r)(ro l'v)(hl':Rd Ae9 ro l'v l'):Does prog 211 #[l'v,vF 147 #[] #[]] ro [] (p1 (fun s_=>s_) 9 Aa4 r):=by
 unfold Le at b
 refine Aj follows func211 rfl 26 rfl _ fz2 (fun s=> ?_)
 refine AZ rfl<|Ad<|rn 1 rfl<|rL (Rd.shp hl') rfl<|kC b fun u b=>cB 10<|Sq (Ls:=[]) 9 Aa4 ([]) (l'.length:Int) rfl rfl rfl rfl rfl rfl rfl rfl rfl rfl 8796093022208 rfl u (fun _ _ _ _ _=>Iff.rfl) (fun v y z=> ?_)
 refine rz rfl<|Aa fun C w=>Ad<|rn 1 rfl<|rL (Rd.shp hl') rfl<|rz rfl<|Ah<|Bo _ (Sub.pick [y] [0] rfl)<|AC (fun tt ll nn=> ∃(h:Nat) (d:List (List UInt8)) (a:Int),(Hy N l' h d a=some r)∧ ∃(c:List Bl),Sl 9 Aa4 v d c∧Is [(1,vF 147 #[] #[]),(5,v),(11,l'v),(12,vI (l'.length:Int)),(13,vI a)] (List.flatten [c]) tt ll∧nn=h+1) (N+1) ?_ ?_
 ·exact⟨N,(List.replicate ((l'.length:Int)).toNat ([])),0,b,y,z,Af rfl rfl,rfl⟩
 clear b;rintro t l _ ⟨h,d,a,b,c,e,⟨⟨T,rfl⟩,rfl⟩,rfl⟩
 rcases h with _|h
 ·exact absurd b (by simp [Hy])
 rw [Hy] at b
 refine AZ rfl<|Aa fun A i=>aD b rfl (fun j b=> ?_) (fun j b=> ?_)
 ·refine Ab<|i _ _ ?_
  refine Aa fun B k=>Ah<|Ad<|rn 1 rfl<|kC b fun f b=>rI (Rd.shp hl') f rfl<|rE (Au hl') f 0 rfl<|rA rfl fun m=>ry [0] rfl<|Ag<|rm 4 [0] rfl<|kB b fun n o b=>rc _ (BG (caps:=[]) rfl lH rfl) (Vd N ((l'[a.toNat]!).1) ((l'[a.toNat]!).2) _ o)<|kC b fun g b=>rI (Sl.shp e) g rfl<|QS (Ls:=[(RA m ((l'[a.toNat]!).1) ((l'[a.toNat]!).2)),c]) 1 (En:=Aa4) (d[a.toNat]!) n (a.toNat) 0 rfl rfl rfl e (De g) rfl rfl rfl (HN rfl) rfl (fun p x=> ?_)
  refine Ak<|k _ _ ?_
  refine Ag<|kC b fun q b=>rX q rfl<|rz rfl<|fg _ (Sub.pick [(RA m ((l'[a.toNat]!).1) ((l'[a.toNat]!).2)),p] [1] rfl) ?_
  exact⟨h+1,by omega,h,(d).set (a.toNat) n,(a+1),b,p,x,Af rfl rfl,rfl⟩
 refine AD<|w _ _ ?_
 refine AZ rfl ?_
 cases b
 refine Bi (fun D=>Ha (v0:=v) e (EK (Sub.pick [c] [0] rfl)) rfl (Gj rfl))
def JX(N:Nat)(_:List UInt8)(a:Int):Option Int:=(Ks N a).bind fun b=>some b
theorem Vc(N x_0 x_1 r)(a:JX N x_0 x_1=some r):Gives prog 148 #[vA #[vS x_0,vI x_1]] (vI r):=by
 unfold JX at a
 refine As follows func148 rfl 6 rfl _ fz1 (fun b=> ?_)
 refine Ad<|rA rfl fun d=>rz rfl<|Ad<|rm 2 [0] rfl<|kB a fun e c a=>rc _ (cF VH) (QW N x_1 _ c)<|rz rfl ?_
 cases a
 exact aR eE1
def JO(N:Nat)(i:Int)(c:List UInt8)(e:Int)(a:List (List UInt8)):Option Int:=ck (0≤i∧i<(a.length:Int)) ((FS N (a[i.toNat]!)).bind fun h=>(Ao N h 4).bind fun f=>(Bf N a i).bind fun g=>(JX N c e).bind fun b=>(AP N ([f,g,b])).bind fun d=>some d)
theorem RI(N i x_0 x_1 b r)(c:JO N i x_0 x_1 b=some r)(ro)(l:Nat)(a)(e:Rd Aa4 ro a b)(f:Blk ro l [a])(m:Nat)(n:Blk ro m [vF 148 #[] #[]]):Does prog 213 #[vI i,vA #[vS x_0,vI x_1],vP l 0,vP m 0] ro [] (pV (vI r)):=by
 unfold JO at c
 refine Aj follows func213 rfl 21 rfl _ fz4 (fun z=> ?_)
 refine Ad<|rA rfl fun G=>rz rfl<|Aa fun J A=>Bw [(some 15,false),(some 19,false),(some 20,false)] (conG prog [(15,cV (Bf N b i) fun j=>vI j),(20,fun _ _ v_ L_ U_=> ∀j,FS N (b[i.toNat]!)=some j→ ∀t,Ao N j 4=some t→ ∀u,Bf N b i=some u→ ∀v,JX N x_0 x_1=some v→ ∀x,AP N ([t,u,v])=some x→(pV (vI x)) v_ L_ U_)]) [] (by decide+kernel) (fun K=>AH)<|GX a (vs:=[a]) (o:=0) rfl rfl (AQ f) rfl<|rn 1 rfl<|kC c fun y c=>rI (Rd.shp e) y rfl<|rE (Au e) y 0 rfl<|kB c fun H p c=>rc _ (cF ME) (Kr N (b[i.toNat]!) _ p)<|kB c fun B q c=>rc _ (cF Bg) (Ax N H 4 _ q)<|GX a (vs:=[a]) (o:=0) rfl rfl (AQ f) rfl<|rn 1 rfl<|kB c fun C d c=>rg _ (cF KU) (fun o w z_=>Hp N b i _ d z_.view a (z_.r e)) (GB d)<|GX (vF 148 #[] #[]) (vs:=[vF 148 #[] #[]]) (o:=0) rfl rfl (AQ n) rfl<|rm 1 [0] rfl<|kB c fun s g c=>rc _ (BG (caps:=[]) rfl lG rfl) (Vc N x_0 x_1 _ g) ?_
 refine IW (Ls:=[(RA G x_0 x_1)]) 46 BJ [B,C,s] [vI B,vI C,vI s] [vI 0,vI 0,vI 0] rfl rfl rfl rfl rfl rfl rfl (by kernel_rfl) (by kernel_rfl) rfl rfl rfl (fun D E F=> ?_)
 refine kB c fun I h c=>rg _ (cF EG) (fun o w z_=>BS N ([B,C,s]) _ h z_.view D ((Av F (Ai (Ls:=[(RA G x_0 x_1),E]) (k:=1) rfl rfl)) o w z_)) (fun _ _ v_ L_ U_=>⟨fun h_=>h_ _ p _ q _ d _ g _ h,fun h_=>by intro _ e_;cases q1 (e_.symm.trans p);intro _ e_;cases q1 (e_.symm.trans q);intro _ e_;cases q1 (e_.symm.trans d);intro _ e_;cases q1 (e_.symm.trans g);intro _ e_;cases q1 (e_.symm.trans h);exact h_⟩) ?_
 refine rz rfl<|A _ _ ?_
 cases c
 exact aR eV1
def Hz(N:Nat)(c:List (List UInt8×Int))(b:List (List UInt8)):Nat→Int→Option (Int×Int)
  |0,_=>none
  |e+1,a=>if a<(c.length:Int)then ck (0≤a∧a<(c.length:Int)) ((JO N a ((c[a.toNat]!).1) ((c[a.toNat]!).2) b).bind fun d=>if(d:Int)≠0 then some (a,d)else ck (R64 (a+1)) ((Hz N c b e) (a+1)))else some (0,0)
def Lf(N:Nat)(c:List (List UInt8×Int))(b:Int)(a:List (List UInt8)):Option (Int×Int):=if(c.length:Int)>b then some (0,2)else Hz N c a N 0
theorem Ts(N l' most d r)(c:Lf N l' most d=some r)(ro l'v)(hl':Rd Ae9 ro l'v l')(a:Nat)(e)(i:Rd Aa4 ro e d)(g:Blk ro a [e])(b:Nat)(h:Blk ro b [vF 148 #[] #[]]):Does prog 212 #[l'v,vI most,vF 213 #[] #[vP a 0,vP b 0]] ro [] (pV (vT #[vI r.1,vI r.2])):=by
 unfold Lf at c
 refine Aj follows func212 rfl 31 rfl _ fz3 (fun v=> ?_)
 refine AZ rfl<|Aa fun E x=>Ad<|rn 1 rfl<|rL (Rd.shp hl') rfl<|rz rfl<|aD c rfl (fun y c=> ?_) (fun y c=> ?_)
 ·refine AZ rfl ?_
  cases c
  exact aR eV2
 refine Ab<|x _ _ ?_
 refine Aa fun F z=>Ad<|rn 1 rfl<|rL (Rd.shp hl') rfl<|rz rfl<|Ah<|AC (fun tt ll nn=> ∃(k:Nat) (f:Int),(Hz N l' d k f=some r)∧Is [(2,vF 213 #[] #[vP a 0,vP b 0]),(15,l'v),(16,vI (l'.length:Int)),(17,vI f)] [] tt ll∧nn=k+1) (N+1) ?_ ?_
 ·exact⟨N,0,c,Af rfl rfl,rfl⟩
 clear c;rintro t l _ ⟨k,f,c,⟨⟨T,rfl⟩,rfl⟩,rfl⟩
 rcases k with _|k
 ·exact absurd c (by simp [Hz])
 rw [Hz] at c
 refine AZ rfl<|Aa fun A m=>aD c rfl (fun n c=> ?_) (fun n c=> ?_)
 ·refine Ab<|m _ _ ?_
  refine Aa fun B p=>Ah<|Ad<|rn 1 rfl<|kC c fun j c=>rI (Rd.shp hl') j rfl<|rE (Au hl') j 0 rfl<|rA rfl fun C=>ry [0] rfl<|Ad<|rm 3 [0] rfl<|kB c fun D q c=>gV _ (BG (caps:=[vP a 0,vP b 0]) rfl kA rfl) (fun o w z_=>RI N f ((l'[f.toNat]!).1) ((l'[f.toNat]!).2) d _ q z_.view a e (z_.r i) (AQ g o w z_) b (AQ h o w z_))<|rz rfl<|AZ rfl<|aN c rfl (fun s c=> ?_) (fun s c=> ?_)
  ·refine AZ rfl ?_
   cases c
   exact aR eV2
  refine Ab<|p _ _ ?_
  refine Ag<|kC c fun u c=>rX u rfl<|rz rfl<|fg _ (Sub.of (suC _ suN)) ?_
  exact⟨k+1,by omega,k,(f+1),c,Af rfl rfl,rfl⟩
 refine AD<|z _ _ ?_
 refine AZ rfl ?_
 cases c
 exact aR eV2
def Ld(N:Nat)(c:List (List UInt8×Int))(b:Int):Option (Int×Int):=(Le N c).bind fun d=>(Lf N c b d).bind fun a=>some (a.1,a.2)
theorem Tq(N l' most r)(a:Ld N l' most=some r)(ro l'v)(hl':Rd Ae9 ro l'v l'):Does prog 146 #[l'v,vI most,vF 147 #[] #[],vF 148 #[] #[]] ro [] (pV (vT #[vI r.1,vI r.2])):=by
 unfold Ld at a
 refine Aj follows func146 rfl 20 rfl _ fz4 (fun d=> ?_)
 refine Ad<|rA rfl fun b=>rz rfl<|Ad<|rn 2 rfl<|kB a fun j g a=>gS (Ls:=[(UA b (vF 148 #[] #[]))]) (cF kE) (fun o w z_=>Tr N l' _ g z_.view l'v ((Au hl') o w z_)) (fun e i h=> ?_)
 refine rA rfl fun f=>r_s (List.flatten [(NP f e),(UA b (vF 148 #[] #[])),i]) 0 _ _ _ _ _ (#[e]) rfl rfl rfl (FM rfl (Sl.shp h)) (.ofS rfl rfl (Ae (Shp.one (Sl.shp h)) Bt)) rfl rfl<|Ak<|Ad<|rn 2 rfl<|r_W (vF 213 #[] #[vP f 0,vP b 0]) rfl (HD rfl)<|kB a fun l c a=>gV _ (cF kD) (fun o w z_=>Ts N l' most j _ c z_.view l'v ((Au hl') o w z_) f e ((Av h (Ai (Ls:=[(NP f e),(UA b (vF 148 #[] #[])),i]) (k:=2) rfl rfl)) o w z_) (Cw 0 rfl rfl o w z_) b (Cw 1 rfl rfl o w z_))<|rz rfl ?_
 cases a
 exact aR eV2
def Li(N:Nat)(c:An):Option (Int×Int):=(Ld N c.2.2.2.2.2.2.2.2.2.2.2.2.2.1 8).bind fun a=>some (a.1,a.2)
theorem Tx(N c r)(a:Li N c=some r)(ro)(cv:Ay)(hc:Aa2 ro cv c):Does prog 90 #[vA (Ac c cv)] ro [] (pV (vT #[vI r.1,vI r.2])):=by
 unfold Li at a
 refine Aj follows func90 rfl 10 rfl _ fz1 (fun b=> ?_)
 refine Ad<|rA rfl fun e=>rz rfl<|Ad<|rm 3 [0] rfl<|kB a fun f d a=>gV _ (cF lI) (fun o w z_=>Tq N c.2.2.2.2.2.2.2.2.2.2.2.2.2.1 8 _ d z_.view cv.2.2.2.2.2.2.2.2.2.2.2.2.1 ((Au hc.2.2.2.2.2.2.2.2.2.2.2.2.1) o w z_))<|rz rfl ?_
 cases a
 exact aR eV2
def OD(_:Nat)(a:List UInt8)(_:Int)(_:Int)(_:Int):Option (List UInt8):=some a
theorem YH(N x_0 x_1 x_2 x_3 r)(b:OD N x_0 x_1 x_2 x_3=some r):Gives prog 150 #[vA #[vS x_0,vI x_1,vI x_2,vI x_3]] (vS r):=by
 unfold OD at b
 refine As follows func150 rfl 5 rfl _ fz1 (fun a=> ?_)
 refine Ad<|rA rfl fun c=>rz rfl<|AY [0] rfl ?_
 cases b
 exact aR eE1
def Ix(N:Nat)(b:List (List UInt8×Int×Int×Int)):Nat→List (List UInt8)→Int→Option (List (List UInt8))
  |0,_,_=>none
  |e+1,c,a=>if a<(b.length:Int)then ck (0≤a∧a<(b.length:Int)) ((OD N ((b[a.toNat]!).1) ((b[a.toNat]!).2.1) ((b[a.toNat]!).2.2.1) ((b[a.toNat]!).2.2.2)).bind fun d=>ck (0≤a∧a<(c.length:Int)) (ck (R64 (a+1)) ((Ix N b e) ((c).set (a.toNat) d) (a+1))))else some c
def Nl(N:Nat)(a:List (List UInt8×Int×Int×Int)):Option (List (List UInt8)):=ck (0≤(a.length:Int)∧(a.length:Int)≤8796093022208) (Ix N a N ((List.replicate ((a.length:Int)).toNat ([]))) 0)
theorem Wp(N l' r)(b:Nl N l'=some r)(ro l'v)(hl':Rd Af0 ro l'v l'):Does prog 214 #[l'v,vF 150 #[] #[]] ro [] (p1 (fun s_=>s_) 9 Aa4 r):=by
 unfold Nl at b
 refine Aj follows func214 rfl 26 rfl _ fz2 (fun s=> ?_)
 refine AZ rfl<|Ad<|rn 1 rfl<|rL (Rd.shp hl') rfl<|kC b fun u b=>cB 10<|Sq (Ls:=[]) 9 Aa4 ([]) (l'.length:Int) rfl rfl rfl rfl rfl rfl rfl rfl rfl rfl 8796093022208 rfl u (fun _ _ _ _ _=>Iff.rfl) (fun v y z=> ?_)
 refine rz rfl<|Aa fun C w=>Ad<|rn 1 rfl<|rL (Rd.shp hl') rfl<|rz rfl<|Ah<|Bo _ (Sub.pick [y] [0] rfl)<|AC (fun tt ll nn=> ∃(h:Nat) (d:List (List UInt8)) (a:Int),(Ix N l' h d a=some r)∧ ∃(c:List Bl),Sl 9 Aa4 v d c∧Is [(1,vF 150 #[] #[]),(5,v),(11,l'v),(12,vI (l'.length:Int)),(13,vI a)] (List.flatten [c]) tt ll∧nn=h+1) (N+1) ?_ ?_
 ·exact⟨N,(List.replicate ((l'.length:Int)).toNat ([])),0,b,y,z,Af rfl rfl,rfl⟩
 clear b;rintro t l _ ⟨h,d,a,b,c,e,⟨⟨T,rfl⟩,rfl⟩,rfl⟩
 rcases h with _|h
 ·exact absurd b (by simp [Ix])
 rw [Ix] at b
 refine AZ rfl<|Aa fun A i=>aD b rfl (fun j b=> ?_) (fun j b=> ?_)
 ·refine Ab<|i _ _ ?_
  refine Aa fun B k=>Ah<|Ad<|rn 1 rfl<|kC b fun f b=>rI (Rd.shp hl') f rfl<|rE (Au hl') f 0 rfl<|rA rfl fun m=>ry [0] rfl<|Ag<|rm 4 [0] rfl<|kB b fun n o b=>rc _ (BG (caps:=[]) rfl lE rfl) (YH N ((l'[a.toNat]!).1) ((l'[a.toNat]!).2.1) ((l'[a.toNat]!).2.2.1) ((l'[a.toNat]!).2.2.2) _ o)<|kC b fun g b=>rI (Sl.shp e) g rfl<|QS (Ls:=[(Ma m ((l'[a.toNat]!).1) ((l'[a.toNat]!).2.1) ((l'[a.toNat]!).2.2.1) ((l'[a.toNat]!).2.2.2)),c]) 1 (En:=Aa4) (d[a.toNat]!) n (a.toNat) 0 rfl rfl rfl e (De g) rfl rfl rfl (HN rfl) rfl (fun p x=> ?_)
  refine Ak<|k _ _ ?_
  refine Ag<|kC b fun q b=>rX q rfl<|rz rfl<|fg _ (Sub.pick [(Ma m ((l'[a.toNat]!).1) ((l'[a.toNat]!).2.1) ((l'[a.toNat]!).2.2.1) ((l'[a.toNat]!).2.2.2)),p] [1] rfl) ?_
  exact⟨h+1,by omega,h,(d).set (a.toNat) n,(a+1),b,p,x,Af rfl rfl,rfl⟩
 refine AD<|w _ _ ?_
 refine AZ rfl ?_
 cases b
 refine Bi (fun D=>Ha (v0:=v) e (EK (Sub.pick [c] [0] rfl)) rfl (Gj rfl))
def KF(N:Nat)(c:Int)(a:Bool):Option Int:=(Ks N c).bind fun d=>(Ao N a 7).bind fun e=>(AP N ([d,e])).bind fun b=>some b
def LH(N:Nat)(_:List UInt8)(a:Int)(c:Int)(b:Int):Option Int:=(AE N c 0 65535).bind fun e=>if e=true then(AE N b 1 1048576).bind fun d=>KF N a d else KF N a false
theorem YG(N x_0 x_1 x_2 x_3 r)(b:LH N x_0 x_1 x_2 x_3=some r):Gives prog 151 #[vA #[vS x_0,vI x_1,vI x_2,vI x_3]] (vI r):=by
 unfold LH at b
 refine As follows func151 rfl 19 rfl _ fz1 (fun g=> ?_)
 refine Ad<|rA rfl fun h=>rz rfl<|BR (fun tt ll=> ∃(a:Bool),(KF N x_1 a=some r)∧Is [(1,vP h 0),(3,vB a)] (Ma h x_0 x_1 x_2 x_3) tt ll) ?_ ?_
 ·refine Ag<|rm 2 [0] rfl<|kB b fun i d b=>rc _ (cF Dg) (AO N x_2 0 65535 _ d)<|rn 1 rfl ?_
  rcases c:i with _|_
  ·replace b:=iB c b
   refine rz rfl<|fg _ (Sub.of (suK _ suN)) ?_
   exact⟨false,b,Af (by first|rfl|(simp only [c];done)|(simp only [c];rfl)|(simp only [Bn];rfl)) rfl⟩
  replace b:=ifp c b
  refine rn 1 rfl<|r_y rfl<|rm 1 [0] rfl<|r_y rfl<|kB b fun j e b=>rc _ (cF Dg) (AO N x_3 1 1048576 _ e)<|rz rfl<|fg _ (Sub.of (suK _ suN)) ?_
  exact⟨j,b,Af (by first|rfl|(simp only [c];done)|(simp only [c];rfl)|(simp only [Bn];rfl)) rfl⟩
 clear b;rintro t l ⟨a,b,⟨T,rfl⟩,rfl⟩
 unfold KF at b
 refine Ad<|rm 2 [0] rfl<|kB b fun q m b=>rc _ (cF VH) (QW N x_1 _ m)<|rn 1 rfl<|kB b fun s n b=>rc _ (cF Bg) (Ax N a 7 _ n)<|gB (Ls:=[(Ma h x_0 x_1 x_2 x_3)]) 46 BJ [q,s] (fun u v p=> ?_)
 refine kB b fun x f b=>gV _ (cF EG) (fun o w z_=>BS N ([q,s]) _ f z_.view u ((Av p (Ai (Ls:=[(Ma h x_0 x_1 x_2 x_3),v]) (k:=1) rfl rfl)) o w z_))<|rz rfl ?_
 cases b
 exact aR eE1
def Lb(N:Nat)(i:Int)(e:List UInt8)(g:Int)(d:Int)(b:Int)(a:List (List UInt8)):Option Int:=ck (0≤i∧i<(a.length:Int)) ((FS N (a[i.toNat]!)).bind fun k=>(Ao N k 4).bind fun h=>(Bf N a i).bind fun j=>(LH N e g d b).bind fun c=>(AP N ([h,j,c])).bind fun f=>some f)
theorem To(N i x_0 x_1 x_2 x_3 b r)(c:Lb N i x_0 x_1 x_2 x_3 b=some r)(ro)(l:Nat)(a)(e:Rd Aa4 ro a b)(f:Blk ro l [a])(m:Nat)(n:Blk ro m [vF 151 #[] #[]]):Does prog 216 #[vI i,vA #[vS x_0,vI x_1,vI x_2,vI x_3],vP l 0,vP m 0] ro [] (pV (vI r)):=by
 unfold Lb at c
 refine Aj follows func216 rfl 21 rfl _ fz4 (fun z=> ?_)
 refine Ad<|rA rfl fun G=>rz rfl<|Aa fun J A=>Bw [(some 15,false),(some 19,false),(some 20,false)] (conG prog [(15,cV (Bf N b i) fun j=>vI j),(20,fun _ _ v_ L_ U_=> ∀j,FS N (b[i.toNat]!)=some j→ ∀t,Ao N j 4=some t→ ∀u,Bf N b i=some u→ ∀v,LH N x_0 x_1 x_2 x_3=some v→ ∀x,AP N ([t,u,v])=some x→(pV (vI x)) v_ L_ U_)]) [] (by decide+kernel) (fun K=>AH)<|GX a (vs:=[a]) (o:=0) rfl rfl (AQ f) rfl<|rn 1 rfl<|kC c fun y c=>rI (Rd.shp e) y rfl<|rE (Au e) y 0 rfl<|kB c fun H p c=>rc _ (cF ME) (Kr N (b[i.toNat]!) _ p)<|kB c fun B q c=>rc _ (cF Bg) (Ax N H 4 _ q)<|GX a (vs:=[a]) (o:=0) rfl rfl (AQ f) rfl<|rn 1 rfl<|kB c fun C d c=>rg _ (cF KU) (fun o w z_=>Hp N b i _ d z_.view a (z_.r e)) (GB d)<|GX (vF 151 #[] #[]) (vs:=[vF 151 #[] #[]]) (o:=0) rfl rfl (AQ n) rfl<|rm 1 [0] rfl<|kB c fun s g c=>rc _ (BG (caps:=[]) rfl lD rfl) (YG N x_0 x_1 x_2 x_3 _ g) ?_
 refine IW (Ls:=[(Ma G x_0 x_1 x_2 x_3)]) 46 BJ [B,C,s] [vI B,vI C,vI s] [vI 0,vI 0,vI 0] rfl rfl rfl rfl rfl rfl rfl (by kernel_rfl) (by kernel_rfl) rfl rfl rfl (fun D E F=> ?_)
 refine kB c fun I h c=>rg _ (cF EG) (fun o w z_=>BS N ([B,C,s]) _ h z_.view D ((Av F (Ai (Ls:=[(Ma G x_0 x_1 x_2 x_3),E]) (k:=1) rfl rfl)) o w z_)) (fun _ _ v_ L_ U_=>⟨fun h_=>h_ _ p _ q _ d _ g _ h,fun h_=>by intro _ e_;cases q1 (e_.symm.trans p);intro _ e_;cases q1 (e_.symm.trans q);intro _ e_;cases q1 (e_.symm.trans d);intro _ e_;cases q1 (e_.symm.trans g);intro _ e_;cases q1 (e_.symm.trans h);exact h_⟩) ?_
 refine rz rfl<|A _ _ ?_
 cases c
 exact aR eV1
def IB(N:Nat)(b:List (List UInt8×Int×Int×Int))(c:List (List UInt8)):Nat→Int→Option (Int×Int)
  |0,_=>none
  |e+1,a=>if a<(b.length:Int)then ck (0≤a∧a<(b.length:Int)) ((Lb N a ((b[a.toNat]!).1) ((b[a.toNat]!).2.1) ((b[a.toNat]!).2.2.1) ((b[a.toNat]!).2.2.2) c).bind fun d=>if(d:Int)≠0 then some (a,d)else ck (R64 (a+1)) ((IB N b c e) (a+1)))else some (0,0)
def Np(N:Nat)(c:List (List UInt8×Int×Int×Int))(b:Int)(a:List (List UInt8)):Option (Int×Int):=if(c.length:Int)>b then some (0,2)else IB N c a N 0
theorem Wt(N l' most d r)(c:Np N l' most d=some r)(ro l'v)(hl':Rd Af0 ro l'v l')(a:Nat)(e)(i:Rd Aa4 ro e d)(g:Blk ro a [e])(b:Nat)(h:Blk ro b [vF 151 #[] #[]]):Does prog 215 #[l'v,vI most,vF 216 #[] #[vP a 0,vP b 0]] ro [] (pV (vT #[vI r.1,vI r.2])):=by
 unfold Np at c
 refine Aj follows func215 rfl 31 rfl _ fz3 (fun v=> ?_)
 refine AZ rfl<|Aa fun E x=>Ad<|rn 1 rfl<|rL (Rd.shp hl') rfl<|rz rfl<|aD c rfl (fun y c=> ?_) (fun y c=> ?_)
 ·refine AZ rfl ?_
  cases c
  exact aR eV2
 refine Ab<|x _ _ ?_
 refine Aa fun F z=>Ad<|rn 1 rfl<|rL (Rd.shp hl') rfl<|rz rfl<|Ah<|AC (fun tt ll nn=> ∃(k:Nat) (f:Int),(IB N l' d k f=some r)∧Is [(2,vF 216 #[] #[vP a 0,vP b 0]),(15,l'v),(16,vI (l'.length:Int)),(17,vI f)] [] tt ll∧nn=k+1) (N+1) ?_ ?_
 ·exact⟨N,0,c,Af rfl rfl,rfl⟩
 clear c;rintro t l _ ⟨k,f,c,⟨⟨T,rfl⟩,rfl⟩,rfl⟩
 rcases k with _|k
 ·exact absurd c (by simp [IB])
 rw [IB] at c
 refine AZ rfl<|Aa fun A m=>aD c rfl (fun n c=> ?_) (fun n c=> ?_)
 ·refine Ab<|m _ _ ?_
  refine Aa fun B p=>Ah<|Ad<|rn 1 rfl<|kC c fun j c=>rI (Rd.shp hl') j rfl<|rE (Au hl') j 0 rfl<|rA rfl fun C=>ry [0] rfl<|Ad<|rm 3 [0] rfl<|kB c fun D q c=>gV _ (BG (caps:=[vP a 0,vP b 0]) rfl ku rfl) (fun o w z_=>To N f ((l'[f.toNat]!).1) ((l'[f.toNat]!).2.1) ((l'[f.toNat]!).2.2.1) ((l'[f.toNat]!).2.2.2) d _ q z_.view a e (z_.r i) (AQ g o w z_) b (AQ h o w z_))<|rz rfl<|AZ rfl<|aN c rfl (fun s c=> ?_) (fun s c=> ?_)
  ·refine AZ rfl ?_
   cases c
   exact aR eV2
  refine Ab<|p _ _ ?_
  refine Ag<|kC c fun u c=>rX u rfl<|rz rfl<|fg _ (Sub.of (suC _ suN)) ?_
  exact⟨k+1,by omega,k,(f+1),c,Af rfl rfl,rfl⟩
 refine AD<|z _ _ ?_
 refine AZ rfl ?_
 cases c
 exact aR eV2
def Nh(N:Nat)(c:List (List UInt8×Int×Int×Int))(b:Int):Option (Int×Int):=(Nl N c).bind fun d=>(Np N c b d).bind fun a=>some (a.1,a.2)
theorem Wl(N l' most r)(a:Nh N l' most=some r)(ro l'v)(hl':Rd Af0 ro l'v l'):Does prog 149 #[l'v,vI most,vF 150 #[] #[],vF 151 #[] #[]] ro [] (pV (vT #[vI r.1,vI r.2])):=by
 unfold Nh at a
 refine Aj follows func149 rfl 20 rfl _ fz4 (fun d=> ?_)
 refine Ad<|rA rfl fun b=>rz rfl<|Ad<|rn 2 rfl<|kB a fun j g a=>gS (Ls:=[(Uz b (vF 151 #[] #[]))]) (cF kz) (fun o w z_=>Wp N l' _ g z_.view l'v ((Au hl') o w z_)) (fun e i h=> ?_)
 refine rA rfl fun f=>r_s (List.flatten [(NP f e),(Uz b (vF 151 #[] #[])),i]) 0 _ _ _ _ _ (#[e]) rfl rfl rfl (FM rfl (Sl.shp h)) (.ofS rfl rfl (Ae (Shp.one (Sl.shp h)) Bt)) rfl rfl<|Ak<|Ad<|rn 2 rfl<|r_W (vF 216 #[] #[vP f 0,vP b 0]) rfl (HD rfl)<|kB a fun l c a=>gV _ (cF kw) (fun o w z_=>Wt N l' most j _ c z_.view l'v ((Au hl') o w z_) f e ((Av h (Ai (Ls:=[(NP f e),(Uz b (vF 151 #[] #[])),i]) (k:=2) rfl rfl)) o w z_) (Cw 0 rfl rfl o w z_) b (Cw 1 rfl rfl o w z_))<|rz rfl ?_
 cases a
 exact aR eV2
def Nu(N:Nat)(c:An):Option (Int×Int):=(Nh N c.2.2.2.2.2.2.2.2.2.2.2.2.2.2.1 8).bind fun a=>some (a.1,a.2)
theorem Wy(N c r)(a:Nu N c=some r)(ro)(cv:Ay)(hc:Aa2 ro cv c):Does prog 91 #[vA (Ac c cv)] ro [] (pV (vT #[vI r.1,vI r.2])):=by
 unfold Nu at a
 refine Aj follows func91 rfl 10 rfl _ fz1 (fun b=> ?_)
 refine Ad<|rA rfl fun e=>rz rfl<|Ad<|rm 3 [0] rfl<|kB a fun f d a=>gV _ (cF lF) (fun o w z_=>Wl N c.2.2.2.2.2.2.2.2.2.2.2.2.2.2.1 8 _ d z_.view cv.2.2.2.2.2.2.2.2.2.2.2.2.2 ((Au hc.2.2.2.2.2.2.2.2.2.2.2.2.2) o w z_))<|rz rfl ?_
 cases a
 exact aR eV2
inductive Ac2 where
  |nil
  |t146 (x0:Int) (x1:Int) (x2:Int)
  deriving Inhabited
def Ac2.on{β:Type}(x:Ac2)(a:β)(b:Int→Int→Int→β):β:=match x with| .nil=>a| .t146 x0 x1 x2=>b x0 x1 x2
theorem Ac2.on_nil {β:Type}{x:Ac2}{a r:β}{f146:Int→Int→Int→β}(h:x= .nil)(e:Ac2.on x a f146=r):a=r:=by subst h;exact e
theorem Ac2.on_t146 {β:Type}{x:Ac2}{a r:β}{f146:Int→Int→Int→β}{b:Int}{c:Int}{x2:Int}(h:x= .t146 b c x2)(e:Ac2.on x a f146=r):f146 b c x2=r:=by subst h;exact e
def Ac2.onP(x:Ac2)(a:PO)(b:Int→Int→Int→PO):PO:=match x with| .nil=>a| .t146 x0 x1 x2=>b x0 x1 x2
theorem Ac2.onP_nil {x:Ac2}{a:PO}{f146:Int→Int→Int→PO}{v:Value}{O:List (List Bl)}(h:x= .nil)(e:Ac2.onP x a f146 v O):a v O:=by subst h;exact e
theorem Ac2.onP_t146 {x:Ac2}{a:PO}{f146:Int→Int→Int→PO}{b:Int}{c:Int}{x2:Int}{v:Value}{O:List (List Bl)}(h:x= .t146 b c x2)(e:Ac2.onP x a f146 v O):f146 b c x2 v O:=by subst h;exact e
theorem Ac2.niceP {x:Ac2}{a:PO}{f146:Int→Int→Int→PO}{R:List Bl}(h:Ab8 a R)(b: ∀c d x2,Ab8 (f146 c d x2) R):Ab8 (Ac2.onP x a f146) R:=by cases x with|nil=>exact h|t146=>exact b _ _ _
theorem Ac2.cases(x:Ac2):x= .nil∨(∃a b x2,x= .t146 a b x2):=by cases x<;>simp
def By(N:Nat)(m:An):Nat→Int→Option Ac2
  |0,_=>none
  |b+1,a=>if a<15 then ck (0≤a∧a<(15:Int)) (if a=0 then(OI N m).bind fun o=>if(o.2:Int)≠0 then some (.t146 a o.1 o.2)else ck (R64 (a+1)) ((By N m b) (a+1))else if a=1 then(Mr N m).bind fun l=>if(l.2:Int)≠0 then some (.t146 a l.1 l.2)else ck (R64 (a+1)) ((By N m b) (a+1))else if a=2 then(OH N m).bind fun q=>if(q.2:Int)≠0 then some (.t146 a q.1 q.2)else ck (R64 (a+1)) ((By N m b) (a+1))else if a=3 then(OE N m).bind fun i=>if(i.2:Int)≠0 then some (.t146 a i.1 i.2)else ck (R64 (a+1)) ((By N m b) (a+1))else if a=4 then(Nt N m).bind fun j=>if(j.2:Int)≠0 then some (.t146 a j.1 j.2)else ck (R64 (a+1)) ((By N m b) (a+1))else if a=5 then(Mu N m).bind fun n=>if(n.2:Int)≠0 then some (.t146 a n.1 n.2)else ck (R64 (a+1)) ((By N m b) (a+1))else if a=6 then(Nr N m).bind fun k=>if(k.2:Int)≠0 then some (.t146 a k.1 k.2)else ck (R64 (a+1)) ((By N m b) (a+1))else if a=7 then(Mq N m).bind fun r=>if(r.2:Int)≠0 then some (.t146 a r.1 r.2)else ck (R64 (a+1)) ((By N m b) (a+1))else if a=8 then(Nv N m).bind fun p=>if(p.2:Int)≠0 then some (.t146 a p.1 p.2)else ck (R64 (a+1)) ((By N m b) (a+1))else if a=9 then(Ms N m).bind fun h=>if(h.2:Int)≠0 then some (.t146 a h.1 h.2)else ck (R64 (a+1)) ((By N m b) (a+1))else if a=10 then(Nw N m).bind fun g=>if(g.2:Int)≠0 then some (.t146 a g.1 g.2)else ck (R64 (a+1)) ((By N m b) (a+1))else if a=11 then(Mo N m).bind fun c=>if(c.2:Int)≠0 then some (.t146 a c.1 c.2)else ck (R64 (a+1)) ((By N m b) (a+1))else if a=12 then(PN N m).bind fun f=>if(f.2:Int)≠0 then some (.t146 a f.1 f.2)else ck (R64 (a+1)) ((By N m b) (a+1))else if a=13 then(Li N m).bind fun d=>if(d.2:Int)≠0 then some (.t146 a d.1 d.2)else ck (R64 (a+1)) ((By N m b) (a+1))else(Nu N m).bind fun e=>if(e.2:Int)≠0 then some (.t146 a e.1 e.2)else ck (R64 (a+1)) ((By N m b) (a+1)))else some (.nil)
def LE(N:Nat)(m:An):Option Ac2:=(OC N m).bind fun a=>By N m N 0
theorem Yz(N m r)(b:LE N m=some r)(ro)(mv:Ay)(hm:Aa2 ro mv m):DoesI prog 28 #[vA (Ac m mv)] GC ro [] (pO [] (Ac2.onP r (oE Value.nilIface []) (fun y0_0 y0_1 y0_2=>(oB 148 #[vI y0_0,vI y0_1,vI y0_2] fun bs_0=>(oE (Value.iface 146 (vP bs_0 0)) []))))):=by
 unfold LE at b
 refine Ek follows func28 rfl 30 rfl _ fz1 Be (fun V=> ?_)
 refine Ad<|r_a (35,(Ac m mv)) rfl rfl rfl (fun b2=> ?_) (.inr rfl)
 refine r_V Value.nilIface rfl<|Ak<|Aa fun K3 W=>Ad<|rl (vA (Ac m mv)) 0<|r_W (vA (Ac m mv)) rfl (My rfl rfl rfl (HL (c:=(Ac m mv)) rfl Pw) (by kernel_rfl)) ?_
 obtain⟨r5,Y,b⟩:=Zt b
 refine gS (Ls:=[[(b2,35,(Ac m mv))]]) (cF ph) (fun o w z_=>YF N m _ Y z_.view mv (Aa2.mono z_.ro_cell hm)) (fun Z f j=> ?_)
 refine r_W (vI 15) rfl (aP (n:=15) rfl rfl rfl (Sl.shp j))<|r_V (vI 0) rfl<|Ak<|Ah<|Bo _ (Sub.pick [[(b2,35,(Ac m mv))],f] [1] rfl)<|AC (fun tt ll nn=> ∃(p:Nat) (a:Int),(By N m p a=some r)∧Is [(9,Z),(10,vI 15),(11,vI a)] (List.flatten [f]) tt ll∧nn=p+1) (N+1) ?_ ?_
 ·exact⟨N,0,b,Af rfl rfl,rfl⟩
 clear b;rintro t l _ ⟨p,a,b,⟨⟨T,rfl⟩,rfl⟩,rfl⟩
 rcases p with _|p
 ·exact absurd b (by simp [By])
 rw [By] at b
 refine Ad<|r_V (vB (decide (a<15))) rfl<|Ak<|Aa fun ab Q=>Bv _ rfl (fun A=> ?_) (fun A=> ?_)
 ·replace b:=iD A b
  refine Ab<|Q _ _ ?_
  refine Aa fun ac R=>Ah<|BR (fun tt ll=> ∃(g:FuncId) (X:Option (Int×Int)),(X.bind fun q=>if(q.2:Int)≠0 then some (.t146 a q.1 q.2)else ck (R64 (a+1)) (By N m p (a+1)))=some r∧(∀v,X=some v→ ∀c,Aa2 c mv m→DoesI prog g #[vA (Ac m mv)] GC c [] (pV (vT #[vI v.1,vI v.2])))∧Al prog g=true∧Is [(3,vI a),(4,vF g #[vA (Ac m mv)] #[]),(9,Z),(10,vI 15),(11,vI a)] (List.flatten [f]) tt ll) ?_ ?_
  ·refine Ag<|r_V (vI a) rfl ?_
   obtain⟨M,b⟩:=Hq b
   refine r_W (elA Z (a.toNat*1)) rfl (ET (aS rfl rfl rfl (Sl.shp j) (sq (n:=15) rfl M))) ?_
   rcases Decidable.em (a=0)with C|C
   ·replace b:=ifp C b
    refine Qx (vF 77 #[vA (Ac m mv)] #[]) (En:=KS) (⟨vF 77 #[vA (Ac m mv)] #[],rfl⟩) (a.toNat) 0 rfl rfl (Av j (Ai (Ls:=[f]) (k:=0) rfl rfl)) (Mv (i:=0) C rfl) rfl<|r_R [vI a,vF 77 #[vA (Ac m mv)] #[]] rfl<|Ak<|fg _ (Sub.pick [f] [0] rfl) ?_
    exact⟨77,_,b,fun v e c h=>(YL N m _ e c mv h).inv GC,oQ,Af rfl rfl⟩
   replace b:=ifn C b
   rcases Decidable.em (a=1)with D|D
   ·replace b:=ifp D b
    refine Qx (vF 78 #[vA (Ac m mv)] #[]) (En:=KS) (⟨vF 78 #[vA (Ac m mv)] #[],rfl⟩) (a.toNat) 0 rfl rfl (Av j (Ai (Ls:=[f]) (k:=0) rfl rfl)) (Mv (i:=1) D rfl) rfl<|r_R [vI a,vF 78 #[vA (Ac m mv)] #[]] rfl<|Ak<|fg _ (Sub.pick [f] [0] rfl) ?_
    exact⟨78,_,b,fun v e c h=>(Va N m _ e c mv h).inv GC,oP,Af rfl rfl⟩
   replace b:=ifn D b
   rcases Decidable.em (a=2)with E|E
   ·replace b:=ifp E b
    refine Qx (vF 79 #[vA (Ac m mv)] #[]) (En:=KS) (⟨vF 79 #[vA (Ac m mv)] #[],rfl⟩) (a.toNat) 0 rfl rfl (Av j (Ai (Ls:=[f]) (k:=0) rfl rfl)) (Mv (i:=2) E rfl) rfl<|r_R [vI a,vF 79 #[vA (Ac m mv)] #[]] rfl<|Ak<|fg _ (Sub.pick [f] [0] rfl) ?_
    exact⟨79,_,b,fun v e c h=>(YK N m _ e c mv h).inv GC,oO,Af rfl rfl⟩
   replace b:=ifn E b
   rcases Decidable.em (a=3)with F|F
   ·replace b:=ifp F b
    refine Qx (vF 80 #[vA (Ac m mv)] #[]) (En:=KS) (⟨vF 80 #[vA (Ac m mv)] #[],rfl⟩) (a.toNat) 0 rfl rfl (Av j (Ai (Ls:=[f]) (k:=0) rfl rfl)) (Mv (i:=3) F rfl) rfl<|r_R [vI a,vF 80 #[vA (Ac m mv)] #[]] rfl<|Ak<|fg _ (Sub.pick [f] [0] rfl) ?_
    exact⟨80,_,b,fun v e c h=>(YI N m _ e c mv h).inv GC,oN,Af rfl rfl⟩
   replace b:=ifn F b
   rcases Decidable.em (a=4)with G|G
   ·replace b:=ifp G b
    refine Qx (vF 81 #[vA (Ac m mv)] #[]) (En:=KS) (⟨vF 81 #[vA (Ac m mv)] #[],rfl⟩) (a.toNat) 0 rfl rfl (Av j (Ai (Ls:=[f]) (k:=0) rfl rfl)) (Mv (i:=4) G rfl) rfl<|r_R [vI a,vF 81 #[vA (Ac m mv)] #[]] rfl<|Ak<|fg _ (Sub.pick [f] [0] rfl) ?_
    exact⟨81,_,b,fun v e c h=>Wx N m _ e c mv h,oM,Af rfl rfl⟩
   replace b:=ifn G b
   rcases Decidable.em (a=5)with H|H
   ·replace b:=ifp H b
    refine Qx (vF 82 #[vA (Ac m mv)] #[]) (En:=KS) (⟨vF 82 #[vA (Ac m mv)] #[],rfl⟩) (a.toNat) 0 rfl rfl (Av j (Ai (Ls:=[f]) (k:=0) rfl rfl)) (Mv (i:=5) H rfl) rfl<|r_R [vI a,vF 82 #[vA (Ac m mv)] #[]] rfl<|Ak<|fg _ (Sub.pick [f] [0] rfl) ?_
    exact⟨82,_,b,fun v e c h=>Ve N m _ e c mv h,oL,Af rfl rfl⟩
   replace b:=ifn H b
   rcases Decidable.em (a=6)with I|I
   ·replace b:=ifp I b
    refine Qx (vF 83 #[vA (Ac m mv)] #[]) (En:=KS) (⟨vF 83 #[vA (Ac m mv)] #[],rfl⟩) (a.toNat) 0 rfl rfl (Av j (Ai (Ls:=[f]) (k:=0) rfl rfl)) (Mv (i:=6) I rfl) rfl<|r_R [vI a,vF 83 #[vA (Ac m mv)] #[]] rfl<|Ak<|fg _ (Sub.pick [f] [0] rfl) ?_
    exact⟨83,_,b,fun v e c h=>Wv N m _ e c mv h,oK,Af rfl rfl⟩
   replace b:=ifn I b
   rcases Decidable.em (a=7)with J|J
   ·replace b:=ifp J b
    refine Qx (vF 84 #[vA (Ac m mv)] #[]) (En:=KS) (⟨vF 84 #[vA (Ac m mv)] #[],rfl⟩) (a.toNat) 0 rfl rfl (Av j (Ai (Ls:=[f]) (k:=0) rfl rfl)) (Mv (i:=7) J rfl) rfl<|r_R [vI a,vF 84 #[vA (Ac m mv)] #[]] rfl<|Ak<|fg _ (Sub.pick [f] [0] rfl) ?_
    exact⟨84,_,b,fun v e c h=>UZ N m _ e c mv h,oJ,Af rfl rfl⟩
   replace b:=ifn J b
   rcases Decidable.em (a=8)with K|K
   ·replace b:=ifp K b
    refine Qx (vF 85 #[vA (Ac m mv)] #[]) (En:=KS) (⟨vF 85 #[vA (Ac m mv)] #[],rfl⟩) (a.toNat) 0 rfl rfl (Av j (Ai (Ls:=[f]) (k:=0) rfl rfl)) (Mv (i:=8) K rfl) rfl<|r_R [vI a,vF 85 #[vA (Ac m mv)] #[]] rfl<|Ak<|fg _ (Sub.pick [f] [0] rfl) ?_
    exact⟨85,_,b,fun v e c h=>Wz N m _ e c mv h,oH,Af rfl rfl⟩
   replace b:=ifn K b
   rcases Decidable.em (a=9)with L|L
   ·replace b:=ifp L b
    refine Qx (vF 86 #[vA (Ac m mv)] #[]) (En:=KS) (⟨vF 86 #[vA (Ac m mv)] #[],rfl⟩) (a.toNat) 0 rfl rfl (Av j (Ai (Ls:=[f]) (k:=0) rfl rfl)) (Mv (i:=9) L rfl) rfl<|r_R [vI a,vF 86 #[vA (Ac m mv)] #[]] rfl<|Ak<|fg _ (Sub.pick [f] [0] rfl) ?_
    exact⟨86,_,b,fun v e c h=>(Vb N m _ e c mv h).inv GC,oG,Af rfl rfl⟩
   replace b:=ifn L b
   rcases Decidable.em (a=10)with s|s
   ·replace b:=ifp s b
    refine Qx (vF 87 #[vA (Ac m mv)] #[]) (En:=KS) (⟨vF 87 #[vA (Ac m mv)] #[],rfl⟩) (a.toNat) 0 rfl rfl (Av j (Ai (Ls:=[f]) (k:=0) rfl rfl)) (Mv (i:=10) s rfl) rfl<|r_R [vI a,vF 87 #[vA (Ac m mv)] #[]] rfl<|Ak<|fg _ (Sub.pick [f] [0] rfl) ?_
    exact⟨87,_,b,fun v e c h=>(WB N m _ e c mv h).inv GC,oF,Af rfl rfl⟩
   replace b:=ifn s b
   rcases Decidable.em (a=11)with u|u
   ·replace b:=ifp u b
    refine Qx (vF 88 #[vA (Ac m mv)] #[]) (En:=KS) (⟨vF 88 #[vA (Ac m mv)] #[],rfl⟩) (a.toNat) 0 rfl rfl (Av j (Ai (Ls:=[f]) (k:=0) rfl rfl)) (Mv (i:=11) u rfl) rfl<|r_R [vI a,vF 88 #[vA (Ac m mv)] #[]] rfl<|Ak<|fg _ (Sub.pick [f] [0] rfl) ?_
    exact⟨88,_,b,fun v e c h=>(UV N m _ e c mv h).inv GC,oD,Af rfl rfl⟩
   replace b:=ifn u b
   rcases Decidable.em (a=12)with x|x
   ·replace b:=ifp x b
    refine Qx (vF 89 #[vA (Ac m mv)] #[]) (En:=KS) (⟨vF 89 #[vA (Ac m mv)] #[],rfl⟩) (a.toNat) 0 rfl rfl (Av j (Ai (Ls:=[f]) (k:=0) rfl rfl)) (Mv (i:=12) x rfl) rfl<|r_R [vI a,vF 89 #[vA (Ac m mv)] #[]] rfl<|Ak<|fg _ (Sub.pick [f] [0] rfl) ?_
    exact⟨89,_,b,fun v e c h=>(aF N m _ e c mv h).inv GC,oC,Af rfl rfl⟩
   replace b:=ifn x b
   rcases Decidable.em (a=13)with y|y
   ·replace b:=ifp y b
    refine Qx (vF 90 #[vA (Ac m mv)] #[]) (En:=KS) (⟨vF 90 #[vA (Ac m mv)] #[],rfl⟩) (a.toNat) 0 rfl rfl (Av j (Ai (Ls:=[f]) (k:=0) rfl rfl)) (Mv (i:=13) y rfl) rfl<|r_R [vI a,vF 90 #[vA (Ac m mv)] #[]] rfl<|Ak<|fg _ (Sub.pick [f] [0] rfl) ?_
    exact⟨90,_,b,fun v e c h=>(Tx N m _ e c mv h).inv GC,oA,Af rfl rfl⟩
   replace b:=ifn y b
   have S:a=14:=nW M (by omega)
   refine Qx (vF 91 #[vA (Ac m mv)] #[]) (En:=KS) (⟨vF 91 #[vA (Ac m mv)] #[],rfl⟩) (a.toNat) 0 rfl rfl (Av j (Ai (Ls:=[f]) (k:=0) rfl rfl)) (Mv (i:=14) S rfl) rfl<|r_R [vI a,vF 91 #[vA (Ac m mv)] #[]] rfl<|Ak<|fg _ (Sub.pick [f] [0] rfl) ?_
   exact⟨91,_,b,fun v e c h=>(Wy N m _ e c mv h).inv GC,oz,Af rfl rfl⟩
  clear b;rintro t l ⟨g,X,b,hX,hg,⟨T,rfl⟩,rfl⟩
  refine Ad<|r_V (vF g #[vA (Ac m mv)] #[]) rfl ?_
  obtain⟨d,U,b⟩:=Zt b
  refine gV (vT #[vI d.1,vI d.2]) (PX (bd:=[vA (Ac m mv)]) (caps:=[]) rfl hg rfl) (fun o w z_=>(hX _ U z_.view (Aa2.mono z_.ro_cell hm)))<|r_R [vT #[vI d.1,vI d.2],vI d.1,vI d.2,vI d.1,vI d.2] rfl<|Ak<|Ad<|r_R [vI d.2,vB (d.2 !=0)] rfl<|Ak<|Bv _ rfl (fun B=> ?_) (fun B=> ?_)
  ·replace b:=iN B b
   refine Ad<|r_R [vI a,vI d.1,vI d.2] rfl<|r_W (vA #[vI a,vI d.1,vI d.2]) rfl (Ap rfl rfl rfl rfl)<|r_a (148, #[vI a,vI d.1,vI d.2]) rfl rfl rfl (fun z=> ?_) (.inr rfl)
   refine r_R [Value.iface 146 (vP z 0),Value.iface 146 (vP z 0)] rfl<|Ak ?_
   cases b
   refine Bi (fun hn=>Je (v0:=Value.iface 146 (vP z 0)) (O:=[(ag z a d.1 d.2)]) (Gj rfl) (Sub.pick [(ag z a d.1 d.2),f] [0] rfl) ⟨z,_,⟨rfl,rfl⟩,rfl⟩)
  replace b:=iM B b
  refine Ab<|R _ _ ?_
  refine Ag ?_
  obtain⟨P,b⟩:=Hq b
  refine r_X (vI (a+1)) rfl (Qu rfl P.1 P.2) rfl<|r_V (vI (a+1)) rfl<|Ak<|fg _ (Sub.pick [f] [0] rfl) ?_
  exact⟨p+1,by omega,p,(a+1),b,Af rfl rfl,rfl⟩
 replace b:=iF A b
 refine AD<|W _ _ ?_
 refine Ad<|r_V Value.nilIface rfl<|Ak ?_
 cases b
 refine Bi (fun hn=>Je (v0:=Value.nilIface) (O:=[]) (Gj rfl) (Sub.nil _) ⟨rfl,rfl⟩)
def JF(_:Nat)(x:BitVec 64)(y:BitVec 64):Option ((BitVec 64)×(BitVec 64)):=some (((((x>>>32)*(y>>>32))+((((x>>>32)*(y&&&4294967295#64))+(((x&&&4294967295#64)*(y&&&4294967295#64))>>>32))>>>32))+((((((x>>>32)*(y&&&4294967295#64))+(((x&&&4294967295#64)*(y&&&4294967295#64))>>>32))&&&4294967295#64)+((x&&&4294967295#64)*(y>>>32)))>>>32)),(x*y))
theorem Ry(N x y r)(b:JF N x y=some r):Gives prog 157 #[U x,U y] (vT #[U r.1,U r.2]):=by
 unfold JF at b
 refine As follows func157 rfl 51 rfl _ fz2 (fun a=> ?_)
 refine AZ rfl<|Ad<|rn 1 rfl<|r_X (U (x&&&4294967295#64)) rfl (VP x (4294967295#64)) rfl<|rz rfl<|Ad<|rn 1 rfl<|r_v (U (x>>>32)) rfl rfl (bW x 32) (Vk rfl rfl)<|rz rfl<|Ad<|rn 1 rfl<|r_X (U (y&&&4294967295#64)) rfl (VP y (4294967295#64)) rfl<|rz rfl<|Ad<|rn 1 rfl<|r_v (U (y>>>32)) rfl rfl (bW y 32) (Vk rfl rfl)<|rz rfl<|Ad<|rn 2 rfl ?_
 refine r_X (U ((x&&&4294967295#64)*(y&&&4294967295#64))) rfl (VO (x&&&4294967295#64) (y&&&4294967295#64)) rfl<|rz rfl<|Ad<|rn 2 rfl<|r_X (U ((x>>>32)*(y&&&4294967295#64))) rfl (VO (x>>>32) (y&&&4294967295#64)) rfl<|rn 1 rfl<|r_v (U (((x&&&4294967295#64)*(y&&&4294967295#64))>>>32)) rfl rfl (bW ((x&&&4294967295#64)*(y&&&4294967295#64)) 32) (Vk rfl rfl) ?_
 refine r_X (U ((((x>>>32)*(y&&&4294967295#64))+(((x&&&4294967295#64)*(y&&&4294967295#64))>>>32)))) rfl (Ya ((x>>>32)*(y&&&4294967295#64)) (((x&&&4294967295#64)*(y&&&4294967295#64))>>>32)) rfl<|rz rfl<|Ad<|rn 1 rfl ?_
 refine r_X (U (((((x>>>32)*(y&&&4294967295#64))+(((x&&&4294967295#64)*(y&&&4294967295#64))>>>32))&&&4294967295#64))) rfl (VP ((((x>>>32)*(y&&&4294967295#64))+(((x&&&4294967295#64)*(y&&&4294967295#64))>>>32))) (4294967295#64)) rfl<|rz rfl<|Ad<|rn 1 rfl ?_
 refine r_v (U (((((x>>>32)*(y&&&4294967295#64))+(((x&&&4294967295#64)*(y&&&4294967295#64))>>>32))>>>32))) rfl rfl (bW ((((x>>>32)*(y&&&4294967295#64))+(((x&&&4294967295#64)*(y&&&4294967295#64))>>>32))) 32) (Vk rfl rfl)<|rz rfl ?_
 refine Gm [(0,U x),(1,U y),(6,U (x&&&4294967295#64)),(7,U (x>>>32)),(9,U (y>>>32)),(12,U (((((x>>>32)*(y&&&4294967295#64))+(((x&&&4294967295#64)*(y&&&4294967295#64))>>>32))&&&4294967295#64))),(13,U (((((x>>>32)*(y&&&4294967295#64))+(((x&&&4294967295#64)*(y&&&4294967295#64))>>>32))>>>32)))] rfl (fun T=> ?_)
 refine Ad<|rn 3 rfl<|r_X (U ((x&&&4294967295#64)*(y>>>32))) rfl (VO (x&&&4294967295#64) (y>>>32)) rfl<|r_X (U ((((((x>>>32)*(y&&&4294967295#64))+(((x&&&4294967295#64)*(y&&&4294967295#64))>>>32))&&&4294967295#64)+((x&&&4294967295#64)*(y>>>32))))) rfl (Ya (((((x>>>32)*(y&&&4294967295#64))+(((x&&&4294967295#64)*(y&&&4294967295#64))>>>32))&&&4294967295#64)) ((x&&&4294967295#64)*(y>>>32))) rfl ?_
 refine rz rfl<|Ad<|rn 2 rfl<|r_X (U ((x>>>32)*(y>>>32))) rfl (VO (x>>>32) (y>>>32)) rfl<|rn 1 rfl ?_
 refine r_X (U ((((x>>>32)*(y>>>32))+((((x>>>32)*(y&&&4294967295#64))+(((x&&&4294967295#64)*(y&&&4294967295#64))>>>32))>>>32)))) rfl (Ya ((x>>>32)*(y>>>32)) (((((x>>>32)*(y&&&4294967295#64))+(((x&&&4294967295#64)*(y&&&4294967295#64))>>>32))>>>32))) rfl<|rn 1 rfl ?_
 refine r_v (U (((((((x>>>32)*(y&&&4294967295#64))+(((x&&&4294967295#64)*(y&&&4294967295#64))>>>32))&&&4294967295#64)+((x&&&4294967295#64)*(y>>>32)))>>>32))) rfl rfl (bW ((((((x>>>32)*(y&&&4294967295#64))+(((x&&&4294967295#64)*(y&&&4294967295#64))>>>32))&&&4294967295#64)+((x&&&4294967295#64)*(y>>>32)))) 32) (Vk rfl rfl) ?_
 refine r_X (U (((((x>>>32)*(y>>>32))+((((x>>>32)*(y&&&4294967295#64))+(((x&&&4294967295#64)*(y&&&4294967295#64))>>>32))>>>32))+((((((x>>>32)*(y&&&4294967295#64))+(((x&&&4294967295#64)*(y&&&4294967295#64))>>>32))&&&4294967295#64)+((x&&&4294967295#64)*(y>>>32)))>>>32)))) rfl (Ya ((((x>>>32)*(y>>>32))+((((x>>>32)*(y&&&4294967295#64))+(((x&&&4294967295#64)*(y&&&4294967295#64))>>>32))>>>32))) (((((((x>>>32)*(y&&&4294967295#64))+(((x&&&4294967295#64)*(y&&&4294967295#64))>>>32))&&&4294967295#64)+((x&&&4294967295#64)*(y>>>32)))>>>32))) rfl ?_
 refine rz rfl<|Ad<|rn 2 rfl<|r_X (U (x*y)) rfl (VO x y) rfl<|rz rfl ?_
 cases b
 exact aR eE2
def KX(N:Nat)(x:BitVec 64)(y:BitVec 64):Option ((BitVec 64)×(BitVec 64)):=(JF N x y).bind fun a=>some (a.1,a.2)
theorem Tk(N x y r)(a:KX N x y=some r):Gives prog 103 #[U x,U y] (vT #[U r.1,U r.2]):=by
 unfold KX at a
 refine As follows func103 rfl 30 rfl _ fz2 (fun b=> ?_)
 refine AZ rfl<|Aa fun e c=>Ca rfl ?_
 refine Ab<|c _ _ ?_
 refine Ad<|rn 2 rfl<|kB a fun f d a=>rc _ (cF lA) (Ry N x y _ d)<|rz rfl<|AZ rfl ?_
 cases a
 exact aR eE2
def Fz  :Nat→List Int→Int→Option (List Int)
  |0,_,_=>none
  |c+1,b,a=>if a<(b.length:Int)then ck (0≤a∧a≤(b.length:Int)) (ck (0≤a∧a≤(b.length:Int)) (ck ((R64 (a+((min (a.toNat) ((b).length - (a.toNat)):Nat):Int)))) ((Fz c) (RP b (a.toNat) (a.toNat)) ((a+((min (a.toNat) ((b).length - (a.toNat)):Nat):Int))))))else some b
def HH(N:Nat)(x:List Int)(a:(BitVec 64)×(BitVec 64)):Option (List Int):=ck ((((a.2).toNat:Nat):Int)≤9223372036854775807) (ck (0≤(((a.2).toNat:Nat):Int)∧(((a.2).toNat:Nat):Int)≤17592186044416) (Fz N (((x).take ((List.replicate ((((a.2).toNat:Nat):Int)).toNat (0:Int))).length++((List.replicate ((((a.2).toNat:Nat):Int)).toNat (0:Int))).drop (x).length)) (((min (x).length ((List.replicate ((((a.2).toNat:Nat):Int)).toNat (0:Int))).length:Nat):Int))))
def HI(N:Nat)(x:List Int)(a:Int):Option (List Int):=(KX N (BitVec.ofInt 64 (x.length:Int)) (BitVec.ofInt 64 a)).bind fun b=>if(0#64)<b.1 then none else if(9223372036854775807#64)<b.2 then none else HH N x b 
def Ie(N:Nat)(x:List Int)(a:Int):Option (List Int):=if a<0 then none else HI N x a 
theorem OT(N x count r)(a:Ie N x count=some r)(ro xv)(hx:Rd BJ ro xv x):Does prog 59 #[xv,vI count] ro [] (p1 (fun s_=>s_) 3 BJ r):=by
 unfold Ie at a
 refine Aj follows func59 rfl 48 rfl _ fz2 (fun A=> ?_)
 refine AZ rfl<|BR (fun tt ll=>(HI N x count  =some r)∧Is [(0,xv),(1,vI count)] [] tt ll) ?_ ?_
 ·refine AZ rfl<|aD a rfl (fun n a=> ?_) (fun n a=> ?_)
  ·refine Ag<|rn 1 rfl ?_
   cases a
  refine Ab<|fg _ (Sub.of suN) ?_
  exact⟨a,Af rfl rfl⟩
 clear a;rintro t l ⟨a,⟨T,rfl⟩,rfl⟩
 unfold HI at a
 refine Ad<|rn 1 rfl<|rL (Rd.shp hx) rfl<|r_w (U (BitVec.ofInt 64 (x.length:Int))) rfl rfl (TU (x.length:Int)) (fun _=>rfl)<|rn 1 rfl<|r_w (U (BitVec.ofInt 64 count)) rfl rfl (TU count) (fun _=>rfl)<|kB a fun f B a=>rc _ (cF mn) (Tk N (BitVec.ofInt 64 (x.length:Int)) (BitVec.ofInt 64 count) _ B)<|rz rfl<|BR (fun tt ll=>(HH N x f  =some r)∧Is [(0,xv),(6,U f.2)] [] tt ll) ?_ ?_
 ·refine Aa fun I h=>Ag<|rn 1 rfl<|r_X (vB (decide ((0#64)<f.1))) rfl (sB (0#64) f.1) rfl<|rn 1 rfl ?_
  rcases i:(decide ((0#64)<f.1))with _|_
  ·replace a:=iF i a
   refine rn 1 rfl<|r_y rfl<|r_X (vB (decide ((9223372036854775807#64)<f.2))) rfl (sB (9223372036854775807#64) f.2) rfl<|rz rfl<|h _ _ ?_
   refine aD a rfl (fun q a=> ?_) (fun q a=> ?_)
   ·refine Ag<|rn 1 rfl ?_
    cases a
   refine Ab<|fg _ (Sub.of suN) ?_
   exact⟨a,Af rfl rfl⟩
  replace a:=iD i a
  refine rz rfl<|h _ _ ?_
  refine Lq rfl ?_
  refine Ag<|rn 1 rfl ?_
  cases a
 clear a;rintro t l ⟨a,⟨T,rfl⟩,rfl⟩
 unfold HH at a
 refine Ad<|rn 1 rfl<|kC a fun C a=>r_w (vI (((f.2).toNat:Nat):Int)) rfl rfl (Qu rfl (by omega) C) (fun _=>rfl)<|kC a fun D a=>cB 30<|Sq (Ls:=[]) 3 BJ 0 (((f.2).toNat:Nat):Int) rfl rfl rfl rfl rfl rfl rfl rfl rfl rfl 17592186044416 rfl D (fun _ _ _ _ _=>Iff.rfl) (fun m H E=> ?_)
 refine rz rfl<|Ad<|rn 2 rfl<|cA 33 (p:=(pUp (fun v_ U_=>v_= .int .i64 ((min (x).length ((List.replicate ((((f.2).toNat:Nat):Int)).toNat (0:Int))).length:Nat):Int)∧Sl 3 BJ m ((x).take ((List.replicate ((((f.2).toNat:Nat):Int)).toNat (0:Int))).length++((List.replicate ((((f.2).toNat:Nat):Int)).toNat (0:Int))).drop (x).length) U_∧U_.map (·.1)=H.map (·.1))))<|pX (Ls:=[H]) 0 (En:=BJ) (ys:=x) rfl rfl rfl rfl rfl rfl E (Rd.shp hx) (Au hx) rfl rfl rfl rfl (fun _ _ _ _ _=>Iff.rfl) (fun s F=> ?_)
 refine rz rfl<|Aa fun J u=>Ah<|Bo _ (Sub.pick [s] [0] rfl)<|AC (fun tt ll nn=> ∃(g:Nat) (d:List Int) (b:Int),(Fz g d b=some r)∧ ∃(c:List Bl),Sl 3 BJ m d c∧Is [(7,m),(8,vI b)] (List.flatten [c]) tt ll∧nn=g+1) (N+1) ?_ ?_
 ·exact⟨N,((x).take ((List.replicate ((((f.2).toNat:Nat):Int)).toNat (0:Int))).length++((List.replicate ((((f.2).toNat:Nat):Int)).toNat (0:Int))).drop (x).length),((min (x).length ((List.replicate ((((f.2).toNat:Nat):Int)).toNat (0:Int))).length:Nat):Int),a,s,F,Af rfl rfl,rfl⟩
 clear a;rintro t l _ ⟨g,d,b,a,c,e,⟨⟨T,rfl⟩,rfl⟩,rfl⟩
 rcases g with _|g
 ·exact absurd a (by simp [Fz])
 rw [Fz] at a
 refine Aa fun K v=>Ad<|rn 2 rfl<|rL (Sl.shp e) rfl<|rz rfl<|aD a rfl (fun w a=> ?_) (fun w a=> ?_)
 ·refine Ab<|v _ _ ?_
  refine Ah<|Bw [(some 45,true)] (conG prog [(45,fun _ _ v_ L_ U_=>(pUp (fun v_ U_=>v_= .int .i64 ((min (b.toNat) ((d).length - (b.toNat)):Nat):Int)∧Sl 3 BJ m (RP d (b.toNat) (b.toNat)) U_∧U_.map (·.1)=c.map (·.1))) v_ L_ U_)]) [] (by decide+kernel) (fun L=>AH)<|rn 3 rfl<|kC a fun j a=>r_W (Fy m (b.toNat) ((d).length) 1) rfl (ET (XB rfl rfl rfl rfl (Sl.shp e) j))<|rn 2 rfl<|kC a fun k a=>r_W (Fy m 0 (b.toNat) 1) rfl (ET (HC rfl rfl rfl rfl (Sl.shp e) k))<|qz (Ls:=[c]) 0 (En:=BJ) (o:=b.toNat) (p:=b.toNat) rfl rfl rfl rfl rfl rfl e (GD j.2) (GD k.2) rfl rfl rfl rfl (fun _ _ _ _ _=>Iff.rfl) (fun y G=> ?_)
  refine kC a fun z a=>rX z rfl<|rz rfl<|fg _ (Sub.pick [y] [0] rfl) ?_
  exact⟨g+1,by omega,g,(RP d (b.toNat) (b.toNat)),(b+((min (b.toNat) ((d).length - (b.toNat)):Nat):Int)),a,y,G,Af rfl rfl,rfl⟩
 refine AD<|u _ _ ?_
 refine AZ rfl ?_
 cases a
 refine Bi (fun L=>Ha (v0:=m) e (EK (Sub.pick [c] [0] rfl)) rfl (Gj rfl))
end Go.Proofs.YthmpbldidnmenaaGreatDoor
