import Derived.Test.YtoolcgbcfgnipaaGreatDoorBi
namespace Go.Proofs.YtoolcgbcfgnipaaGreatDoor
open Go Go.RowKit Go.Eng _root_.Go.Proofs.Tryz
set_option linter.unusedSimpArgs false
set_option linter.unusedVariables false
set_option maxRecDepth 100000
set_option maxHeartbeats 80000000
abbrev OI(b:Nat)(x0:List UInt8)(x1:Int)(x2:Int):List Bl:=[(b,132, #[vS x0,vI x1,vI x2])]
abbrev UM(b:Nat)(x0:Value):List Bl:=[(b,205, #[x0])]
abbrev OJ(b:Nat)(x0:Value):List Bl:=[(b,118, #[x0])]
abbrev RI(b:Nat)(x0:List UInt8)(x1:Int):List Bl:=[(b,135, #[vS x0,vI x1])]
abbrev UL(b:Nat)(x0:Value):List Bl:=[(b,208, #[x0])]
abbrev Nh(b:Nat)(x0:List UInt8)(x1:Int)(x2:Int)(x3:Int):List Bl:=[(b,138, #[vS x0,vI x1,vI x2,vI x3])]
abbrev UK(b:Nat)(x0:Value):List Bl:=[(b,211, #[x0])]
abbrev De(b:Nat)(x0:Int)(x1:Int)(x2:Int):List Bl:=[(b,95, #[vI x0,vI x1,vI x2])]
def KQ(N:Nat)(c:Ao)(b:List (Int×Int)):Option (Int×Int):=(NU N b 4 c).bind fun a=>some (a.1,a.2)
theorem To(N c l' r)(a:KQ N c l'=some r)(ro)(cv:AD)(hc:Aa1 ro cv c)(l'v)(hl':Rd Ae3 ro l'v l'):Does prog 110 #[vA (Ac c cv),l'v] ro [] (pV (vT #[vI r.1,vI r.2])):=by
 unfold KQ at a
 refine Al follows func110 rfl 11 rfl _ fz2 (fun b=> ?_)
 refine Ad<|rA rfl fun e=>rz rfl<|Ad<|rn 1 rfl<|r_W (vF 187 #[] #[vP e 0]) rfl (IA rfl)<|kB a fun f d a=>gV _ (cF mz) (fun o w z_=>aO N l' 4 c _ d z_.view l'v ((Aw hl') o w z_) e cv (Aa1.mono z_.ro_cell hc) (Cw 0 rfl rfl o w z_))<|rz rfl ?_
 cases a
 exact aR eV2
def Kv(N:Nat)(c:Ao):Option (Int×Int):=(KQ N c c.2.2.2.2.2.2.2.2.2.2.1).bind fun a=>some (a.1,a.2)
theorem WH(N c r)(a:Kv N c=some r)(ro)(cv:AD)(hc:Aa1 ro cv c):Does prog 50 #[vA (Ac c cv)] ro [] (pV (vT #[vI r.1,vI r.2])):=by
 unfold Kv at a
 refine Al follows func50 rfl 11 rfl _ fz1 (fun b=> ?_)
 refine Ad<|rA rfl fun e=>rz rfl<|Ad<|rm 4 [0,0] rfl<|kB a fun f d a=>gV _ (cF cw) (fun o w z_=>To N c c.2.2.2.2.2.2.2.2.2.2.1 _ d z_.view cv (Aa1.mono z_.ro_cell hc) cv.2.2.2.2.2.2.2.2.2.1 ((Aw hc.2.2.2.2.2.2.2.2.2.1) o w z_))<|rz rfl ?_
 cases a
 exact aR eV2
def JH(N:Nat)(c:Ao):Option (Int×Int):=(KQ N c c.2.2.2.2.2.2.2.2.2.2.2.1).bind fun a=>some (a.1,a.2)
theorem Vf(N c r)(a:JH N c=some r)(ro)(cv:AD)(hc:Aa1 ro cv c):Does prog 51 #[vA (Ac c cv)] ro [] (pV (vT #[vI r.1,vI r.2])):=by
 unfold JH at a
 refine Al follows func51 rfl 11 rfl _ fz1 (fun b=> ?_)
 refine Ad<|rA rfl fun e=>rz rfl<|Ad<|rm 4 [0,0] rfl<|kB a fun f d a=>gV _ (cF cw) (fun o w z_=>To N c c.2.2.2.2.2.2.2.2.2.2.2.1 _ d z_.view cv (Aa1.mono z_.ro_cell hc) cv.2.2.2.2.2.2.2.2.2.2.1 ((Aw hc.2.2.2.2.2.2.2.2.2.2.1) o w z_))<|rz rfl ?_
 cases a
 exact aR eV2
def Rl(_:Nat)(a:List UInt8)(_:Int)(_:Int):Option (List UInt8):=some a
theorem dH(N x_0 x_1 x_2 r)(b:Rl N x_0 x_1 x_2=some r):Gives prog 112 #[vA #[vS x_0,vI x_1,vI x_2]] (vS r):=by
 unfold Rl at b
 refine Av follows func112 rfl 5 rfl _ fz1 (fun a=> ?_)
 refine Ad<|rA rfl fun c=>rz rfl<|AY [0] rfl ?_
 cases b
 exact aR eE1
def Kb(N:Nat)(b:List (List UInt8×Int×Int)):Nat→List (List UInt8)→Int→Option (List (List UInt8))
  |0,_,_=>none
  |e+1,c,a=>if a<(b.length:Int)then ck (0≤a∧a<(b.length:Int)) ((Rl N ((b[a.toNat]!).1) ((b[a.toNat]!).2.1) ((b[a.toNat]!).2.2)).bind fun d=>ck (0≤a∧a<(c.length:Int)) (ck (R64 (a+1)) ((Kb N b e) ((c).set (a.toNat) d) (a+1))))else some c
def Qf(N:Nat)(a:List (List UInt8×Int×Int)):Option (List (List UInt8)):=ck (0≤(a.length:Int)∧(a.length:Int)≤8796093022208) (Kb N a N ((List.replicate ((a.length:Int)).toNat ([]))) 0)
theorem aL(N l' r)(b:Qf N l'=some r)(ro l'v)(hl':Rd Ae6 ro l'v l'):Does prog 189 #[l'v,vF 112 #[] #[]] ro [] (p1 (fun s_=>s_) 9 Aa3 r):=by
 unfold Qf at b
 refine Al follows func189 rfl 26 rfl _ fz2 (fun s=> ?_)
 refine AZ rfl<|Ad<|rn 1 rfl<|rL (Rd.shp hl') rfl<|kC b fun u b=>cB 10<|SC (Ls:=[]) 9 Aa3 ([]) (l'.length:Int) rfl rfl rfl rfl rfl rfl rfl rfl rfl rfl 8796093022208 rfl u (fun _ _ _ _ _=>Iff.rfl) (fun v y z=> ?_)
 refine rz rfl<|Aa fun C w=>Ad<|rn 1 rfl<|rL (Rd.shp hl') rfl<|rz rfl<|Ai<|Bw _ (Sub.pick [y] [0] rfl)<|AH (fun tt ll nn=> ∃(h:Nat) (d:List (List UInt8)) (a:Int),(Kb N l' h d a=some r)∧ ∃(c:List Bl),Sl 9 Aa3 v d c∧Is [(1,vF 112 #[] #[]),(5,v),(11,l'v),(12,vI (l'.length:Int)),(13,vI a)] (List.flatten [c]) tt ll∧nn=h+1) (N+1) ?_ ?_
 ·exact⟨N,(List.replicate ((l'.length:Int)).toNat ([])),0,b,y,z,Ah rfl rfl,rfl⟩
 clear b;rintro t l _ ⟨h,d,a,b,c,e,⟨⟨T,rfl⟩,rfl⟩,rfl⟩
 rcases h with _|h
 ·exact absurd b (by simp [Kb])
 rw [Kb] at b
 refine AZ rfl<|Aa fun A i=>aD b rfl (fun j b=> ?_) (fun j b=> ?_)
 ·refine Ab<|i _ _ ?_
  refine Aa fun B k=>Ai<|Ad<|rn 1 rfl<|kC b fun f b=>rI (Rd.shp hl') f rfl<|rE (Aw hl') f 0 rfl<|rA rfl fun m=>ry [0] rfl<|Ag<|rm 4 [0] rfl<|kB b fun n o b=>rc _ (BF (caps:=[]) rfl nG rfl) (dH N ((l'[a.toNat]!).1) ((l'[a.toNat]!).2.1) ((l'[a.toNat]!).2.2) _ o)<|kC b fun g b=>rI (Sl.shp e) g rfl<|Rb (Ls:=[(OI m ((l'[a.toNat]!).1) ((l'[a.toNat]!).2.1) ((l'[a.toNat]!).2.2)),c]) 1 (En:=Aa3) (d[a.toNat]!) n (a.toNat) 0 rfl rfl rfl e (Dc g) rfl rfl rfl (IP rfl) rfl (fun p x=> ?_)
  refine Af<|k _ _ ?_
  refine Ag<|kC b fun q b=>rX q rfl<|rz rfl<|fg _ (Sub.pick [(OI m ((l'[a.toNat]!).1) ((l'[a.toNat]!).2.1) ((l'[a.toNat]!).2.2)),p] [1] rfl) ?_
  exact⟨h+1,by omega,h,(d).set (a.toNat) n,(a+1),b,p,x,Ah rfl rfl,rfl⟩
 refine AI<|w _ _ ?_
 refine AZ rfl ?_
 cases b
 refine Bb (fun D=>Hw (v0:=v) e (EH (Sub.pick [c] [0] rfl)) rfl (EJ rfl))
def JG(N:Nat)(n:Int):Option Int:=(Az N n 1 8).bind fun a=>(Aq N a 7).bind fun b=>some b
theorem Rj(N n r)(a:JG N n=some r):Gives prog 114 #[vI n] (vI r):=by
 unfold JG at a
 refine Av follows func114 rfl 6 rfl _ fz1 (fun b=> ?_)
 refine AZ rfl<|Ad<|rn 1 rfl<|kB a fun e c a=>rc _ (cF EV) (AP N n 1 8 _ c)<|kB a fun f d a=>rc _ (cF Bj) (Ay N e 7 _ d)<|rz rfl ?_
 cases a
 exact aR eE1
def LN(N:Nat)(_:List UInt8)(c:Int)(a:Int):Option Int:=(HR N c).bind fun e=>(JG N a).bind fun d=>(AE N ([e,d])).bind fun b=>some b
theorem dG(N x_0 x_1 x_2 r)(b:LN N x_0 x_1 x_2=some r):Gives prog 113 #[vA #[vS x_0,vI x_1,vI x_2]] (vI r):=by
 unfold LN at b
 refine Av follows func113 rfl 11 rfl _ fz1 (fun h=> ?_)
 refine Ad<|rA rfl fun n=>rz rfl<|Aa fun t i=>BE [(some 9,false),(some 10,false)] (conG prog [(10,fun _ _ v_ L_ U_=> ∀e,HR N x_1=some e→ ∀f,JG N x_2=some f→ ∀g,AE N ([e,f])=some g→(pV (vI g)) v_ L_ U_)]) [] (by decide+kernel) (fun u=>AQ)<|rm 2 [0] rfl<|kB b fun j c b=>rc _ (cF Zm) (Pj N x_1 _ c)<|rm 2 [0] rfl<|kB b fun l d b=>rc _ (cF VQ) (Rj N x_2 _ d)<|Kq (Ls:=[(OI n x_0 x_1 x_2)]) 42 BI [j,l] [vI j,vI l] [vI 0,vI 0] rfl rfl rfl rfl rfl rfl rfl (by kernel_rfl) (by kernel_rfl) rfl rfl rfl (fun p q m=> ?_)
 refine kB b fun s a b=>rg _ (cF ED) (fun o w z_=>BQ N ([j,l]) _ a z_.view p ((Ax m (Ak (Ls:=[(OI n x_0 x_1 x_2),q]) (k:=1) rfl rfl)) o w z_)) (fun _ _ v_ L_ U_=>⟨fun h_=>h_ _ c _ d _ a,fun h_=>by intro _ e_;cases q1 (e_.symm.trans c);intro _ e_;cases q1 (e_.symm.trans d);intro _ e_;cases q1 (e_.symm.trans a);exact h_⟩) ?_
 refine rz rfl<|i _ _ ?_
 cases b
 exact aR eE1
def Mc(N:Nat)(i:Int)(e:List UInt8)(f:Int)(b:Int)(a:List (List UInt8)):Option Int:=ck (0≤i∧i<(a.length:Int)) ((EB N (a[i.toNat]!)).bind fun g=>(Aq N g 4).bind fun h=>(AU N a i).bind fun j=>(LN N e f b).bind fun c=>(AE N ([h,j,c])).bind fun d=>some d)
theorem Wq(N i x_0 x_1 x_2 b r)(c:Mc N i x_0 x_1 x_2 b=some r)(ro)(l:Nat)(a)(e:Rd Aa3 ro a b)(f:Blk ro l [a])(m:Nat)(n:Blk ro m [vF 113 #[] #[]]):Does prog 191 #[vI i,vA #[vS x_0,vI x_1,vI x_2],vP l 0,vP m 0] ro [] (pV (vI r)):=by
 unfold Mc at c
 refine Al follows func191 rfl 21 rfl _ fz4 (fun z=> ?_)
 refine Ad<|rA rfl fun G=>rz rfl<|Aa fun J A=>BE [(some 15,false),(some 19,false),(some 20,false)] (conG prog [(15,cV (AU N b i) fun j=>vI j),(20,fun _ _ v_ L_ U_=> ∀j,EB N (b[i.toNat]!)=some j→ ∀t,Aq N j 4=some t→ ∀u,AU N b i=some u→ ∀v,LN N x_0 x_1 x_2=some v→ ∀x,AE N ([t,u,v])=some x→(pV (vI x)) v_ L_ U_)]) [] (by decide+kernel) (fun K=>AQ)<|Hr a (vs:=[a]) (o:=0) rfl rfl (AS f) rfl<|rn 1 rfl<|kC c fun y c=>rI (Rd.shp e) y rfl<|rE (Aw e) y 0 rfl<|kB c fun H p c=>rc _ (cF Nz) (LM N (b[i.toNat]!) _ p)<|kB c fun B q c=>rc _ (cF Bj) (Ay N H 4 _ q)<|Hr a (vs:=[a]) (o:=0) rfl rfl (AS f) rfl<|rn 1 rfl<|kB c fun C d c=>rg _ (cF Od) (fun o w z_=>HQ N b i _ d z_.view a (z_.r e)) (Ha d)<|Hr (vF 113 #[] #[]) (vs:=[vF 113 #[] #[]]) (o:=0) rfl rfl (AS n) rfl<|rm 1 [0] rfl<|kB c fun s g c=>rc _ (BF (caps:=[]) rfl nF rfl) (dG N x_0 x_1 x_2 _ g) ?_
 refine Kq (Ls:=[(OI G x_0 x_1 x_2)]) 42 BI [B,C,s] [vI B,vI C,vI s] [vI 0,vI 0,vI 0] rfl rfl rfl rfl rfl rfl rfl (by kernel_rfl) (by kernel_rfl) rfl rfl rfl (fun D E F=> ?_)
 refine kB c fun I h c=>rg _ (cF ED) (fun o w z_=>BQ N ([B,C,s]) _ h z_.view D ((Ax F (Ak (Ls:=[(OI G x_0 x_1 x_2),E]) (k:=1) rfl rfl)) o w z_)) (fun _ _ v_ L_ U_=>⟨fun h_=>h_ _ p _ q _ d _ g _ h,fun h_=>by intro _ e_;cases q1 (e_.symm.trans p);intro _ e_;cases q1 (e_.symm.trans q);intro _ e_;cases q1 (e_.symm.trans d);intro _ e_;cases q1 (e_.symm.trans g);intro _ e_;cases q1 (e_.symm.trans h);exact h_⟩) ?_
 refine rz rfl<|A _ _ ?_
 cases c
 exact aR eV1
def Kf(N:Nat)(c:List (List UInt8×Int×Int))(b:List (List UInt8)):Nat→Int→Option (Int×Int)
  |0,_=>none
  |e+1,a=>if a<(c.length:Int)then ck (0≤a∧a<(c.length:Int)) ((Mc N a ((c[a.toNat]!).1) ((c[a.toNat]!).2.1) ((c[a.toNat]!).2.2) b).bind fun d=>if(d:Int)≠0 then some (a,d)else ck (R64 (a+1)) ((Kf N c b e) (a+1)))else some (0,0)
def NV(N:Nat)(c:List (List UInt8×Int×Int))(b:Int)(a:List (List UInt8)):Option (Int×Int):=if(c.length:Int)>b then some (0,2)else Kf N c a N 0
theorem aP(N l' most d r)(c:NV N l' most d=some r)(ro l'v)(hl':Rd Ae6 ro l'v l')(a:Nat)(e)(i:Rd Aa3 ro e d)(g:Blk ro a [e])(b:Nat)(h:Blk ro b [vF 113 #[] #[]]):Does prog 190 #[l'v,vI most,vF 191 #[] #[vP a 0,vP b 0]] ro [] (pV (vT #[vI r.1,vI r.2])):=by
 unfold NV at c
 refine Al follows func190 rfl 31 rfl _ fz3 (fun v=> ?_)
 refine AZ rfl<|Aa fun E x=>Ad<|rn 1 rfl<|rL (Rd.shp hl') rfl<|rz rfl<|aD c rfl (fun y c=> ?_) (fun y c=> ?_)
 ·refine AZ rfl ?_
  cases c
  exact aR eV2
 refine Ab<|x _ _ ?_
 refine Aa fun F z=>Ad<|rn 1 rfl<|rL (Rd.shp hl') rfl<|rz rfl<|Ai<|AH (fun tt ll nn=> ∃(k:Nat) (f:Int),(Kf N l' d k f=some r)∧Is [(2,vF 191 #[] #[vP a 0,vP b 0]),(15,l'v),(16,vI (l'.length:Int)),(17,vI f)] [] tt ll∧nn=k+1) (N+1) ?_ ?_
 ·exact⟨N,0,c,Ah rfl rfl,rfl⟩
 clear c;rintro t l _ ⟨k,f,c,⟨⟨T,rfl⟩,rfl⟩,rfl⟩
 rcases k with _|k
 ·exact absurd c (by simp [Kf])
 rw [Kf] at c
 refine AZ rfl<|Aa fun A m=>aD c rfl (fun n c=> ?_) (fun n c=> ?_)
 ·refine Ab<|m _ _ ?_
  refine Aa fun B p=>Ai<|Ad<|rn 1 rfl<|kC c fun j c=>rI (Rd.shp hl') j rfl<|rE (Aw hl') j 0 rfl<|rA rfl fun C=>ry [0] rfl<|Ad<|rm 3 [0] rfl<|kB c fun D q c=>gV _ (BF (caps:=[vP a 0,vP b 0]) rfl mq rfl) (fun o w z_=>Wq N f ((l'[f.toNat]!).1) ((l'[f.toNat]!).2.1) ((l'[f.toNat]!).2.2) d _ q z_.view a e (z_.r i) (AS g o w z_) b (AS h o w z_))<|rz rfl<|AZ rfl<|aN c rfl (fun s c=> ?_) (fun s c=> ?_)
  ·refine AZ rfl ?_
   cases c
   exact aR eV2
  refine Ab<|p _ _ ?_
  refine Ag<|kC c fun u c=>rX u rfl<|rz rfl<|fg _ (Sub.of (suC _ suN)) ?_
  exact⟨k+1,by omega,k,(f+1),c,Ah rfl rfl,rfl⟩
 refine AI<|z _ _ ?_
 refine AZ rfl ?_
 cases c
 exact aR eV2
def Qe(N:Nat)(c:List (List UInt8×Int×Int))(b:Int):Option (Int×Int):=(Qf N c).bind fun d=>(NV N c b d).bind fun a=>some (a.1,a.2)
theorem aK(N l' most r)(a:Qe N l' most=some r)(ro l'v)(hl':Rd Ae6 ro l'v l'):Does prog 111 #[l'v,vI most,vF 112 #[] #[],vF 113 #[] #[]] ro [] (pV (vT #[vI r.1,vI r.2])):=by
 unfold Qe at a
 refine Al follows func111 rfl 20 rfl _ fz4 (fun d=> ?_)
 refine Ad<|rA rfl fun b=>rz rfl<|Ad<|rn 2 rfl<|kB a fun j g a=>gS (Ls:=[(UM b (vF 113 #[] #[]))]) (cF mw) (fun o w z_=>aL N l' _ g z_.view l'v ((Aw hl') o w z_)) (fun e i h=> ?_)
 refine rA rfl fun f=>r_s (List.flatten [(OJ f e),(UM b (vF 113 #[] #[])),i]) 0 _ _ _ _ _ (#[e]) rfl rfl rfl (Ga rfl (Sl.shp h)) (.ofS rfl rfl (Ae (Shp.one (Sl.shp h)) Bv)) rfl rfl<|Af<|Ad<|rn 2 rfl<|r_W (vF 191 #[] #[vP f 0,vP b 0]) rfl (IA rfl)<|kB a fun l c a=>gV _ (cF ms) (fun o w z_=>aP N l' most j _ c z_.view l'v ((Aw hl') o w z_) f e ((Ax h (Ak (Ls:=[(OJ f e),(UM b (vF 113 #[] #[])),i]) (k:=2) rfl rfl)) o w z_) (Cw 0 rfl rfl o w z_) b (Cw 1 rfl rfl o w z_))<|rz rfl ?_
 cases a
 exact aR eV2
def KR(N:Nat)(c:Ao):Option (Int×Int):=(Qe N c.2.2.2.2.2.2.2.2.2.2.2.2.1 8).bind fun a=>some (a.1,a.2)
theorem aT(N c r)(a:KR N c=some r)(ro)(cv:AD)(hc:Aa1 ro cv c):Does prog 52 #[vA (Ac c cv)] ro [] (pV (vT #[vI r.1,vI r.2])):=by
 unfold KR at a
 refine Al follows func52 rfl 10 rfl _ fz1 (fun b=> ?_)
 refine Ad<|rA rfl fun e=>rz rfl<|Ad<|rm 3 [0] rfl<|kB a fun f d a=>gV _ (cF nH) (fun o w z_=>aK N c.2.2.2.2.2.2.2.2.2.2.2.2.1 8 _ d z_.view cv.2.2.2.2.2.2.2.2.2.2.2.1 ((Aw hc.2.2.2.2.2.2.2.2.2.2.2.1) o w z_))<|rz rfl ?_
 cases a
 exact aR eV2
def No(_:Nat)(a:List UInt8)(_:Int):Option (List UInt8):=some a
theorem Vn(N x_0 x_1 r)(b:No N x_0 x_1=some r):Gives prog 116 #[vA #[vS x_0,vI x_1]] (vS r):=by
 unfold No at b
 refine Av follows func116 rfl 5 rfl _ fz1 (fun a=> ?_)
 refine Ad<|rA rfl fun c=>rz rfl<|AY [0] rfl ?_
 cases b
 exact aR eE1
def Hk(N:Nat)(b:List (List UInt8×Int)):Nat→List (List UInt8)→Int→Option (List (List UInt8))
  |0,_,_=>none
  |e+1,c,a=>if a<(b.length:Int)then ck (0≤a∧a<(b.length:Int)) ((No N ((b[a.toNat]!).1) ((b[a.toNat]!).2)).bind fun d=>ck (0≤a∧a<(c.length:Int)) (ck (R64 (a+1)) ((Hk N b e) ((c).set (a.toNat) d) (a+1))))else some c
def Mw(N:Nat)(a:List (List UInt8×Int)):Option (List (List UInt8)):=ck (0≤(a.length:Int)∧(a.length:Int)≤8796093022208) (Hk N a N ((List.replicate ((a.length:Int)).toNat ([]))) 0)
theorem Tz(N l' r)(b:Mw N l'=some r)(ro l'v)(hl':Rd Ae7 ro l'v l'):Does prog 192 #[l'v,vF 116 #[] #[]] ro [] (p1 (fun s_=>s_) 9 Aa3 r):=by
 unfold Mw at b
 refine Al follows func192 rfl 26 rfl _ fz2 (fun s=> ?_)
 refine AZ rfl<|Ad<|rn 1 rfl<|rL (Rd.shp hl') rfl<|kC b fun u b=>cB 10<|SC (Ls:=[]) 9 Aa3 ([]) (l'.length:Int) rfl rfl rfl rfl rfl rfl rfl rfl rfl rfl 8796093022208 rfl u (fun _ _ _ _ _=>Iff.rfl) (fun v y z=> ?_)
 refine rz rfl<|Aa fun C w=>Ad<|rn 1 rfl<|rL (Rd.shp hl') rfl<|rz rfl<|Ai<|Bw _ (Sub.pick [y] [0] rfl)<|AH (fun tt ll nn=> ∃(h:Nat) (d:List (List UInt8)) (a:Int),(Hk N l' h d a=some r)∧ ∃(c:List Bl),Sl 9 Aa3 v d c∧Is [(1,vF 116 #[] #[]),(5,v),(11,l'v),(12,vI (l'.length:Int)),(13,vI a)] (List.flatten [c]) tt ll∧nn=h+1) (N+1) ?_ ?_
 ·exact⟨N,(List.replicate ((l'.length:Int)).toNat ([])),0,b,y,z,Ah rfl rfl,rfl⟩
 clear b;rintro t l _ ⟨h,d,a,b,c,e,⟨⟨T,rfl⟩,rfl⟩,rfl⟩
 rcases h with _|h
 ·exact absurd b (by simp [Hk])
 rw [Hk] at b
 refine AZ rfl<|Aa fun A i=>aD b rfl (fun j b=> ?_) (fun j b=> ?_)
 ·refine Ab<|i _ _ ?_
  refine Aa fun B k=>Ai<|Ad<|rn 1 rfl<|kC b fun f b=>rI (Rd.shp hl') f rfl<|rE (Aw hl') f 0 rfl<|rA rfl fun m=>ry [0] rfl<|Ag<|rm 4 [0] rfl<|kB b fun n o b=>rc _ (BF (caps:=[]) rfl nD rfl) (Vn N ((l'[a.toNat]!).1) ((l'[a.toNat]!).2) _ o)<|kC b fun g b=>rI (Sl.shp e) g rfl<|Rb (Ls:=[(RI m ((l'[a.toNat]!).1) ((l'[a.toNat]!).2)),c]) 1 (En:=Aa3) (d[a.toNat]!) n (a.toNat) 0 rfl rfl rfl e (Dc g) rfl rfl rfl (IP rfl) rfl (fun p x=> ?_)
  refine Af<|k _ _ ?_
  refine Ag<|kC b fun q b=>rX q rfl<|rz rfl<|fg _ (Sub.pick [(RI m ((l'[a.toNat]!).1) ((l'[a.toNat]!).2)),p] [1] rfl) ?_
  exact⟨h+1,by omega,h,(d).set (a.toNat) n,(a+1),b,p,x,Ah rfl rfl,rfl⟩
 refine AI<|w _ _ ?_
 refine AZ rfl ?_
 cases b
 refine Bb (fun D=>Hw (v0:=v) e (EH (Sub.pick [c] [0] rfl)) rfl (EJ rfl))
def Lz(N:Nat)(_:List UInt8)(a:Int):Option Int:=(JG N a).bind fun b=>some b
theorem Vm(N x_0 x_1 r)(a:Lz N x_0 x_1=some r):Gives prog 117 #[vA #[vS x_0,vI x_1]] (vI r):=by
 unfold Lz at a
 refine Av follows func117 rfl 6 rfl _ fz1 (fun b=> ?_)
 refine Ad<|rA rfl fun d=>rz rfl<|Ad<|rm 2 [0] rfl<|kB a fun e c a=>rc _ (cF VQ) (Rj N x_1 _ c)<|rz rfl ?_
 cases a
 exact aR eE1
def Jq(N:Nat)(i:Int)(d:List UInt8)(e:Int)(a:List (List UInt8)):Option Int:=ck (0≤i∧i<(a.length:Int)) ((EB N (a[i.toNat]!)).bind fun f=>(Aq N f 4).bind fun g=>(AU N a i).bind fun h=>(Lz N d e).bind fun b=>(AE N ([g,h,b])).bind fun c=>some c)
theorem RQ(N i x_0 x_1 b r)(c:Jq N i x_0 x_1 b=some r)(ro)(l:Nat)(a)(e:Rd Aa3 ro a b)(f:Blk ro l [a])(m:Nat)(n:Blk ro m [vF 117 #[] #[]]):Does prog 194 #[vI i,vA #[vS x_0,vI x_1],vP l 0,vP m 0] ro [] (pV (vI r)):=by
 unfold Jq at c
 refine Al follows func194 rfl 21 rfl _ fz4 (fun z=> ?_)
 refine Ad<|rA rfl fun G=>rz rfl<|Aa fun J A=>BE [(some 15,false),(some 19,false),(some 20,false)] (conG prog [(15,cV (AU N b i) fun j=>vI j),(20,fun _ _ v_ L_ U_=> ∀j,EB N (b[i.toNat]!)=some j→ ∀t,Aq N j 4=some t→ ∀u,AU N b i=some u→ ∀v,Lz N x_0 x_1=some v→ ∀x,AE N ([t,u,v])=some x→(pV (vI x)) v_ L_ U_)]) [] (by decide+kernel) (fun K=>AQ)<|Hr a (vs:=[a]) (o:=0) rfl rfl (AS f) rfl<|rn 1 rfl<|kC c fun y c=>rI (Rd.shp e) y rfl<|rE (Aw e) y 0 rfl<|kB c fun H p c=>rc _ (cF Nz) (LM N (b[i.toNat]!) _ p)<|kB c fun B q c=>rc _ (cF Bj) (Ay N H 4 _ q)<|Hr a (vs:=[a]) (o:=0) rfl rfl (AS f) rfl<|rn 1 rfl<|kB c fun C d c=>rg _ (cF Od) (fun o w z_=>HQ N b i _ d z_.view a (z_.r e)) (Ha d)<|Hr (vF 117 #[] #[]) (vs:=[vF 117 #[] #[]]) (o:=0) rfl rfl (AS n) rfl<|rm 1 [0] rfl<|kB c fun s g c=>rc _ (BF (caps:=[]) rfl nC rfl) (Vm N x_0 x_1 _ g) ?_
 refine Kq (Ls:=[(RI G x_0 x_1)]) 42 BI [B,C,s] [vI B,vI C,vI s] [vI 0,vI 0,vI 0] rfl rfl rfl rfl rfl rfl rfl (by kernel_rfl) (by kernel_rfl) rfl rfl rfl (fun D E F=> ?_)
 refine kB c fun I h c=>rg _ (cF ED) (fun o w z_=>BQ N ([B,C,s]) _ h z_.view D ((Ax F (Ak (Ls:=[(RI G x_0 x_1),E]) (k:=1) rfl rfl)) o w z_)) (fun _ _ v_ L_ U_=>⟨fun h_=>h_ _ p _ q _ d _ g _ h,fun h_=>by intro _ e_;cases q1 (e_.symm.trans p);intro _ e_;cases q1 (e_.symm.trans q);intro _ e_;cases q1 (e_.symm.trans d);intro _ e_;cases q1 (e_.symm.trans g);intro _ e_;cases q1 (e_.symm.trans h);exact h_⟩) ?_
 refine rz rfl<|A _ _ ?_
 cases c
 exact aR eV1
def Hl(N:Nat)(c:List (List UInt8×Int))(b:List (List UInt8)):Nat→Int→Option (Int×Int)
  |0,_=>none
  |e+1,a=>if a<(c.length:Int)then ck (0≤a∧a<(c.length:Int)) ((Jq N a ((c[a.toNat]!).1) ((c[a.toNat]!).2) b).bind fun d=>if(d:Int)≠0 then some (a,d)else ck (R64 (a+1)) ((Hl N c b e) (a+1)))else some (0,0)
def KH(N:Nat)(c:List (List UInt8×Int))(b:Int)(a:List (List UInt8)):Option (Int×Int):=if(c.length:Int)>b then some (0,2)else Hl N c a N 0
theorem TA(N l' most d r)(c:KH N l' most d=some r)(ro l'v)(hl':Rd Ae7 ro l'v l')(a:Nat)(e)(i:Rd Aa3 ro e d)(g:Blk ro a [e])(b:Nat)(h:Blk ro b [vF 117 #[] #[]]):Does prog 193 #[l'v,vI most,vF 194 #[] #[vP a 0,vP b 0]] ro [] (pV (vT #[vI r.1,vI r.2])):=by
 unfold KH at c
 refine Al follows func193 rfl 31 rfl _ fz3 (fun v=> ?_)
 refine AZ rfl<|Aa fun E x=>Ad<|rn 1 rfl<|rL (Rd.shp hl') rfl<|rz rfl<|aD c rfl (fun y c=> ?_) (fun y c=> ?_)
 ·refine AZ rfl ?_
  cases c
  exact aR eV2
 refine Ab<|x _ _ ?_
 refine Aa fun F z=>Ad<|rn 1 rfl<|rL (Rd.shp hl') rfl<|rz rfl<|Ai<|AH (fun tt ll nn=> ∃(k:Nat) (f:Int),(Hl N l' d k f=some r)∧Is [(2,vF 194 #[] #[vP a 0,vP b 0]),(15,l'v),(16,vI (l'.length:Int)),(17,vI f)] [] tt ll∧nn=k+1) (N+1) ?_ ?_
 ·exact⟨N,0,c,Ah rfl rfl,rfl⟩
 clear c;rintro t l _ ⟨k,f,c,⟨⟨T,rfl⟩,rfl⟩,rfl⟩
 rcases k with _|k
 ·exact absurd c (by simp [Hl])
 rw [Hl] at c
 refine AZ rfl<|Aa fun A m=>aD c rfl (fun n c=> ?_) (fun n c=> ?_)
 ·refine Ab<|m _ _ ?_
  refine Aa fun B p=>Ai<|Ad<|rn 1 rfl<|kC c fun j c=>rI (Rd.shp hl') j rfl<|rE (Aw hl') j 0 rfl<|rA rfl fun C=>ry [0] rfl<|Ad<|rm 3 [0] rfl<|kB c fun D q c=>gV _ (BF (caps:=[vP a 0,vP b 0]) rfl mm rfl) (fun o w z_=>RQ N f ((l'[f.toNat]!).1) ((l'[f.toNat]!).2) d _ q z_.view a e (z_.r i) (AS g o w z_) b (AS h o w z_))<|rz rfl<|AZ rfl<|aN c rfl (fun s c=> ?_) (fun s c=> ?_)
  ·refine AZ rfl ?_
   cases c
   exact aR eV2
  refine Ab<|p _ _ ?_
  refine Ag<|kC c fun u c=>rX u rfl<|rz rfl<|fg _ (Sub.of (suC _ suN)) ?_
  exact⟨k+1,by omega,k,(f+1),c,Ah rfl rfl,rfl⟩
 refine AI<|z _ _ ?_
 refine AZ rfl ?_
 cases c
 exact aR eV2
def Mv(N:Nat)(c:List (List UInt8×Int))(b:Int):Option (Int×Int):=(Mw N c).bind fun d=>(KH N c b d).bind fun a=>some (a.1,a.2)
theorem Ty(N l' most r)(a:Mv N l' most=some r)(ro l'v)(hl':Rd Ae7 ro l'v l'):Does prog 115 #[l'v,vI most,vF 116 #[] #[],vF 117 #[] #[]] ro [] (pV (vT #[vI r.1,vI r.2])):=by
 unfold Mv at a
 refine Al follows func115 rfl 20 rfl _ fz4 (fun d=> ?_)
 refine Ad<|rA rfl fun b=>rz rfl<|Ad<|rn 2 rfl<|kB a fun j g a=>gS (Ls:=[(UL b (vF 117 #[] #[]))]) (cF mo) (fun o w z_=>Tz N l' _ g z_.view l'v ((Aw hl') o w z_)) (fun e i h=> ?_)
 refine rA rfl fun f=>r_s (List.flatten [(OJ f e),(UL b (vF 117 #[] #[])),i]) 0 _ _ _ _ _ (#[e]) rfl rfl rfl (Ga rfl (Sl.shp h)) (.ofS rfl rfl (Ae (Shp.one (Sl.shp h)) Bv)) rfl rfl<|Af<|Ad<|rn 2 rfl<|r_W (vF 194 #[] #[vP f 0,vP b 0]) rfl (IA rfl)<|kB a fun l c a=>gV _ (cF mn) (fun o w z_=>TA N l' most j _ c z_.view l'v ((Aw hl') o w z_) f e ((Ax h (Ak (Ls:=[(OJ f e),(UL b (vF 117 #[] #[])),i]) (k:=2) rfl rfl)) o w z_) (Cw 0 rfl rfl o w z_) b (Cw 1 rfl rfl o w z_))<|rz rfl ?_
 cases a
 exact aR eV2
def HG(N:Nat)(c:Ao):Option (Int×Int):=(Mv N c.2.2.2.2.2.2.2.2.2.2.2.2.2.1 8).bind fun a=>some (a.1,a.2)
theorem TG(N c r)(a:HG N c=some r)(ro)(cv:AD)(hc:Aa1 ro cv c):Does prog 53 #[vA (Ac c cv)] ro [] (pV (vT #[vI r.1,vI r.2])):=by
 unfold HG at a
 refine Al follows func53 rfl 10 rfl _ fz1 (fun b=> ?_)
 refine Ad<|rA rfl fun e=>rz rfl<|Ad<|rm 3 [0] rfl<|kB a fun f d a=>gV _ (cF nE) (fun o w z_=>Ty N c.2.2.2.2.2.2.2.2.2.2.2.2.2.1 8 _ d z_.view cv.2.2.2.2.2.2.2.2.2.2.2.2.1 ((Aw hc.2.2.2.2.2.2.2.2.2.2.2.2.1) o w z_))<|rz rfl ?_
 cases a
 exact aR eV2
def Pm(_:Nat)(a:List UInt8)(_:Int)(_:Int)(_:Int):Option (List UInt8):=some a
theorem YA(N x_0 x_1 x_2 x_3 r)(b:Pm N x_0 x_1 x_2 x_3=some r):Gives prog 119 #[vA #[vS x_0,vI x_1,vI x_2,vI x_3]] (vS r):=by
 unfold Pm at b
 refine Av follows func119 rfl 5 rfl _ fz1 (fun a=> ?_)
 refine Ad<|rA rfl fun c=>rz rfl<|AY [0] rfl ?_
 cases b
 exact aR eE1
def Ip(N:Nat)(b:List (List UInt8×Int×Int×Int)):Nat→List (List UInt8)→Int→Option (List (List UInt8))
  |0,_,_=>none
  |e+1,c,a=>if a<(b.length:Int)then ck (0≤a∧a<(b.length:Int)) ((Pm N ((b[a.toNat]!).1) ((b[a.toNat]!).2.1) ((b[a.toNat]!).2.2.1) ((b[a.toNat]!).2.2.2)).bind fun d=>ck (0≤a∧a<(c.length:Int)) (ck (R64 (a+1)) ((Ip N b e) ((c).set (a.toNat) d) (a+1))))else some c
def Oo(N:Nat)(a:List (List UInt8×Int×Int×Int)):Option (List (List UInt8)):=ck (0≤(a.length:Int)∧(a.length:Int)≤8796093022208) (Ip N a N ((List.replicate ((a.length:Int)).toNat ([]))) 0)
theorem Wv(N l' r)(b:Oo N l'=some r)(ro l'v)(hl':Rd Ae8 ro l'v l'):Does prog 195 #[l'v,vF 119 #[] #[]] ro [] (p1 (fun s_=>s_) 9 Aa3 r):=by
 unfold Oo at b
 refine Al follows func195 rfl 26 rfl _ fz2 (fun s=> ?_)
 refine AZ rfl<|Ad<|rn 1 rfl<|rL (Rd.shp hl') rfl<|kC b fun u b=>cB 10<|SC (Ls:=[]) 9 Aa3 ([]) (l'.length:Int) rfl rfl rfl rfl rfl rfl rfl rfl rfl rfl 8796093022208 rfl u (fun _ _ _ _ _=>Iff.rfl) (fun v y z=> ?_)
 refine rz rfl<|Aa fun C w=>Ad<|rn 1 rfl<|rL (Rd.shp hl') rfl<|rz rfl<|Ai<|Bw _ (Sub.pick [y] [0] rfl)<|AH (fun tt ll nn=> ∃(h:Nat) (d:List (List UInt8)) (a:Int),(Ip N l' h d a=some r)∧ ∃(c:List Bl),Sl 9 Aa3 v d c∧Is [(1,vF 119 #[] #[]),(5,v),(11,l'v),(12,vI (l'.length:Int)),(13,vI a)] (List.flatten [c]) tt ll∧nn=h+1) (N+1) ?_ ?_
 ·exact⟨N,(List.replicate ((l'.length:Int)).toNat ([])),0,b,y,z,Ah rfl rfl,rfl⟩
 clear b;rintro t l _ ⟨h,d,a,b,c,e,⟨⟨T,rfl⟩,rfl⟩,rfl⟩
 rcases h with _|h
 ·exact absurd b (by simp [Ip])
 rw [Ip] at b
 refine AZ rfl<|Aa fun A i=>aD b rfl (fun j b=> ?_) (fun j b=> ?_)
 ·refine Ab<|i _ _ ?_
  refine Aa fun B k=>Ai<|Ad<|rn 1 rfl<|kC b fun f b=>rI (Rd.shp hl') f rfl<|rE (Aw hl') f 0 rfl<|rA rfl fun m=>ry [0] rfl<|Ag<|rm 4 [0] rfl<|kB b fun n o b=>rc _ (BF (caps:=[]) rfl nA rfl) (YA N ((l'[a.toNat]!).1) ((l'[a.toNat]!).2.1) ((l'[a.toNat]!).2.2.1) ((l'[a.toNat]!).2.2.2) _ o)<|kC b fun g b=>rI (Sl.shp e) g rfl<|Rb (Ls:=[(Nh m ((l'[a.toNat]!).1) ((l'[a.toNat]!).2.1) ((l'[a.toNat]!).2.2.1) ((l'[a.toNat]!).2.2.2)),c]) 1 (En:=Aa3) (d[a.toNat]!) n (a.toNat) 0 rfl rfl rfl e (Dc g) rfl rfl rfl (IP rfl) rfl (fun p x=> ?_)
  refine Af<|k _ _ ?_
  refine Ag<|kC b fun q b=>rX q rfl<|rz rfl<|fg _ (Sub.pick [(Nh m ((l'[a.toNat]!).1) ((l'[a.toNat]!).2.1) ((l'[a.toNat]!).2.2.1) ((l'[a.toNat]!).2.2.2)),p] [1] rfl) ?_
  exact⟨h+1,by omega,h,(d).set (a.toNat) n,(a+1),b,p,x,Ah rfl rfl,rfl⟩
 refine AI<|w _ _ ?_
 refine AZ rfl ?_
 cases b
 refine Bb (fun D=>Hw (v0:=v) e (EH (Sub.pick [c] [0] rfl)) rfl (EJ rfl))
def Jk(N:Nat)(c:Int)(a:Bool):Option Int:=(JG N c).bind fun e=>(Aq N a 7).bind fun d=>(AE N ([e,d])).bind fun b=>some b
def Kj(N:Nat)(_:List UInt8)(a:Int)(b:Int)(c:Int):Option Int:=(Az N b 0 65535).bind fun e=>if e=true then(Az N c 1 1048576).bind fun d=>Jk N a d else Jk N a false
theorem Yz(N x_0 x_1 x_2 x_3 r)(b:Kj N x_0 x_1 x_2 x_3=some r):Gives prog 120 #[vA #[vS x_0,vI x_1,vI x_2,vI x_3]] (vI r):=by
 unfold Kj at b
 refine Av follows func120 rfl 19 rfl _ fz1 (fun g=> ?_)
 refine Ad<|rA rfl fun h=>rz rfl<|Cb (fun tt ll=> ∃(a:Bool),(Jk N x_1 a=some r)∧Is [(1,vP h 0),(3,vB a)] (Nh h x_0 x_1 x_2 x_3) tt ll) ?_ ?_
 ·refine Ag<|rm 2 [0] rfl<|kB b fun i d b=>rc _ (cF EV) (AP N x_2 0 65535 _ d)<|rn 1 rfl ?_
  rcases c:i with _|_
  ·replace b:=iB c b
   refine rz rfl<|fg _ (Sub.of (suK _ suN)) ?_
   exact⟨false,b,Ah (by first|rfl|(simp only [c];done)|(simp only [c];rfl)|(simp only [Bo];rfl)) rfl⟩
  replace b:=ifp c b
  refine rn 1 rfl<|r_y rfl<|rm 1 [0] rfl<|r_y rfl<|kB b fun j e b=>rc _ (cF EV) (AP N x_3 1 1048576 _ e)<|rz rfl<|fg _ (Sub.of (suK _ suN)) ?_
  exact⟨j,b,Ah (by first|rfl|(simp only [c];done)|(simp only [c];rfl)|(simp only [Bo];rfl)) rfl⟩
 clear b;rintro t l ⟨a,b,⟨T,rfl⟩,rfl⟩
 unfold Jk at b
 refine Ad<|rm 2 [0] rfl<|kB b fun q m b=>rc _ (cF VQ) (Rj N x_1 _ m)<|rn 1 rfl<|kB b fun s n b=>rc _ (cF Bj) (Ay N a 7 _ n)<|gB (Ls:=[(Nh h x_0 x_1 x_2 x_3)]) 42 BI [q,s] (fun u v p=> ?_)
 refine kB b fun x f b=>gV _ (cF ED) (fun o w z_=>BQ N ([q,s]) _ f z_.view u ((Ax p (Ak (Ls:=[(Nh h x_0 x_1 x_2 x_3),v]) (k:=1) rfl rfl)) o w z_))<|rz rfl ?_
 cases b
 exact aR eE1
def KF(N:Nat)(i:Int)(f:List UInt8)(g:Int)(b:Int)(c:Int)(a:List (List UInt8)):Option Int:=ck (0≤i∧i<(a.length:Int)) ((EB N (a[i.toNat]!)).bind fun h=>(Aq N h 4).bind fun j=>(AU N a i).bind fun k=>(Kj N f g b c).bind fun d=>(AE N ([j,k,d])).bind fun e=>some e)
theorem Tw(N i x_0 x_1 x_2 x_3 b r)(c:KF N i x_0 x_1 x_2 x_3 b=some r)(ro)(l:Nat)(a)(e:Rd Aa3 ro a b)(f:Blk ro l [a])(m:Nat)(n:Blk ro m [vF 120 #[] #[]]):Does prog 197 #[vI i,vA #[vS x_0,vI x_1,vI x_2,vI x_3],vP l 0,vP m 0] ro [] (pV (vI r)):=by
 unfold KF at c
 refine Al follows func197 rfl 21 rfl _ fz4 (fun z=> ?_)
 refine Ad<|rA rfl fun G=>rz rfl<|Aa fun J A=>BE [(some 15,false),(some 19,false),(some 20,false)] (conG prog [(15,cV (AU N b i) fun j=>vI j),(20,fun _ _ v_ L_ U_=> ∀j,EB N (b[i.toNat]!)=some j→ ∀t,Aq N j 4=some t→ ∀u,AU N b i=some u→ ∀v,Kj N x_0 x_1 x_2 x_3=some v→ ∀x,AE N ([t,u,v])=some x→(pV (vI x)) v_ L_ U_)]) [] (by decide+kernel) (fun K=>AQ)<|Hr a (vs:=[a]) (o:=0) rfl rfl (AS f) rfl<|rn 1 rfl<|kC c fun y c=>rI (Rd.shp e) y rfl<|rE (Aw e) y 0 rfl<|kB c fun H p c=>rc _ (cF Nz) (LM N (b[i.toNat]!) _ p)<|kB c fun B q c=>rc _ (cF Bj) (Ay N H 4 _ q)<|Hr a (vs:=[a]) (o:=0) rfl rfl (AS f) rfl<|rn 1 rfl<|kB c fun C d c=>rg _ (cF Od) (fun o w z_=>HQ N b i _ d z_.view a (z_.r e)) (Ha d)<|Hr (vF 120 #[] #[]) (vs:=[vF 120 #[] #[]]) (o:=0) rfl rfl (AS n) rfl<|rm 1 [0] rfl<|kB c fun s g c=>rc _ (BF (caps:=[]) rfl nz rfl) (Yz N x_0 x_1 x_2 x_3 _ g) ?_
 refine Kq (Ls:=[(Nh G x_0 x_1 x_2 x_3)]) 42 BI [B,C,s] [vI B,vI C,vI s] [vI 0,vI 0,vI 0] rfl rfl rfl rfl rfl rfl rfl (by kernel_rfl) (by kernel_rfl) rfl rfl rfl (fun D E F=> ?_)
 refine kB c fun I h c=>rg _ (cF ED) (fun o w z_=>BQ N ([B,C,s]) _ h z_.view D ((Ax F (Ak (Ls:=[(Nh G x_0 x_1 x_2 x_3),E]) (k:=1) rfl rfl)) o w z_)) (fun _ _ v_ L_ U_=>⟨fun h_=>h_ _ p _ q _ d _ g _ h,fun h_=>by intro _ e_;cases q1 (e_.symm.trans p);intro _ e_;cases q1 (e_.symm.trans q);intro _ e_;cases q1 (e_.symm.trans d);intro _ e_;cases q1 (e_.symm.trans g);intro _ e_;cases q1 (e_.symm.trans h);exact h_⟩) ?_
 refine rz rfl<|A _ _ ?_
 cases c
 exact aR eV1
def Iu(N:Nat)(b:List (List UInt8×Int×Int×Int))(c:List (List UInt8)):Nat→Int→Option (Int×Int)
  |0,_=>none
  |e+1,a=>if a<(b.length:Int)then ck (0≤a∧a<(b.length:Int)) ((KF N a ((b[a.toNat]!).1) ((b[a.toNat]!).2.1) ((b[a.toNat]!).2.2.1) ((b[a.toNat]!).2.2.2) c).bind fun d=>if(d:Int)≠0 then some (a,d)else ck (R64 (a+1)) ((Iu N b c e) (a+1)))else some (0,0)
def Mf(N:Nat)(c:List (List UInt8×Int×Int×Int))(b:Int)(a:List (List UInt8)):Option (Int×Int):=if(c.length:Int)>b then some (0,2)else Iu N c a N 0
theorem Wz(N l' most d r)(c:Mf N l' most d=some r)(ro l'v)(hl':Rd Ae8 ro l'v l')(a:Nat)(e)(i:Rd Aa3 ro e d)(g:Blk ro a [e])(b:Nat)(h:Blk ro b [vF 120 #[] #[]]):Does prog 196 #[l'v,vI most,vF 197 #[] #[vP a 0,vP b 0]] ro [] (pV (vT #[vI r.1,vI r.2])):=by
 unfold Mf at c
 refine Al follows func196 rfl 31 rfl _ fz3 (fun v=> ?_)
 refine AZ rfl<|Aa fun E x=>Ad<|rn 1 rfl<|rL (Rd.shp hl') rfl<|rz rfl<|aD c rfl (fun y c=> ?_) (fun y c=> ?_)
 ·refine AZ rfl ?_
  cases c
  exact aR eV2
 refine Ab<|x _ _ ?_
 refine Aa fun F z=>Ad<|rn 1 rfl<|rL (Rd.shp hl') rfl<|rz rfl<|Ai<|AH (fun tt ll nn=> ∃(k:Nat) (f:Int),(Iu N l' d k f=some r)∧Is [(2,vF 197 #[] #[vP a 0,vP b 0]),(15,l'v),(16,vI (l'.length:Int)),(17,vI f)] [] tt ll∧nn=k+1) (N+1) ?_ ?_
 ·exact⟨N,0,c,Ah rfl rfl,rfl⟩
 clear c;rintro t l _ ⟨k,f,c,⟨⟨T,rfl⟩,rfl⟩,rfl⟩
 rcases k with _|k
 ·exact absurd c (by simp [Iu])
 rw [Iu] at c
 refine AZ rfl<|Aa fun A m=>aD c rfl (fun n c=> ?_) (fun n c=> ?_)
 ·refine Ab<|m _ _ ?_
  refine Aa fun B p=>Ai<|Ad<|rn 1 rfl<|kC c fun j c=>rI (Rd.shp hl') j rfl<|rE (Aw hl') j 0 rfl<|rA rfl fun C=>ry [0] rfl<|Ad<|rm 3 [0] rfl<|kB c fun D q c=>gV _ (BF (caps:=[vP a 0,vP b 0]) rfl mi rfl) (fun o w z_=>Tw N f ((l'[f.toNat]!).1) ((l'[f.toNat]!).2.1) ((l'[f.toNat]!).2.2.1) ((l'[f.toNat]!).2.2.2) d _ q z_.view a e (z_.r i) (AS g o w z_) b (AS h o w z_))<|rz rfl<|AZ rfl<|aN c rfl (fun s c=> ?_) (fun s c=> ?_)
  ·refine AZ rfl ?_
   cases c
   exact aR eV2
  refine Ab<|p _ _ ?_
  refine Ag<|kC c fun u c=>rX u rfl<|rz rfl<|fg _ (Sub.of (suC _ suN)) ?_
  exact⟨k+1,by omega,k,(f+1),c,Ah rfl rfl,rfl⟩
 refine AI<|z _ _ ?_
 refine AZ rfl ?_
 cases c
 exact aR eV2
def Ok(N:Nat)(c:List (List UInt8×Int×Int×Int))(b:Int):Option (Int×Int):=(Oo N c).bind fun d=>(Mf N c b d).bind fun a=>some (a.1,a.2)
theorem Wr(N l' most r)(a:Ok N l' most=some r)(ro l'v)(hl':Rd Ae8 ro l'v l'):Does prog 118 #[l'v,vI most,vF 119 #[] #[],vF 120 #[] #[]] ro [] (pV (vT #[vI r.1,vI r.2])):=by
 unfold Ok at a
 refine Al follows func118 rfl 20 rfl _ fz4 (fun d=> ?_)
 refine Ad<|rA rfl fun b=>rz rfl<|Ad<|rn 2 rfl<|kB a fun j g a=>gS (Ls:=[(UK b (vF 120 #[] #[]))]) (cF ml) (fun o w z_=>Wv N l' _ g z_.view l'v ((Aw hl') o w z_)) (fun e i h=> ?_)
 refine rA rfl fun f=>r_s (List.flatten [(OJ f e),(UK b (vF 120 #[] #[])),i]) 0 _ _ _ _ _ (#[e]) rfl rfl rfl (Ga rfl (Sl.shp h)) (.ofS rfl rfl (Ae (Shp.one (Sl.shp h)) Bv)) rfl rfl<|Af<|Ad<|rn 2 rfl<|r_W (vF 197 #[] #[vP f 0,vP b 0]) rfl (IA rfl)<|kB a fun l c a=>gV _ (cF mj) (fun o w z_=>Wz N l' most j _ c z_.view l'v ((Aw hl') o w z_) f e ((Ax h (Ak (Ls:=[(OJ f e),(UK b (vF 120 #[] #[])),i]) (k:=2) rfl rfl)) o w z_) (Cw 0 rfl rfl o w z_) b (Cw 1 rfl rfl o w z_))<|rz rfl ?_
 cases a
 exact aR eV2
def Jj(N:Nat)(c:Ao):Option (Int×Int):=(Ok N c.2.2.2.2.2.2.2.2.2.2.2.2.2.2.1 8).bind fun a=>some (a.1,a.2)
theorem WE(N c r)(a:Jj N c=some r)(ro)(cv:AD)(hc:Aa1 ro cv c):Does prog 54 #[vA (Ac c cv)] ro [] (pV (vT #[vI r.1,vI r.2])):=by
 unfold Jj at a
 refine Al follows func54 rfl 10 rfl _ fz1 (fun b=> ?_)
 refine Ad<|rA rfl fun e=>rz rfl<|Ad<|rm 3 [0] rfl<|kB a fun f d a=>gV _ (cF nB) (fun o w z_=>Wr N c.2.2.2.2.2.2.2.2.2.2.2.2.2.2.1 8 _ d z_.view cv.2.2.2.2.2.2.2.2.2.2.2.2.2 ((Aw hc.2.2.2.2.2.2.2.2.2.2.2.2.2) o w z_))<|rz rfl ?_
 cases a
 exact aR eV2
inductive Ac1 where
  |nil
  |t93 (x0:Int) (x1:Int) (x2:Int)
  deriving Inhabited
def Ac1.on{β:Type}(x:Ac1)(a:β)(b:Int→Int→Int→β):β:=match x with| .nil=>a| .t93 x0 x1 x2=>b x0 x1 x2
theorem Ac1.on_nil {β:Type}{x:Ac1}{a r:β}{f93:Int→Int→Int→β}(h:x= .nil)(e:Ac1.on x a f93=r):a=r:=by subst h;exact e
theorem Ac1.on_t93 {β:Type}{x:Ac1}{a r:β}{f93:Int→Int→Int→β}{b:Int}{c:Int}{x2:Int}(h:x= .t93 b c x2)(e:Ac1.on x a f93=r):f93 b c x2=r:=by subst h;exact e
def Ac1.onP(x:Ac1)(a:PO)(b:Int→Int→Int→PO):PO:=match x with| .nil=>a| .t93 x0 x1 x2=>b x0 x1 x2
theorem Ac1.onP_nil {x:Ac1}{a:PO}{f93:Int→Int→Int→PO}{v:Value}{O:List (List Bl)}(h:x= .nil)(e:Ac1.onP x a f93 v O):a v O:=by subst h;exact e
theorem Ac1.onP_t93 {x:Ac1}{a:PO}{f93:Int→Int→Int→PO}{b:Int}{c:Int}{x2:Int}{v:Value}{O:List (List Bl)}(h:x= .t93 b c x2)(e:Ac1.onP x a f93 v O):f93 b c x2 v O:=by subst h;exact e
theorem Ac1.niceP {x:Ac1}{a:PO}{f93:Int→Int→Int→PO}{R:List Bl}(h:Ab8 a R)(b: ∀c d x2,Ab8 (f93 c d x2) R):Ab8 (Ac1.onP x a f93) R:=by cases x with|nil=>exact h|t93=>exact b _ _ _
theorem Ac1.cases(x:Ac1):x= .nil∨(∃a b x2,x= .t93 a b x2):=by cases x<;>simp
def An(N:Nat)(m:Ao):Nat→Int→Option Ac1
  |0,_=>none
  |b+1,a=>if a<15 then ck (0≤a∧a<(15:Int)) (if a=0 then(IT N m).bind fun r=>if(r.2:Int)≠0 then some (.t93 a r.1 r.2)else ck (R64 (a+1)) ((An N m b) (a+1))else if a=1 then(Hu N m).bind fun p=>if(p.2:Int)≠0 then some (.t93 a p.1 p.2)else ck (R64 (a+1)) ((An N m b) (a+1))else if a=2 then(IS N m).bind fun n=>if(n.2:Int)≠0 then some (.t93 a n.1 n.2)else ck (R64 (a+1)) ((An N m b) (a+1))else if a=3 then(Kk N m).bind fun k=>if(k.2:Int)≠0 then some (.t93 a k.1 k.2)else ck (R64 (a+1)) ((An N m b) (a+1))else if a=4 then(HX N m).bind fun l=>if(l.2:Int)≠0 then some (.t93 a l.1 l.2)else ck (R64 (a+1)) ((An N m b) (a+1))else if a=5 then(Iy N m).bind fun j=>if(j.2:Int)≠0 then some (.t93 a j.1 j.2)else ck (R64 (a+1)) ((An N m b) (a+1))else if a=6 then(Ji N m).bind fun q=>if(q.2:Int)≠0 then some (.t93 a q.1 q.2)else ck (R64 (a+1)) ((An N m b) (a+1))else if a=7 then(JI N m).bind fun o=>if(o.2:Int)≠0 then some (.t93 a o.1 o.2)else ck (R64 (a+1)) ((An N m b) (a+1))else if a=8 then(Ku N m).bind fun i=>if(i.2:Int)≠0 then some (.t93 a i.1 i.2)else ck (R64 (a+1)) ((An N m b) (a+1))else if a=9 then(Hv N m).bind fun g=>if(g.2:Int)≠0 then some (.t93 a g.1 g.2)else ck (R64 (a+1)) ((An N m b) (a+1))else if a=10 then(Kv N m).bind fun e=>if(e.2:Int)≠0 then some (.t93 a e.1 e.2)else ck (R64 (a+1)) ((An N m b) (a+1))else if a=11 then(JH N m).bind fun d=>if(d.2:Int)≠0 then some (.t93 a d.1 d.2)else ck (R64 (a+1)) ((An N m b) (a+1))else if a=12 then(KR N m).bind fun f=>if(f.2:Int)≠0 then some (.t93 a f.1 f.2)else ck (R64 (a+1)) ((An N m b) (a+1))else if a=13 then(HG N m).bind fun c=>if(c.2:Int)≠0 then some (.t93 a c.1 c.2)else ck (R64 (a+1)) ((An N m b) (a+1))else(Jj N m).bind fun h=>if(h.2:Int)≠0 then some (.t93 a h.1 h.2)else ck (R64 (a+1)) ((An N m b) (a+1)))else some (.nil)
def JU(N:Nat)(m:Ao):Option Ac1:=(MM N m).bind fun a=>An N m N 0
theorem Yr(N m r)(b:JU N m=some r)(ro)(mv:AD)(hm:Aa1 ro mv m):DoesI prog 11 #[vA (Ac m mv)] Ie ro [] (pO [] (Ac1.onP r (oE Value.nilIface []) (fun y0_0 y0_1 y0_2=>(oB 95 #[vI y0_0,vI y0_1,vI y0_2] fun bs_0=>(oE (Value.iface 93 (vP bs_0 0)) []))))):=by
 unfold JU at b
 refine Eg follows func11 rfl 30 rfl _ fz1 Bg (fun cq=> ?_)
 refine Ad<|r_a (35,(Ac m mv)) rfl rfl rfl (fun b2=> ?_) (.inr rfl)
 refine r_V Value.nilIface rfl<|Af<|Aa fun K3 cr=>Ad<|rl (vA (Ac m mv)) 0<|r_W (vA (Ac m mv)) rfl (Nt rfl rfl rfl (IN (c:=(Ac m mv)) rfl PZ) (by kernel_rfl)) ?_
 obtain⟨r5,cs,b⟩:=HU b
 refine gS (Ls:=[[(b2,35,(Ac m mv))]]) (cF rt) (fun o w z_=>Yy N m _ cs z_.view mv (Aa1.mono z_.ro_cell hm)) (fun U s G=> ?_)
 refine r_W (vI 15) rfl (bq (n:=15) rfl rfl rfl (Sl.shp G))<|r_V (vI 0) rfl<|Af<|Ai<|Bw _ (Sub.pick [[(b2,35,(Ac m mv))],s] [1] rfl)<|AH (fun tt ll nn=> ∃(d:Nat) (a:Int),(An N m d a=some r)∧Is [(9,U),(10,vI 15),(11,vI a)] (List.flatten [s]) tt ll∧nn=d+1) (N+1) ?_ ?_
 ·exact⟨N,0,b,Ah rfl rfl,rfl⟩
 clear b;rintro t l _ ⟨d,a,b,⟨⟨T,rfl⟩,rfl⟩,rfl⟩
 rcases d with _|d
 ·exact absurd b (by simp [An])
 rw [An] at b
 refine Ad<|r_V (vB (decide (a<15))) rfl<|Af<|Aa fun cu cg=>Bf _ rfl (fun ax=> ?_) (fun ax=> ?_)
 ·replace b:=iD ax b
  refine Ab<|cg _ _ ?_
  refine Aa fun cv u=>Ai<|Aa fun cw v=>Ag<|r_V (vI a) rfl ?_
  obtain⟨q,b⟩:=EU b
  rcases Decidable.em (a=0)with ac|ac
  ·replace b:=ifp ac b
   refine r_W (elA U (a.toNat*1)) rfl (Ef (Hf rfl rfl rfl (Sl.shp G) (Np (n:=15) rfl q)))<|QG (vF 40 #[vA (Ac m mv)] #[]) (En:=Mp) (⟨vF 40 #[vA (Ac m mv)] #[],rfl⟩) (a.toNat) 0 rfl rfl (Ax G (Ak (Ls:=[s]) (k:=0) rfl rfl)) (Nq (i:=0) ac rfl) rfl<|r_R [vI a,vF 40 #[vA (Ac m mv)] #[]] rfl<|Af<|v _ _ ?_
   refine Ad<|r_V (vF 40 #[vA (Ac m mv)] #[]) rfl ?_
   obtain⟨x,ch,b⟩:=HU b
   refine gV (vT #[vI x.1,vI x.2]) (FZ (bd:=[vA (Ac m mv)]) (caps:=[]) rfl qY rfl) (fun o w z_=>(Does.inv (YE N m _ ch z_.view mv (Aa1.mono z_.ro_cell hm)) _))<|r_R [vT #[vI x.1,vI x.2],vI x.1,vI x.2,vI x.1,vI x.2] rfl<|Af<|Ad<|r_R [vI x.2,vB (x.2 !=0)] rfl<|Af<|Bf _ rfl (fun ay=> ?_) (fun ay=> ?_)
   ·replace b:=iN ay b
    refine Ad<|r_R [vI a,vI x.1,vI x.2] rfl<|r_W (vA #[vI a,vI x.1,vI x.2]) rfl (Ap rfl rfl rfl rfl)<|r_a (95, #[vI a,vI x.1,vI x.2]) rfl rfl rfl (fun am=> ?_) (.inr rfl)
    refine r_R [Value.iface 93 (vP am 0),Value.iface 93 (vP am 0)] rfl<|Af ?_
    cases b
    refine Bb (fun V=>GP (v0:=Value.iface 93 (vP am 0)) (O:=[(De am a x.1 x.2)]) (EJ rfl) (Sub.pick [(De am a x.1 x.2),s] [0] rfl) ⟨am,_,⟨rfl,rfl⟩,rfl⟩)
   replace b:=iM ay b
   refine Ab<|u _ _ ?_
   refine Ag ?_
   obtain⟨bo,b⟩:=EU b
   refine r_X (vI (a+1)) rfl (KS rfl bo.1 bo.2) rfl<|r_V (vI (a+1)) rfl<|Af<|fg _ (Sub.pick [s] [0] rfl) ?_
   exact⟨d+1,by omega,d,(a+1),b,Ah rfl rfl,rfl⟩
  replace b:=ifn ac b
  rcases Decidable.em (a=1)with ad|ad
  ·replace b:=ifp ad b
   refine r_W (elA U (a.toNat*1)) rfl (Ef (Hf rfl rfl rfl (Sl.shp G) (Np (n:=15) rfl q)))<|QG (vF 41 #[vA (Ac m mv)] #[]) (En:=Mp) (⟨vF 41 #[vA (Ac m mv)] #[],rfl⟩) (a.toNat) 0 rfl rfl (Ax G (Ak (Ls:=[s]) (k:=0) rfl rfl)) (Nq (i:=1) ad rfl) rfl<|r_R [vI a,vF 41 #[vA (Ac m mv)] #[]] rfl<|Af<|v _ _ ?_
   refine Ad<|r_V (vF 41 #[vA (Ac m mv)] #[]) rfl ?_
   obtain⟨y,ci,b⟩:=HU b
   refine gV (vT #[vI y.1,vI y.2]) (FZ (bd:=[vA (Ac m mv)]) (caps:=[]) rfl qX rfl) (fun o w z_=>(Does.inv (Vk N m _ ci z_.view mv (Aa1.mono z_.ro_cell hm)) _))<|r_R [vT #[vI y.1,vI y.2],vI y.1,vI y.2,vI y.1,vI y.2] rfl<|Af<|Ad<|r_R [vI y.2,vB (y.2 !=0)] rfl<|Af<|Bf _ rfl (fun az=> ?_) (fun az=> ?_)
   ·replace b:=iN az b
    refine Ad<|r_R [vI a,vI y.1,vI y.2] rfl<|r_W (vA #[vI a,vI y.1,vI y.2]) rfl (Ap rfl rfl rfl rfl)<|r_a (95, #[vI a,vI y.1,vI y.2]) rfl rfl rfl (fun an=> ?_) (.inr rfl)
    refine r_R [Value.iface 93 (vP an 0),Value.iface 93 (vP an 0)] rfl<|Af ?_
    cases b
    refine Bb (fun V=>GP (v0:=Value.iface 93 (vP an 0)) (O:=[(De an a y.1 y.2)]) (EJ rfl) (Sub.pick [(De an a y.1 y.2),s] [0] rfl) ⟨an,_,⟨rfl,rfl⟩,rfl⟩)
   replace b:=iM az b
   refine Ab<|u _ _ ?_
   refine Ag ?_
   obtain⟨bp,b⟩:=EU b
   refine r_X (vI (a+1)) rfl (KS rfl bp.1 bp.2) rfl<|r_V (vI (a+1)) rfl<|Af<|fg _ (Sub.pick [s] [0] rfl) ?_
   exact⟨d+1,by omega,d,(a+1),b,Ah rfl rfl,rfl⟩
  replace b:=ifn ad b
  rcases Decidable.em (a=2)with ae|ae
  ·replace b:=ifp ae b
   refine r_W (elA U (a.toNat*1)) rfl (Ef (Hf rfl rfl rfl (Sl.shp G) (Np (n:=15) rfl q)))<|QG (vF 42 #[vA (Ac m mv)] #[]) (En:=Mp) (⟨vF 42 #[vA (Ac m mv)] #[],rfl⟩) (a.toNat) 0 rfl rfl (Ax G (Ak (Ls:=[s]) (k:=0) rfl rfl)) (Nq (i:=2) ae rfl) rfl<|r_R [vI a,vF 42 #[vA (Ac m mv)] #[]] rfl<|Af<|v _ _ ?_
   refine Ad<|r_V (vF 42 #[vA (Ac m mv)] #[]) rfl ?_
   obtain⟨z,cj,b⟩:=HU b
   refine gV (vT #[vI z.1,vI z.2]) (FZ (bd:=[vA (Ac m mv)]) (caps:=[]) rfl qW rfl) (fun o w z_=>(Does.inv (YD N m _ cj z_.view mv (Aa1.mono z_.ro_cell hm)) _))<|r_R [vT #[vI z.1,vI z.2],vI z.1,vI z.2,vI z.1,vI z.2] rfl<|Af<|Ad<|r_R [vI z.2,vB (z.2 !=0)] rfl<|Af<|Bf _ rfl (fun ba=> ?_) (fun ba=> ?_)
   ·replace b:=iN ba b
    refine Ad<|r_R [vI a,vI z.1,vI z.2] rfl<|r_W (vA #[vI a,vI z.1,vI z.2]) rfl (Ap rfl rfl rfl rfl)<|r_a (95, #[vI a,vI z.1,vI z.2]) rfl rfl rfl (fun ao=> ?_) (.inr rfl)
    refine r_R [Value.iface 93 (vP ao 0),Value.iface 93 (vP ao 0)] rfl<|Af ?_
    cases b
    refine Bb (fun V=>GP (v0:=Value.iface 93 (vP ao 0)) (O:=[(De ao a z.1 z.2)]) (EJ rfl) (Sub.pick [(De ao a z.1 z.2),s] [0] rfl) ⟨ao,_,⟨rfl,rfl⟩,rfl⟩)
   replace b:=iM ba b
   refine Ab<|u _ _ ?_
   refine Ag ?_
   obtain⟨br,b⟩:=EU b
   refine r_X (vI (a+1)) rfl (KS rfl br.1 br.2) rfl<|r_V (vI (a+1)) rfl<|Af<|fg _ (Sub.pick [s] [0] rfl) ?_
   exact⟨d+1,by omega,d,(a+1),b,Ah rfl rfl,rfl⟩
  replace b:=ifn ae b
  rcases Decidable.em (a=3)with af|af
  ·replace b:=ifp af b
   refine r_W (elA U (a.toNat*1)) rfl (Ef (Hf rfl rfl rfl (Sl.shp G) (Np (n:=15) rfl q)))<|QG (vF 43 #[vA (Ac m mv)] #[]) (En:=Mp) (⟨vF 43 #[vA (Ac m mv)] #[],rfl⟩) (a.toNat) 0 rfl rfl (Ax G (Ak (Ls:=[s]) (k:=0) rfl rfl)) (Nq (i:=3) af rfl) rfl<|r_R [vI a,vF 43 #[vA (Ac m mv)] #[]] rfl<|Af<|v _ _ ?_
   refine Ad<|r_V (vF 43 #[vA (Ac m mv)] #[]) rfl ?_
   obtain⟨A,ck,b⟩:=HU b
   refine gV (vT #[vI A.1,vI A.2]) (FZ (bd:=[vA (Ac m mv)]) (caps:=[]) rfl qV rfl) (fun o w z_=>(Does.inv (YB N m _ ck z_.view mv (Aa1.mono z_.ro_cell hm)) _))<|r_R [vT #[vI A.1,vI A.2],vI A.1,vI A.2,vI A.1,vI A.2] rfl<|Af<|Ad<|r_R [vI A.2,vB (A.2 !=0)] rfl<|Af<|Bf _ rfl (fun bb=> ?_) (fun bb=> ?_)
   ·replace b:=iN bb b
    refine Ad<|r_R [vI a,vI A.1,vI A.2] rfl<|r_W (vA #[vI a,vI A.1,vI A.2]) rfl (Ap rfl rfl rfl rfl)<|r_a (95, #[vI a,vI A.1,vI A.2]) rfl rfl rfl (fun ap=> ?_) (.inr rfl)
    refine r_R [Value.iface 93 (vP ap 0),Value.iface 93 (vP ap 0)] rfl<|Af ?_
    cases b
    refine Bb (fun V=>GP (v0:=Value.iface 93 (vP ap 0)) (O:=[(De ap a A.1 A.2)]) (EJ rfl) (Sub.pick [(De ap a A.1 A.2),s] [0] rfl) ⟨ap,_,⟨rfl,rfl⟩,rfl⟩)
   replace b:=iM bb b
   refine Ab<|u _ _ ?_
   refine Ag ?_
   obtain⟨bs,b⟩:=EU b
   refine r_X (vI (a+1)) rfl (KS rfl bs.1 bs.2) rfl<|r_V (vI (a+1)) rfl<|Af<|fg _ (Sub.pick [s] [0] rfl) ?_
   exact⟨d+1,by omega,d,(a+1),b,Ah rfl rfl,rfl⟩
  replace b:=ifn af b
  rcases Decidable.em (a=4)with ag|ag
  ·replace b:=ifp ag b
   refine r_W (elA U (a.toNat*1)) rfl (Ef (Hf rfl rfl rfl (Sl.shp G) (Np (n:=15) rfl q)))<|QG (vF 44 #[vA (Ac m mv)] #[]) (En:=Mp) (⟨vF 44 #[vA (Ac m mv)] #[],rfl⟩) (a.toNat) 0 rfl rfl (Ax G (Ak (Ls:=[s]) (k:=0) rfl rfl)) (Nq (i:=4) ag rfl) rfl<|r_R [vI a,vF 44 #[vA (Ac m mv)] #[]] rfl<|Af<|v _ _ ?_
   refine Ad<|r_V (vF 44 #[vA (Ac m mv)] #[]) rfl ?_
   obtain⟨B,cl,b⟩:=HU b
   refine gV (vT #[vI B.1,vI B.2]) (FZ (bd:=[vA (Ac m mv)]) (caps:=[]) rfl qU rfl) (fun o w z_=>WD N m _ cl z_.view mv (Aa1.mono z_.ro_cell hm))<|r_R [vT #[vI B.1,vI B.2],vI B.1,vI B.2,vI B.1,vI B.2] rfl<|Af<|Ad<|r_R [vI B.2,vB (B.2 !=0)] rfl<|Af<|Bf _ rfl (fun bc=> ?_) (fun bc=> ?_)
   ·replace b:=iN bc b
    refine Ad<|r_R [vI a,vI B.1,vI B.2] rfl<|r_W (vA #[vI a,vI B.1,vI B.2]) rfl (Ap rfl rfl rfl rfl)<|r_a (95, #[vI a,vI B.1,vI B.2]) rfl rfl rfl (fun aq=> ?_) (.inr rfl)
    refine r_R [Value.iface 93 (vP aq 0),Value.iface 93 (vP aq 0)] rfl<|Af ?_
    cases b
    refine Bb (fun V=>GP (v0:=Value.iface 93 (vP aq 0)) (O:=[(De aq a B.1 B.2)]) (EJ rfl) (Sub.pick [(De aq a B.1 B.2),s] [0] rfl) ⟨aq,_,⟨rfl,rfl⟩,rfl⟩)
   replace b:=iM bc b
   refine Ab<|u _ _ ?_
   refine Ag ?_
   obtain⟨bt,b⟩:=EU b
   refine r_X (vI (a+1)) rfl (KS rfl bt.1 bt.2) rfl<|r_V (vI (a+1)) rfl<|Af<|fg _ (Sub.pick [s] [0] rfl) ?_
   exact⟨d+1,by omega,d,(a+1),b,Ah rfl rfl,rfl⟩
  replace b:=ifn ag b
  rcases Decidable.em (a=5)with ah|ah
  ·replace b:=ifp ah b
   refine r_W (elA U (a.toNat*1)) rfl (Ef (Hf rfl rfl rfl (Sl.shp G) (Np (n:=15) rfl q)))<|QG (vF 45 #[vA (Ac m mv)] #[]) (En:=Mp) (⟨vF 45 #[vA (Ac m mv)] #[],rfl⟩) (a.toNat) 0 rfl rfl (Ax G (Ak (Ls:=[s]) (k:=0) rfl rfl)) (Nq (i:=5) ah rfl) rfl<|r_R [vI a,vF 45 #[vA (Ac m mv)] #[]] rfl<|Af<|v _ _ ?_
   refine Ad<|r_V (vF 45 #[vA (Ac m mv)] #[]) rfl ?_
   obtain⟨C,cm,b⟩:=HU b
   refine gV (vT #[vI C.1,vI C.2]) (FZ (bd:=[vA (Ac m mv)]) (caps:=[]) rfl qT rfl) (fun o w z_=>Vo N m _ cm z_.view mv (Aa1.mono z_.ro_cell hm))<|r_R [vT #[vI C.1,vI C.2],vI C.1,vI C.2,vI C.1,vI C.2] rfl<|Af<|Ad<|r_R [vI C.2,vB (C.2 !=0)] rfl<|Af<|Bf _ rfl (fun be=> ?_) (fun be=> ?_)
   ·replace b:=iN be b
    refine Ad<|r_R [vI a,vI C.1,vI C.2] rfl<|r_W (vA #[vI a,vI C.1,vI C.2]) rfl (Ap rfl rfl rfl rfl)<|r_a (95, #[vI a,vI C.1,vI C.2]) rfl rfl rfl (fun ar=> ?_) (.inr rfl)
    refine r_R [Value.iface 93 (vP ar 0),Value.iface 93 (vP ar 0)] rfl<|Af ?_
    cases b
    refine Bb (fun V=>GP (v0:=Value.iface 93 (vP ar 0)) (O:=[(De ar a C.1 C.2)]) (EJ rfl) (Sub.pick [(De ar a C.1 C.2),s] [0] rfl) ⟨ar,_,⟨rfl,rfl⟩,rfl⟩)
   replace b:=iM be b
   refine Ab<|u _ _ ?_
   refine Ag ?_
   obtain⟨bu,b⟩:=EU b
   refine r_X (vI (a+1)) rfl (KS rfl bu.1 bu.2) rfl<|r_V (vI (a+1)) rfl<|Af<|fg _ (Sub.pick [s] [0] rfl) ?_
   exact⟨d+1,by omega,d,(a+1),b,Ah rfl rfl,rfl⟩
  replace b:=ifn ah b
  rcases Decidable.em (a=6)with ai|ai
  ·replace b:=ifp ai b
   refine r_W (elA U (a.toNat*1)) rfl (Ef (Hf rfl rfl rfl (Sl.shp G) (Np (n:=15) rfl q)))<|QG (vF 46 #[vA (Ac m mv)] #[]) (En:=Mp) (⟨vF 46 #[vA (Ac m mv)] #[],rfl⟩) (a.toNat) 0 rfl rfl (Ax G (Ak (Ls:=[s]) (k:=0) rfl rfl)) (Nq (i:=6) ai rfl) rfl<|r_R [vI a,vF 46 #[vA (Ac m mv)] #[]] rfl<|Af<|v _ _ ?_
   refine Ad<|r_V (vF 46 #[vA (Ac m mv)] #[]) rfl ?_
   obtain⟨D,cn,b⟩:=HU b
   refine gV (vT #[vI D.1,vI D.2]) (FZ (bd:=[vA (Ac m mv)]) (caps:=[]) rfl qS rfl) (fun o w z_=>WB N m _ cn z_.view mv (Aa1.mono z_.ro_cell hm))<|r_R [vT #[vI D.1,vI D.2],vI D.1,vI D.2,vI D.1,vI D.2] rfl<|Af<|Ad<|r_R [vI D.2,vB (D.2 !=0)] rfl<|Af<|Bf _ rfl (fun bf=> ?_) (fun bf=> ?_)
   ·replace b:=iN bf b
    refine Ad<|r_R [vI a,vI D.1,vI D.2] rfl<|r_W (vA #[vI a,vI D.1,vI D.2]) rfl (Ap rfl rfl rfl rfl)<|r_a (95, #[vI a,vI D.1,vI D.2]) rfl rfl rfl (fun au=> ?_) (.inr rfl)
    refine r_R [Value.iface 93 (vP au 0),Value.iface 93 (vP au 0)] rfl<|Af ?_
    cases b
    refine Bb (fun V=>GP (v0:=Value.iface 93 (vP au 0)) (O:=[(De au a D.1 D.2)]) (EJ rfl) (Sub.pick [(De au a D.1 D.2),s] [0] rfl) ⟨au,_,⟨rfl,rfl⟩,rfl⟩)
   replace b:=iM bf b
   refine Ab<|u _ _ ?_
   refine Ag ?_
   obtain⟨bv,b⟩:=EU b
   refine r_X (vI (a+1)) rfl (KS rfl bv.1 bv.2) rfl<|r_V (vI (a+1)) rfl<|Af<|fg _ (Sub.pick [s] [0] rfl) ?_
   exact⟨d+1,by omega,d,(a+1),b,Ah rfl rfl,rfl⟩
  replace b:=ifn ai b
  rcases Decidable.em (a=7)with aj|aj
  ·replace b:=ifp aj b
   refine r_W (elA U (a.toNat*1)) rfl (Ef (Hf rfl rfl rfl (Sl.shp G) (Np (n:=15) rfl q)))<|QG (vF 47 #[vA (Ac m mv)] #[]) (En:=Mp) (⟨vF 47 #[vA (Ac m mv)] #[],rfl⟩) (a.toNat) 0 rfl rfl (Ax G (Ak (Ls:=[s]) (k:=0) rfl rfl)) (Nq (i:=7) aj rfl) rfl<|r_R [vI a,vF 47 #[vA (Ac m mv)] #[]] rfl<|Af<|v _ _ ?_
   refine Ad<|r_V (vF 47 #[vA (Ac m mv)] #[]) rfl ?_
   obtain⟨E,co,b⟩:=HU b
   refine gV (vT #[vI E.1,vI E.2]) (FZ (bd:=[vA (Ac m mv)]) (caps:=[]) rfl qR rfl) (fun o w z_=>Vj N m _ co z_.view mv (Aa1.mono z_.ro_cell hm))<|r_R [vT #[vI E.1,vI E.2],vI E.1,vI E.2,vI E.1,vI E.2] rfl<|Af<|Ad<|r_R [vI E.2,vB (E.2 !=0)] rfl<|Af<|Bf _ rfl (fun bg=> ?_) (fun bg=> ?_)
   ·replace b:=iN bg b
    refine Ad<|r_R [vI a,vI E.1,vI E.2] rfl<|r_W (vA #[vI a,vI E.1,vI E.2]) rfl (Ap rfl rfl rfl rfl)<|r_a (95, #[vI a,vI E.1,vI E.2]) rfl rfl rfl (fun av=> ?_) (.inr rfl)
    refine r_R [Value.iface 93 (vP av 0),Value.iface 93 (vP av 0)] rfl<|Af ?_
    cases b
    refine Bb (fun V=>GP (v0:=Value.iface 93 (vP av 0)) (O:=[(De av a E.1 E.2)]) (EJ rfl) (Sub.pick [(De av a E.1 E.2),s] [0] rfl) ⟨av,_,⟨rfl,rfl⟩,rfl⟩)
   replace b:=iM bg b
   refine Ab<|u _ _ ?_
   refine Ag ?_
   obtain⟨bw,b⟩:=EU b
   refine r_X (vI (a+1)) rfl (KS rfl bw.1 bw.2) rfl<|r_V (vI (a+1)) rfl<|Af<|fg _ (Sub.pick [s] [0] rfl) ?_
   exact⟨d+1,by omega,d,(a+1),b,Ah rfl rfl,rfl⟩
  replace b:=ifn aj b
  rcases Decidable.em (a=8)with ak|ak
  ·replace b:=ifp ak b
   refine r_W (elA U (a.toNat*1)) rfl (Ef (Hf rfl rfl rfl (Sl.shp G) (Np (n:=15) rfl q)))<|QG (vF 48 #[vA (Ac m mv)] #[]) (En:=Mp) (⟨vF 48 #[vA (Ac m mv)] #[],rfl⟩) (a.toNat) 0 rfl rfl (Ax G (Ak (Ls:=[s]) (k:=0) rfl rfl)) (Nq (i:=8) ak rfl) rfl<|r_R [vI a,vF 48 #[vA (Ac m mv)] #[]] rfl<|Af<|v _ _ ?_
   refine Ad<|r_V (vF 48 #[vA (Ac m mv)] #[]) rfl ?_
   obtain⟨F,cp,b⟩:=HU b
   refine gV (vT #[vI F.1,vI F.2]) (FZ (bd:=[vA (Ac m mv)]) (caps:=[]) rfl qQ rfl) (fun o w z_=>WF N m _ cp z_.view mv (Aa1.mono z_.ro_cell hm))<|r_R [vT #[vI F.1,vI F.2],vI F.1,vI F.2,vI F.1,vI F.2] rfl<|Af<|Ad<|r_R [vI F.2,vB (F.2 !=0)] rfl<|Af<|Bf _ rfl (fun bh=> ?_) (fun bh=> ?_)
   ·replace b:=iN bh b
    refine Ad<|r_R [vI a,vI F.1,vI F.2] rfl<|r_W (vA #[vI a,vI F.1,vI F.2]) rfl (Ap rfl rfl rfl rfl)<|r_a (95, #[vI a,vI F.1,vI F.2]) rfl rfl rfl (fun aw=> ?_) (.inr rfl)
    refine r_R [Value.iface 93 (vP aw 0),Value.iface 93 (vP aw 0)] rfl<|Af ?_
    cases b
    refine Bb (fun V=>GP (v0:=Value.iface 93 (vP aw 0)) (O:=[(De aw a F.1 F.2)]) (EJ rfl) (Sub.pick [(De aw a F.1 F.2),s] [0] rfl) ⟨aw,_,⟨rfl,rfl⟩,rfl⟩)
   replace b:=iM bh b
   refine Ab<|u _ _ ?_
   refine Ag ?_
   obtain⟨bx,b⟩:=EU b
   refine r_X (vI (a+1)) rfl (KS rfl bx.1 bx.2) rfl<|r_V (vI (a+1)) rfl<|Af<|fg _ (Sub.pick [s] [0] rfl) ?_
   exact⟨d+1,by omega,d,(a+1),b,Ah rfl rfl,rfl⟩
  replace b:=ifn ak b
  rcases Decidable.em (a=9)with al|al
  ·replace b:=ifp al b
   refine r_W (elA U (a.toNat*1)) rfl (Ef (Hf rfl rfl rfl (Sl.shp G) (Np (n:=15) rfl q)))<|QG (vF 49 #[vA (Ac m mv)] #[]) (En:=Mp) (⟨vF 49 #[vA (Ac m mv)] #[],rfl⟩) (a.toNat) 0 rfl rfl (Ax G (Ak (Ls:=[s]) (k:=0) rfl rfl)) (Nq (i:=9) al rfl) rfl<|r_R [vI a,vF 49 #[vA (Ac m mv)] #[]] rfl<|Af<|v _ _ ?_
   refine Ad<|r_V (vF 49 #[vA (Ac m mv)] #[]) rfl ?_
   obtain⟨e,bz,b⟩:=HU b
   refine gV (vT #[vI e.1,vI e.2]) (FZ (bd:=[vA (Ac m mv)]) (caps:=[]) rfl qP rfl) (fun o w z_=>(Does.inv (Vl N m _ bz z_.view mv (Aa1.mono z_.ro_cell hm)) _))<|r_R [vT #[vI e.1,vI e.2],vI e.1,vI e.2,vI e.1,vI e.2] rfl<|Af<|Ad<|r_R [vI e.2,vB (e.2 !=0)] rfl<|Af<|Bf _ rfl (fun W=> ?_) (fun W=> ?_)
   ·replace b:=iN W b
    refine Ad<|r_R [vI a,vI e.1,vI e.2] rfl<|r_W (vA #[vI a,vI e.1,vI e.2]) rfl (Ap rfl rfl rfl rfl)<|r_a (95, #[vI a,vI e.1,vI e.2]) rfl rfl rfl (fun H=> ?_) (.inr rfl)
    refine r_R [Value.iface 93 (vP H 0),Value.iface 93 (vP H 0)] rfl<|Af ?_
    cases b
    refine Bb (fun V=>GP (v0:=Value.iface 93 (vP H 0)) (O:=[(De H a e.1 e.2)]) (EJ rfl) (Sub.pick [(De H a e.1 e.2),s] [0] rfl) ⟨H,_,⟨rfl,rfl⟩,rfl⟩)
   replace b:=iM W b
   refine Ab<|u _ _ ?_
   refine Ag ?_
   obtain⟨bi,b⟩:=EU b
   refine r_X (vI (a+1)) rfl (KS rfl bi.1 bi.2) rfl<|r_V (vI (a+1)) rfl<|Af<|fg _ (Sub.pick [s] [0] rfl) ?_
   exact⟨d+1,by omega,d,(a+1),b,Ah rfl rfl,rfl⟩
  replace b:=ifn al b
  rcases Decidable.em (a=10)with P|P
  ·replace b:=ifp P b
   refine r_W (elA U (a.toNat*1)) rfl (Ef (Hf rfl rfl rfl (Sl.shp G) (Np (n:=15) rfl q)))<|QG (vF 50 #[vA (Ac m mv)] #[]) (En:=Mp) (⟨vF 50 #[vA (Ac m mv)] #[],rfl⟩) (a.toNat) 0 rfl rfl (Ax G (Ak (Ls:=[s]) (k:=0) rfl rfl)) (Nq (i:=10) P rfl) rfl<|r_R [vI a,vF 50 #[vA (Ac m mv)] #[]] rfl<|Af<|v _ _ ?_
   refine Ad<|r_V (vF 50 #[vA (Ac m mv)] #[]) rfl ?_
   obtain⟨f,ca,b⟩:=HU b
   refine gV (vT #[vI f.1,vI f.2]) (FZ (bd:=[vA (Ac m mv)]) (caps:=[]) rfl qO rfl) (fun o w z_=>(Does.inv (WH N m _ ca z_.view mv (Aa1.mono z_.ro_cell hm)) _))<|r_R [vT #[vI f.1,vI f.2],vI f.1,vI f.2,vI f.1,vI f.2] rfl<|Af<|Ad<|r_R [vI f.2,vB (f.2 !=0)] rfl<|Af<|Bf _ rfl (fun X=> ?_) (fun X=> ?_)
   ·replace b:=iN X b
    refine Ad<|r_R [vI a,vI f.1,vI f.2] rfl<|r_W (vA #[vI a,vI f.1,vI f.2]) rfl (Ap rfl rfl rfl rfl)<|r_a (95, #[vI a,vI f.1,vI f.2]) rfl rfl rfl (fun I=> ?_) (.inr rfl)
    refine r_R [Value.iface 93 (vP I 0),Value.iface 93 (vP I 0)] rfl<|Af ?_
    cases b
    refine Bb (fun V=>GP (v0:=Value.iface 93 (vP I 0)) (O:=[(De I a f.1 f.2)]) (EJ rfl) (Sub.pick [(De I a f.1 f.2),s] [0] rfl) ⟨I,_,⟨rfl,rfl⟩,rfl⟩)
   replace b:=iM X b
   refine Ab<|u _ _ ?_
   refine Ag ?_
   obtain⟨bj,b⟩:=EU b
   refine r_X (vI (a+1)) rfl (KS rfl bj.1 bj.2) rfl<|r_V (vI (a+1)) rfl<|Af<|fg _ (Sub.pick [s] [0] rfl) ?_
   exact⟨d+1,by omega,d,(a+1),b,Ah rfl rfl,rfl⟩
  replace b:=ifn P b
  rcases Decidable.em (a=11)with Q|Q
  ·replace b:=ifp Q b
   refine r_W (elA U (a.toNat*1)) rfl (Ef (Hf rfl rfl rfl (Sl.shp G) (Np (n:=15) rfl q)))<|QG (vF 51 #[vA (Ac m mv)] #[]) (En:=Mp) (⟨vF 51 #[vA (Ac m mv)] #[],rfl⟩) (a.toNat) 0 rfl rfl (Ax G (Ak (Ls:=[s]) (k:=0) rfl rfl)) (Nq (i:=11) Q rfl) rfl<|r_R [vI a,vF 51 #[vA (Ac m mv)] #[]] rfl<|Af<|v _ _ ?_
   refine Ad<|r_V (vF 51 #[vA (Ac m mv)] #[]) rfl ?_
   obtain⟨g,cb,b⟩:=HU b
   refine gV (vT #[vI g.1,vI g.2]) (FZ (bd:=[vA (Ac m mv)]) (caps:=[]) rfl qN rfl) (fun o w z_=>(Does.inv (Vf N m _ cb z_.view mv (Aa1.mono z_.ro_cell hm)) _))<|r_R [vT #[vI g.1,vI g.2],vI g.1,vI g.2,vI g.1,vI g.2] rfl<|Af<|Ad<|r_R [vI g.2,vB (g.2 !=0)] rfl<|Af<|Bf _ rfl (fun Y=> ?_) (fun Y=> ?_)
   ·replace b:=iN Y b
    refine Ad<|r_R [vI a,vI g.1,vI g.2] rfl<|r_W (vA #[vI a,vI g.1,vI g.2]) rfl (Ap rfl rfl rfl rfl)<|r_a (95, #[vI a,vI g.1,vI g.2]) rfl rfl rfl (fun J=> ?_) (.inr rfl)
    refine r_R [Value.iface 93 (vP J 0),Value.iface 93 (vP J 0)] rfl<|Af ?_
    cases b
    refine Bb (fun V=>GP (v0:=Value.iface 93 (vP J 0)) (O:=[(De J a g.1 g.2)]) (EJ rfl) (Sub.pick [(De J a g.1 g.2),s] [0] rfl) ⟨J,_,⟨rfl,rfl⟩,rfl⟩)
   replace b:=iM Y b
   refine Ab<|u _ _ ?_
   refine Ag ?_
   obtain⟨bk,b⟩:=EU b
   refine r_X (vI (a+1)) rfl (KS rfl bk.1 bk.2) rfl<|r_V (vI (a+1)) rfl<|Af<|fg _ (Sub.pick [s] [0] rfl) ?_
   exact⟨d+1,by omega,d,(a+1),b,Ah rfl rfl,rfl⟩
  replace b:=ifn Q b
  rcases Decidable.em (a=12)with R|R
  ·replace b:=ifp R b
   refine r_W (elA U (a.toNat*1)) rfl (Ef (Hf rfl rfl rfl (Sl.shp G) (Np (n:=15) rfl q)))<|QG (vF 52 #[vA (Ac m mv)] #[]) (En:=Mp) (⟨vF 52 #[vA (Ac m mv)] #[],rfl⟩) (a.toNat) 0 rfl rfl (Ax G (Ak (Ls:=[s]) (k:=0) rfl rfl)) (Nq (i:=12) R rfl) rfl<|r_R [vI a,vF 52 #[vA (Ac m mv)] #[]] rfl<|Af<|v _ _ ?_
   refine Ad<|r_V (vF 52 #[vA (Ac m mv)] #[]) rfl ?_
   obtain⟨h,cc,b⟩:=HU b
   refine gV (vT #[vI h.1,vI h.2]) (FZ (bd:=[vA (Ac m mv)]) (caps:=[]) rfl qM rfl) (fun o w z_=>(Does.inv (aT N m _ cc z_.view mv (Aa1.mono z_.ro_cell hm)) _))<|r_R [vT #[vI h.1,vI h.2],vI h.1,vI h.2,vI h.1,vI h.2] rfl<|Af<|Ad<|r_R [vI h.2,vB (h.2 !=0)] rfl<|Af<|Bf _ rfl (fun Z=> ?_) (fun Z=> ?_)
   ·replace b:=iN Z b
    refine Ad<|r_R [vI a,vI h.1,vI h.2] rfl<|r_W (vA #[vI a,vI h.1,vI h.2]) rfl (Ap rfl rfl rfl rfl)<|r_a (95, #[vI a,vI h.1,vI h.2]) rfl rfl rfl (fun K=> ?_) (.inr rfl)
    refine r_R [Value.iface 93 (vP K 0),Value.iface 93 (vP K 0)] rfl<|Af ?_
    cases b
    refine Bb (fun V=>GP (v0:=Value.iface 93 (vP K 0)) (O:=[(De K a h.1 h.2)]) (EJ rfl) (Sub.pick [(De K a h.1 h.2),s] [0] rfl) ⟨K,_,⟨rfl,rfl⟩,rfl⟩)
   replace b:=iM Z b
   refine Ab<|u _ _ ?_
   refine Ag ?_
   obtain⟨bl,b⟩:=EU b
   refine r_X (vI (a+1)) rfl (KS rfl bl.1 bl.2) rfl<|r_V (vI (a+1)) rfl<|Af<|fg _ (Sub.pick [s] [0] rfl) ?_
   exact⟨d+1,by omega,d,(a+1),b,Ah rfl rfl,rfl⟩
  replace b:=ifn R b
  rcases Decidable.em (a=13)with S|S
  ·replace b:=ifp S b
   refine r_W (elA U (a.toNat*1)) rfl (Ef (Hf rfl rfl rfl (Sl.shp G) (Np (n:=15) rfl q)))<|QG (vF 53 #[vA (Ac m mv)] #[]) (En:=Mp) (⟨vF 53 #[vA (Ac m mv)] #[],rfl⟩) (a.toNat) 0 rfl rfl (Ax G (Ak (Ls:=[s]) (k:=0) rfl rfl)) (Nq (i:=13) S rfl) rfl<|r_R [vI a,vF 53 #[vA (Ac m mv)] #[]] rfl<|Af<|v _ _ ?_
   refine Ad<|r_V (vF 53 #[vA (Ac m mv)] #[]) rfl ?_
   obtain⟨j,cd,b⟩:=HU b
   refine gV (vT #[vI j.1,vI j.2]) (FZ (bd:=[vA (Ac m mv)]) (caps:=[]) rfl qL rfl) (fun o w z_=>(Does.inv (TG N m _ cd z_.view mv (Aa1.mono z_.ro_cell hm)) _))<|r_R [vT #[vI j.1,vI j.2],vI j.1,vI j.2,vI j.1,vI j.2] rfl<|Af<|Ad<|r_R [vI j.2,vB (j.2 !=0)] rfl<|Af<|Bf _ rfl (fun aa=> ?_) (fun aa=> ?_)
   ·replace b:=iN aa b
    refine Ad<|r_R [vI a,vI j.1,vI j.2] rfl<|r_W (vA #[vI a,vI j.1,vI j.2]) rfl (Ap rfl rfl rfl rfl)<|r_a (95, #[vI a,vI j.1,vI j.2]) rfl rfl rfl (fun L=> ?_) (.inr rfl)
    refine r_R [Value.iface 93 (vP L 0),Value.iface 93 (vP L 0)] rfl<|Af ?_
    cases b
    refine Bb (fun V=>GP (v0:=Value.iface 93 (vP L 0)) (O:=[(De L a j.1 j.2)]) (EJ rfl) (Sub.pick [(De L a j.1 j.2),s] [0] rfl) ⟨L,_,⟨rfl,rfl⟩,rfl⟩)
   replace b:=iM aa b
   refine Ab<|u _ _ ?_
   refine Ag ?_
   obtain⟨bm,b⟩:=EU b
   refine r_X (vI (a+1)) rfl (KS rfl bm.1 bm.2) rfl<|r_V (vI (a+1)) rfl<|Af<|fg _ (Sub.pick [s] [0] rfl) ?_
   exact⟨d+1,by omega,d,(a+1),b,Ah rfl rfl,rfl⟩
  replace b:=ifn S b
  have ce:a=14:=pN q (by omega)
  refine r_W (elA U (a.toNat*1)) rfl (Ef (Hf rfl rfl rfl (Sl.shp G) (Np (n:=15) rfl q)))<|QG (vF 54 #[vA (Ac m mv)] #[]) (En:=Mp) (⟨vF 54 #[vA (Ac m mv)] #[],rfl⟩) (a.toNat) 0 rfl rfl (Ax G (Ak (Ls:=[s]) (k:=0) rfl rfl)) (Nq (i:=14) ce rfl) rfl<|r_R [vI a,vF 54 #[vA (Ac m mv)] #[]] rfl<|Af<|v _ _ ?_
  refine Ad<|r_V (vF 54 #[vA (Ac m mv)] #[]) rfl ?_
  obtain⟨p,cf,b⟩:=HU b
  refine gV (vT #[vI p.1,vI p.2]) (FZ (bd:=[vA (Ac m mv)]) (caps:=[]) rfl qK rfl) (fun o w z_=>(Does.inv (WE N m _ cf z_.view mv (Aa1.mono z_.ro_cell hm)) _))<|r_R [vT #[vI p.1,vI p.2],vI p.1,vI p.2,vI p.1,vI p.2] rfl<|Af<|Ad<|r_R [vI p.2,vB (p.2 !=0)] rfl<|Af<|Bf _ rfl (fun ab=> ?_) (fun ab=> ?_)
  ·replace b:=iN ab b
   refine Ad<|r_R [vI a,vI p.1,vI p.2] rfl<|r_W (vA #[vI a,vI p.1,vI p.2]) rfl (Ap rfl rfl rfl rfl)<|r_a (95, #[vI a,vI p.1,vI p.2]) rfl rfl rfl (fun M=> ?_) (.inr rfl)
   refine r_R [Value.iface 93 (vP M 0),Value.iface 93 (vP M 0)] rfl<|Af ?_
   cases b
   refine Bb (fun V=>GP (v0:=Value.iface 93 (vP M 0)) (O:=[(De M a p.1 p.2)]) (EJ rfl) (Sub.pick [(De M a p.1 p.2),s] [0] rfl) ⟨M,_,⟨rfl,rfl⟩,rfl⟩)
  replace b:=iM ab b
  refine Ab<|u _ _ ?_
  refine Ag ?_
  obtain⟨bn,b⟩:=EU b
  refine r_X (vI (a+1)) rfl (KS rfl bn.1 bn.2) rfl<|r_V (vI (a+1)) rfl<|Af<|fg _ (Sub.pick [s] [0] rfl) ?_
  exact⟨d+1,by omega,d,(a+1),b,Ah rfl rfl,rfl⟩
 replace b:=iF ax b
 refine AI<|cr _ _ ?_
 refine Ad<|r_V Value.nilIface rfl<|Af ?_
 cases b
 refine Bb (fun V=>GP (v0:=Value.nilIface) (O:=[]) (EJ rfl) (Sub.nil _) ⟨rfl,rfl⟩)
def Ll(_:Nat)(x:BitVec 64)(y:BitVec 64):Option ((BitVec 64)×(BitVec 64)):=some (((((x>>>32)*(y>>>32))+((((x>>>32)*(y&&&4294967295#64))+(((x&&&4294967295#64)*(y&&&4294967295#64))>>>32))>>>32))+((((((x>>>32)*(y&&&4294967295#64))+(((x&&&4294967295#64)*(y&&&4294967295#64))>>>32))&&&4294967295#64)+((x&&&4294967295#64)*(y>>>32)))>>>32)),(x*y))
theorem RG(N x y r)(b:Ll N x y=some r):Gives prog 127 #[U x,U y] (vT #[U r.1,U r.2]):=by
 unfold Ll at b
 refine Av follows func127 rfl 51 rfl _ fz2 (fun a=> ?_)
 refine AZ rfl<|Ad<|rn 1 rfl<|r_X (U (x&&&4294967295#64)) rfl (VW x (4294967295#64)) rfl<|rz rfl<|Ad<|rn 1 rfl<|r_v (U (x>>>32)) rfl rfl (cM x 32) (Vu rfl rfl)<|rz rfl<|Ad<|rn 1 rfl<|r_X (U (y&&&4294967295#64)) rfl (VW y (4294967295#64)) rfl<|rz rfl<|Ad<|rn 1 rfl<|r_v (U (y>>>32)) rfl rfl (cM y 32) (Vu rfl rfl)<|rz rfl<|Ad<|rn 2 rfl ?_
 refine r_X (U ((x&&&4294967295#64)*(y&&&4294967295#64))) rfl (VV (x&&&4294967295#64) (y&&&4294967295#64)) rfl<|rz rfl<|Ad<|rn 2 rfl<|r_X (U ((x>>>32)*(y&&&4294967295#64))) rfl (VV (x>>>32) (y&&&4294967295#64)) rfl<|rn 1 rfl<|r_v (U (((x&&&4294967295#64)*(y&&&4294967295#64))>>>32)) rfl rfl (cM ((x&&&4294967295#64)*(y&&&4294967295#64)) 32) (Vu rfl rfl) ?_
 refine r_X (U ((((x>>>32)*(y&&&4294967295#64))+(((x&&&4294967295#64)*(y&&&4294967295#64))>>>32)))) rfl (XL ((x>>>32)*(y&&&4294967295#64)) (((x&&&4294967295#64)*(y&&&4294967295#64))>>>32)) rfl<|rz rfl<|Ad<|rn 1 rfl ?_
 refine r_X (U (((((x>>>32)*(y&&&4294967295#64))+(((x&&&4294967295#64)*(y&&&4294967295#64))>>>32))&&&4294967295#64))) rfl (VW ((((x>>>32)*(y&&&4294967295#64))+(((x&&&4294967295#64)*(y&&&4294967295#64))>>>32))) (4294967295#64)) rfl<|rz rfl<|Ad<|rn 1 rfl ?_
 refine r_v (U (((((x>>>32)*(y&&&4294967295#64))+(((x&&&4294967295#64)*(y&&&4294967295#64))>>>32))>>>32))) rfl rfl (cM ((((x>>>32)*(y&&&4294967295#64))+(((x&&&4294967295#64)*(y&&&4294967295#64))>>>32))) 32) (Vu rfl rfl)<|rz rfl ?_
 refine GQ [(0,U x),(1,U y),(6,U (x&&&4294967295#64)),(7,U (x>>>32)),(9,U (y>>>32)),(12,U (((((x>>>32)*(y&&&4294967295#64))+(((x&&&4294967295#64)*(y&&&4294967295#64))>>>32))&&&4294967295#64))),(13,U (((((x>>>32)*(y&&&4294967295#64))+(((x&&&4294967295#64)*(y&&&4294967295#64))>>>32))>>>32)))] rfl (fun T=> ?_)
 refine Ad<|rn 3 rfl<|r_X (U ((x&&&4294967295#64)*(y>>>32))) rfl (VV (x&&&4294967295#64) (y>>>32)) rfl<|r_X (U ((((((x>>>32)*(y&&&4294967295#64))+(((x&&&4294967295#64)*(y&&&4294967295#64))>>>32))&&&4294967295#64)+((x&&&4294967295#64)*(y>>>32))))) rfl (XL (((((x>>>32)*(y&&&4294967295#64))+(((x&&&4294967295#64)*(y&&&4294967295#64))>>>32))&&&4294967295#64)) ((x&&&4294967295#64)*(y>>>32))) rfl ?_
 refine rz rfl<|Ad<|rn 2 rfl<|r_X (U ((x>>>32)*(y>>>32))) rfl (VV (x>>>32) (y>>>32)) rfl<|rn 1 rfl ?_
 refine r_X (U ((((x>>>32)*(y>>>32))+((((x>>>32)*(y&&&4294967295#64))+(((x&&&4294967295#64)*(y&&&4294967295#64))>>>32))>>>32)))) rfl (XL ((x>>>32)*(y>>>32)) (((((x>>>32)*(y&&&4294967295#64))+(((x&&&4294967295#64)*(y&&&4294967295#64))>>>32))>>>32))) rfl<|rn 1 rfl ?_
 refine r_v (U (((((((x>>>32)*(y&&&4294967295#64))+(((x&&&4294967295#64)*(y&&&4294967295#64))>>>32))&&&4294967295#64)+((x&&&4294967295#64)*(y>>>32)))>>>32))) rfl rfl (cM ((((((x>>>32)*(y&&&4294967295#64))+(((x&&&4294967295#64)*(y&&&4294967295#64))>>>32))&&&4294967295#64)+((x&&&4294967295#64)*(y>>>32)))) 32) (Vu rfl rfl) ?_
 refine r_X (U (((((x>>>32)*(y>>>32))+((((x>>>32)*(y&&&4294967295#64))+(((x&&&4294967295#64)*(y&&&4294967295#64))>>>32))>>>32))+((((((x>>>32)*(y&&&4294967295#64))+(((x&&&4294967295#64)*(y&&&4294967295#64))>>>32))&&&4294967295#64)+((x&&&4294967295#64)*(y>>>32)))>>>32)))) rfl (XL ((((x>>>32)*(y>>>32))+((((x>>>32)*(y&&&4294967295#64))+(((x&&&4294967295#64)*(y&&&4294967295#64))>>>32))>>>32))) (((((((x>>>32)*(y&&&4294967295#64))+(((x&&&4294967295#64)*(y&&&4294967295#64))>>>32))&&&4294967295#64)+((x&&&4294967295#64)*(y>>>32)))>>>32))) rfl ?_
 refine rz rfl<|Ad<|rn 2 rfl<|r_X (U (x*y)) rfl (VV x y) rfl<|rz rfl ?_
 cases b
 exact aR eE2
def Mt(N:Nat)(x:BitVec 64)(y:BitVec 64):Option ((BitVec 64)×(BitVec 64)):=(Ll N x y).bind fun a=>some (a.1,a.2)
theorem Tt(N x y r)(a:Mt N x y=some r):Gives prog 67 #[U x,U y] (vT #[U r.1,U r.2]):=by
 unfold Mt at a
 refine Av follows func67 rfl 30 rfl _ fz2 (fun b=> ?_)
 refine AZ rfl<|Aa fun e c=>BZ rfl ?_
 refine Ab<|c _ _ ?_
 refine Ad<|rn 2 rfl<|kB a fun f d a=>rc _ (cF nt) (RG N x y _ d)<|rz rfl<|AZ rfl ?_
 cases a
 exact aR eE2
def FH  :Nat→List Int→Int→Option (List Int)
  |0,_,_=>none
  |c+1,b,a=>if a<(b.length:Int)then ck (0≤a∧a≤(b.length:Int)) (ck (0≤a∧a≤(b.length:Int)) (ck ((R64 (a+((min (a.toNat) ((b).length - (a.toNat)):Nat):Int)))) ((FH c) (RY b (a.toNat) (a.toNat)) ((a+((min (a.toNat) ((b).length - (a.toNat)):Nat):Int))))))else some b
def IJ(N:Nat)(x:List Int)(a:(BitVec 64)×(BitVec 64)):Option (List Int):=ck ((((a.2).toNat:Nat):Int)≤9223372036854775807) (ck (0≤(((a.2).toNat:Nat):Int)∧(((a.2).toNat:Nat):Int)≤17592186044416) (FH N (((x).take ((List.replicate ((((a.2).toNat:Nat):Int)).toNat (0:Int))).length++((List.replicate ((((a.2).toNat:Nat):Int)).toNat (0:Int))).drop (x).length)) (((min (x).length ((List.replicate ((((a.2).toNat:Nat):Int)).toNat (0:Int))).length:Nat):Int))))
def IK(N:Nat)(x:List Int)(a:Int):Option (List Int):=(Mt N (BitVec.ofInt 64 (x.length:Int)) (BitVec.ofInt 64 a)).bind fun b=>if(0#64)<b.1 then none else if(9223372036854775807#64)<b.2 then none else IJ N x b 
def Jm(N:Nat)(x:List Int)(a:Int):Option (List Int):=if a<0 then none else IK N x a 
theorem Pz(N x count r)(a:Jm N x count=some r)(ro xv)(hx:Rd BI ro xv x):Does prog 27 #[xv,vI count] ro [] (p1 (fun s_=>s_) 3 BI r):=by
 unfold Jm at a
 refine Al follows func27 rfl 48 rfl _ fz2 (fun A=> ?_)
 refine AZ rfl<|Cb (fun tt ll=>(IK N x count  =some r)∧Is [(0,xv),(1,vI count)] [] tt ll) ?_ ?_
 ·refine AZ rfl<|aD a rfl (fun n a=> ?_) (fun n a=> ?_)
  ·refine Ag<|rn 1 rfl ?_
   cases a
  refine Ab<|fg _ (Sub.of suN) ?_
  exact⟨a,Ah rfl rfl⟩
 clear a;rintro t l ⟨a,⟨T,rfl⟩,rfl⟩
 unfold IK at a
 refine Ad<|rn 1 rfl<|rL (Rd.shp hx) rfl<|r_w (U (BitVec.ofInt 64 (x.length:Int))) rfl rfl (fQ (x.length:Int)) (fun _=>rfl)<|rn 1 rfl<|r_w (U (BitVec.ofInt 64 count)) rfl rfl (fQ count) (fun _=>rfl)<|kB a fun f B a=>rc _ (cF qC) (Tt N (BitVec.ofInt 64 (x.length:Int)) (BitVec.ofInt 64 count) _ B)<|rz rfl<|Cb (fun tt ll=>(IJ N x f  =some r)∧Is [(0,xv),(6,U f.2)] [] tt ll) ?_ ?_
 ·refine Aa fun I h=>Ag<|rn 1 rfl<|r_X (vB (decide ((0#64)<f.1))) rfl (vD (0#64) f.1) rfl<|rn 1 rfl ?_
  rcases i:(decide ((0#64)<f.1))with _|_
  ·replace a:=iF i a
   refine rn 1 rfl<|r_y rfl<|r_X (vB (decide ((9223372036854775807#64)<f.2))) rfl (vD (9223372036854775807#64) f.2) rfl<|rz rfl<|h _ _ ?_
   refine aD a rfl (fun q a=> ?_) (fun q a=> ?_)
   ·refine Ag<|rn 1 rfl ?_
    cases a
   refine Ab<|fg _ (Sub.of suN) ?_
   exact⟨a,Ah rfl rfl⟩
  replace a:=iD i a
  refine rz rfl<|h _ _ ?_
  refine MP rfl ?_
  refine Ag<|rn 1 rfl ?_
  cases a
 clear a;rintro t l ⟨a,⟨T,rfl⟩,rfl⟩
 unfold IJ at a
 refine Ad<|rn 1 rfl<|kC a fun C a=>r_w (vI (((f.2).toNat:Nat):Int)) rfl rfl (KS rfl (by omega) C) (fun _=>rfl)<|kC a fun D a=>cB 30<|SC (Ls:=[]) 3 BI 0 (((f.2).toNat:Nat):Int) rfl rfl rfl rfl rfl rfl rfl rfl rfl rfl 17592186044416 rfl D (fun _ _ _ _ _=>Iff.rfl) (fun m H E=> ?_)
 refine rz rfl<|Ad<|rn 2 rfl<|cA 33 (p:=(pUp (fun v_ U_=>v_= .int .i64 ((min (x).length ((List.replicate ((((f.2).toNat:Nat):Int)).toNat (0:Int))).length:Nat):Int)∧Sl 3 BI m ((x).take ((List.replicate ((((f.2).toNat:Nat):Int)).toNat (0:Int))).length++((List.replicate ((((f.2).toNat:Nat):Int)).toNat (0:Int))).drop (x).length) U_∧U_.map (·.1)=H.map (·.1))))<|rW (Ls:=[H]) 0 (En:=BI) (ys:=x) rfl rfl rfl rfl rfl rfl E (Rd.shp hx) (Aw hx) rfl rfl rfl rfl (fun _ _ _ _ _=>Iff.rfl) (fun s F=> ?_)
 refine rz rfl<|Aa fun J u=>Ai<|Bw _ (Sub.pick [s] [0] rfl)<|AH (fun tt ll nn=> ∃(g:Nat) (d:List Int) (b:Int),(FH g d b=some r)∧ ∃(c:List Bl),Sl 3 BI m d c∧Is [(7,m),(8,vI b)] (List.flatten [c]) tt ll∧nn=g+1) (N+1) ?_ ?_
 ·exact⟨N,((x).take ((List.replicate ((((f.2).toNat:Nat):Int)).toNat (0:Int))).length++((List.replicate ((((f.2).toNat:Nat):Int)).toNat (0:Int))).drop (x).length),((min (x).length ((List.replicate ((((f.2).toNat:Nat):Int)).toNat (0:Int))).length:Nat):Int),a,s,F,Ah rfl rfl,rfl⟩
 clear a;rintro t l _ ⟨g,d,b,a,c,e,⟨⟨T,rfl⟩,rfl⟩,rfl⟩
 rcases g with _|g
 ·exact absurd a (by simp [FH])
 rw [FH] at a
 refine Aa fun K v=>Ad<|rn 2 rfl<|rL (Sl.shp e) rfl<|rz rfl<|aD a rfl (fun w a=> ?_) (fun w a=> ?_)
 ·refine Ab<|v _ _ ?_
  refine Ai<|BE [(some 45,true)] (conG prog [(45,fun _ _ v_ L_ U_=>(pUp (fun v_ U_=>v_= .int .i64 ((min (b.toNat) ((d).length - (b.toNat)):Nat):Int)∧Sl 3 BI m (RY d (b.toNat) (b.toNat)) U_∧U_.map (·.1)=c.map (·.1))) v_ L_ U_)]) [] (by decide+kernel) (fun L=>AQ)<|rn 3 rfl<|kC a fun j a=>r_W (FG m (b.toNat) ((d).length) 1) rfl (Ef (Xn rfl rfl rfl rfl (Sl.shp e) j))<|rn 2 rfl<|kC a fun k a=>r_W (FG m 0 (b.toNat) 1) rfl (Ef (Iz rfl rfl rfl rfl (Sl.shp e) k))<|sK (Ls:=[c]) 0 (En:=BI) (o:=b.toNat) (p:=b.toNat) rfl rfl rfl rfl rfl rfl e (GR j.2) (GR k.2) rfl rfl rfl rfl (fun _ _ _ _ _=>Iff.rfl) (fun y G=> ?_)
  refine kC a fun z a=>rX z rfl<|rz rfl<|fg _ (Sub.pick [y] [0] rfl) ?_
  exact⟨g+1,by omega,g,(RY d (b.toNat) (b.toNat)),(b+((min (b.toNat) ((d).length - (b.toNat)):Nat):Int)),a,y,G,Ah rfl rfl,rfl⟩
 refine AI<|u _ _ ?_
 refine AZ rfl ?_
 cases a
 refine Bb (fun L=>Hw (v0:=m) e (EH (Sub.pick [c] [0] rfl)) rfl (EJ rfl))
end Go.Proofs.YtoolcgbcfgnipaaGreatDoor
