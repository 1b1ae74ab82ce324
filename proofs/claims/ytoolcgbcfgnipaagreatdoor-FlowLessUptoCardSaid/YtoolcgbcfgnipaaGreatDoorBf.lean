import Derived.Test.YtoolcgbcfgnipaaGreatDoorBe
namespace Go.Proofs.YtoolcgbcfgnipaaGreatDoor
open Go Go.RowKit Go.Eng _root_.Go.Proofs.Tryz
set_option linter.unusedSimpArgs false
set_option linter.unusedVariables false
set_option maxRecDepth 100000
set_option maxHeartbeats 80000000
abbrev FX(b:Nat)(x0:List UInt8)(x1:Value)(x2:Int)(x3:Int)(x4:Int)(x5:Int):List Bl:=[(b,79, #[vS x0,x1,vI x2,vI x3,vI x4,vI x5])]
abbrev RM(b:Nat)(x0:Value):List Bl:=[(b,118, #[x0])]
abbrev fh(b:Nat)(x0:Value):List Bl:=[(b,23, #[x0])]
abbrev ff(b:Nat)(x0:List UInt8)(x1:Int)(x2:Int):List Bl:=[(b,81, #[vS x0,vI x1,vI x2])]
abbrev TO(b:Nat)(x0:List UInt8)(x1:Int):List Bl:=[(b,77, #[vS x0,vI x1])]
abbrev UR(b:Nat)(x0:Value):List Bl:=[(b,189, #[x0])]
abbrev Yn(b:Nat)(x0:List UInt8)(x1:Value)(x2:Value)(x3:Value)(x4:Int):List Bl:=[(b,86, #[vS x0,x1,x2,x3,vI x4])]
abbrev KC(b:Nat)(x0:Value)(x1:Value)(x2:Int)(x3:Int)(x4:Int)(x5:Int):List Bl:=[(b,79, #[x0,x1,vI x2,vI x3,vI x4,vI x5])]
def Jz(N:Nat)(_:List UInt8)(b:List (List UInt8×Int))(e:Int)(a:Int)(c:Int)(d:Int):Option Bool:=if e=0 then if a=0 then if c=0 then some (d==0)else some false else some false else(FI N e 1 64).bind fun g=>if g=true then ck ((R64 ((b.length:Int) - 1))) ((FI N a 0 ((b.length:Int) - 1)).bind fun f=>if f=true then ck (0≤a∧a<(b.length:Int)) (if((b[a.toNat]!).2:Int)≤16 then(FI N c 1 64).bind fun i=>if i=true then(FI N d 0 4096).bind fun h=>some h else some false else some false)else some false)else some false
theorem Uh(N h_0 h_1 h_2 h_3 h_4 h_5 r)(a:Jz N h_0 h_1 h_2 h_3 h_4 h_5=some r)(ro h_1v)(hh_1:Rd Ab2 ro h_1v h_1):Does prog 149 #[vA #[vS h_0,h_1v,vI h_2,vI h_3,vI h_4,vI h_5]] ro [] (pV (vB r)):=by
 unfold Jz at a
 refine Al follows func149 rfl 51 rfl _ fz1 (fun p=> ?_)
 refine Ad<|rA rfl fun w=>rz rfl<|Aa fun y q=>AY [0] rfl<|aE a rfl (fun s a=> ?_) (fun s a=> ?_)
 ·refine Aa fun z h=>Ag<|rm 4 [0] rfl ?_
  rcases i:(h_3==0)with _|_
  ·replace a:=iG i a
   refine rz rfl<|h _ _ ?_
   cases a
   exact aR eV1
  replace a:=iE i a
  refine rn 1 rfl<|r_y rfl<|rm 4 [0] rfl ?_
  rcases j:(h_4==0)with _|_
  ·replace a:=iG j a
   refine rz rfl<|h _ _ ?_
   cases a
   exact aR eV1
  replace a:=iE j a
  refine rn 1 rfl<|r_y rfl<|ry [0] rfl<|h _ _ ?_
  cases a
  exact aR eV1
 refine Ab<|q _ _ ?_
 refine Aa fun A b=>Ag<|rm 2 [0] rfl<|kB a fun t k a=>rc _ (cF Kz) (HV N h_2 1 64 _ k)<|rn 1 rfl ?_
 rcases d:t with _|_
 ·replace a:=iB d a
  refine rz rfl<|b _ _ ?_
  refine GQ [(2,vB false)] rfl (fun T=> ?_)
  cases a
  exact aR eV1
 replace a:=ifp d a
 refine rn 1 rfl<|r_y rfl<|rm 2 [0] rfl<|r_y rfl<|rm 1 [0] rfl<|r_y rfl<|rL (Rd.shp hh_1) rfl<|r_y rfl<|kC a fun l a=>rX l rfl<|r_y rfl<|kB a fun u m a=>rc _ (cF Kz) (HV N h_3 0 ((h_1.length:Int) - 1) _ m)<|rn 2 rfl ?_
 rcases e:u with _|_
 ·replace a:=iB e a
  refine rz rfl<|b _ _ ?_
  refine GQ [(2,vB false)] rfl (fun T=> ?_)
  cases a
  exact aR eV1
 replace a:=ifp e a
 refine rn 1 rfl<|r_y rfl<|rm 2 [0] rfl<|r_y rfl<|rm 1 [0] rfl<|r_y rfl<|kC a fun c a=>rI (Rd.shp hh_1) c rfl<|r_y rfl<|rF (Rd.shp hh_1) (Be c) rfl<|r_y rfl<|rE (Aw hh_1) c 1 rfl<|rn 3 rfl<|dw [(1,vP w 0),(2,vB false),(41,vB (decide (((h_1[h_3.toNat]!).2:Int)≤16)))] rfl (fun T=> ?_)
 rcases f:(decide (((h_1[h_3.toNat]!).2:Int)≤16))with _|_
 ·replace a:=iF f a
  refine rz rfl<|b _ _ ?_
  cases a
  exact aR eV1
 replace a:=iD f a
 refine rn 1 rfl<|r_y rfl<|rm 1 [0] rfl<|r_y rfl<|kB a fun v n a=>rc _ (cF Kz) (HV N h_4 1 64 _ n)<|rn 2 rfl ?_
 rcases g:v with _|_
 ·replace a:=iB g a
  refine rz rfl<|b _ _ ?_
  cases a
  exact aR eV1
 replace a:=ifp g a
 refine rn 1 rfl<|r_y rfl<|rm 1 [0] rfl<|r_y rfl<|kB a fun x o a=>rc _ (cF Kz) (HV N h_5 0 4096 _ o)<|rz rfl<|b _ _ ?_
 cases a
 exact aR eV1
def IM(N:Nat)(c:List UInt8)(a:List (List UInt8×Int))(h:Int)(i:Int)(e:Int)(f:Int):Option Int:=(MS N c).bind fun j=>if j=true then if(a.length:Int)>16 then some 2 else if(a.length:Int)=0 then some 5 else(Kr N a).bind fun d=>if(d:Int)≠0 then some d else(Ov N a).bind fun b=>ck (0≤b∧b≤9223372036854775807) (if(b%8:Int)≠0 then some 9 else(Jz N c a h i e f).bind fun g=>if g=true then some 0 else some 7)else some 4
theorem dg(N h_0 h_1 h_2 h_3 h_4 h_5 r)(a:IM N h_0 h_1 h_2 h_3 h_4 h_5=some r)(ro h_1v)(hh_1:Rd Ab2 ro h_1v h_1):Does prog 90 #[vA #[vS h_0,h_1v,vI h_2,vI h_3,vI h_4,vI h_5]] ro [] (pV (vI r)):=by
 unfold IM at a
 refine Al follows func90 rfl 35 rfl _ fz1 (fun p=> ?_)
 refine Ad<|rA rfl fun t=>rz rfl<|Aa fun z q=>Ai<|Ad<|rm 2 [0] rfl<|kB a fun A s a=>rc _ (cF ci) (WT N h_0 _ s)<|rz rfl<|Bf _ rfl (fun c=> ?_) (fun c=> ?_)
 ·replace a:=ifn (Bool.eq_false_iff.1 (Da c)) a
  refine AZ rfl ?_
  cases a
  exact aR eV1
 replace a:=ifp (Db c) a
 refine Ad<|rm 2 [0] rfl<|rL (Rd.shp hh_1) rfl<|rz rfl<|aD a rfl (fun d a=> ?_) (fun d a=> ?_)
 ·refine AZ rfl ?_
  cases a
  exact aR eV1
 refine Ad<|rm 2 [0] rfl<|rL (Rd.shp hh_1) rfl<|rz rfl<|aE a rfl (fun e a=> ?_) (fun e a=> ?_)
 ·refine AZ rfl ?_
  cases a
  exact aR eV1
 refine Ab<|q _ _ ?_
 refine Aa fun u f=>Ad<|rm 2 [0] rfl<|kB a fun v g a=>gV _ (cF nc) (fun o w z_=>Wb N h_1 _ g z_.view h_1v (z_.r hh_1))<|rz rfl<|AZ rfl<|aN a rfl (fun h a=> ?_) (fun h a=> ?_)
 ·refine AZ rfl ?_
  cases a
  exact aR eV1
 refine Ab<|f _ _ ?_
 refine Aa fun x i=>Ai<|Ad<|rm 2 [0] rfl<|kB a fun j k a=>gV _ (cF cg) (fun o w z_=>WS N h_1 _ k z_.view h_1v (z_.r hh_1))<|kC a fun l a=>r_X (vI (j%8)) rfl (RA l.1) rfl<|rz rfl<|GQ [(1,vP t 0),(25,vB ((j%8:Int) !=0))] rfl (fun T=> ?_)
 refine aN a rfl (fun m a=> ?_) (fun m a=> ?_)
 ·refine AZ rfl ?_
  cases a
  exact aR eV1
 refine Ad<|rm 1 [0] rfl<|kB a fun y n a=>gV _ (cF nb) (fun o w z_=>Uh N h_0 h_1 h_2 h_3 h_4 h_5 _ n z_.view h_1v (z_.r hh_1))<|rz rfl<|Bf _ rfl (fun b=> ?_) (fun b=> ?_)
 ·replace a:=ifn (Bool.eq_false_iff.1 (Da b)) a
  refine AZ rfl ?_
  cases a
  exact aR eV1
 replace a:=ifp (Db b) a
 refine Ab<|i _ _ ?_
 refine AZ rfl ?_
 cases a
 exact aR eV1
def AU(N:Nat)(a:List (List UInt8))(i:Int):Option Int:=ck (0≤i∧i≤(a.length:Int)) (ck (0≤i∧i<(a.length:Int)) ((HN N (((a).take (i.toNat)).drop 0) (a[i.toNat]!)).bind fun c=>(Aq N (decide (c<0)) 6).bind fun b=>some b))
theorem HQ(N names i r)(a:AU N names i=some r)(ro namesv)(hnames:Rd Aa3 ro namesv names):Does prog 91 #[namesv,vI i] ro [] (pV (vI r)):=by
 unfold AU at a
 refine Al follows func91 rfl 15 rfl _ fz2 (fun e=> ?_)
 refine AZ rfl<|Aa fun k f=>BE [(some 12,false)] (conG prog [(12,cV (HN N (((names).take (i.toNat)).drop 0) (names[i.toNat]!)) fun g=>vI g)]) [] (by decide+kernel) (fun l=>AQ)<|rn 2 rfl<|kC a fun b a=>r_W (FG namesv 0 (i.toNat) 1) rfl (Ef (Iz rfl rfl rfl rfl (Rd.shp hnames) b))<|rn 2 rfl<|kC a fun c a=>rI (Rd.shp hnames) c rfl<|rE (Aw hnames) c 0 rfl<|kB a fun j d a=>rg _ (cF cf) (fun o w z_=>RE N (((names).take (i.toNat)).drop 0) (names[i.toNat]!) _ d z_.view (FG namesv 0 (i.toNat) 1) ((Pc (Aw hnames) (Nat.zero_le _) (GR b.2)) o w z_)) (Ha d)<|rn 1 rfl<|kB a fun m h a=>rc _ (cF Bj) (Ay N (decide (j<0)) 6 _ h)<|rz rfl<|f _ _ ?_
 cases a
 exact aR eV1
def Hm(N:Nat)(i:Int)(c:List UInt8)(g:List (List UInt8×Int))(f:Int)(h:Int)(a:Int)(b:Int)(e:List (List UInt8)):Option Int:=(IM N c g f h a b).bind fun k=>(AU N e i).bind fun j=>(AE N ([k,j])).bind fun d=>some d
theorem SS(N i h_0 h_1 h_2 h_3 h_4 h_5 c r)(g:Hm N i h_0 h_1 h_2 h_3 h_4 h_5 c=some r)(ro h_1v)(hh_1:Rd Ab2 ro h_1v h_1)(h:Nat)(a)(l:Rd Aa3 ro a c)(j:Blk ro h [a]):Does prog 89 #[vI i,vA #[vS h_0,h_1v,vI h_2,vI h_3,vI h_4,vI h_5],vP h 0] ro [] (pV (vI r)):=by
 unfold Hm at g
 refine Al follows func89 rfl 13 rfl _ fz3 (fun p=> ?_)
 refine Ad<|rA rfl fun v=>rz rfl<|Aa fun A q=>BE [(some 7,false),(some 10,false),(some 11,false),(some 12,false)] (conG prog [(7,cV (IM N h_0 h_1 h_2 h_3 h_4 h_5) fun b=>vI b),(10,cV (AU N c i) fun b=>vI b),(12,fun _ _ v_ L_ U_=> ∀b,IM N h_0 h_1 h_2 h_3 h_4 h_5=some b→ ∀m,AU N c i=some m→ ∀n,AE N ([b,m])=some n→(pV (vI n)) v_ L_ U_)]) [] (by decide+kernel) (fun B=>AQ) ?_
 refine rm 1 [0] rfl<|kB g fun s e g=>rg _ (cF qo) (fun o w z_=>dg N h_0 h_1 h_2 h_3 h_4 h_5 _ e z_.view h_1v (z_.r hh_1)) (Ha e)<|Hr a (vs:=[a]) (o:=0) rfl rfl (AS j) rfl<|rn 1 rfl<|kB g fun t f g=>rg _ (cF Od) (fun o w z_=>HQ N c i _ f z_.view a (z_.r l)) (Ha f) ?_
 refine Kq (Ls:=[(FX v h_0 h_1v h_2 h_3 h_4 h_5)]) 42 BI [s,t] [vI s,vI t] [vI 0,vI 0] rfl rfl rfl rfl rfl rfl rfl (by kernel_rfl) (by kernel_rfl) rfl rfl rfl (fun x y u=> ?_)
 refine kB g fun z d g=>rg _ (cF ED) (fun o w z_=>BQ N ([s,t]) _ d z_.view x ((Ax u (Ak (Ls:=[(FX v h_0 h_1v h_2 h_3 h_4 h_5),y]) (k:=1) rfl rfl)) o w z_)) (fun _ _ v_ L_ U_=>⟨fun h_=>h_ _ e _ f _ d,fun h_=>by intro _ e_;cases q1 (e_.symm.trans e);intro _ e_;cases q1 (e_.symm.trans f);intro _ e_;cases q1 (e_.symm.trans d);exact h_⟩) ?_
 refine rz rfl<|q _ _ ?_
 cases g
 exact aR eV1
def HE(N:Nat)(b:List ((List UInt8)×(List (List UInt8×Int))×Int×Int×Int×Int))(c:List (List UInt8)):Nat→Int→Option (Int×Int)
  |0,_=>none
  |e+1,a=>if a<(b.length:Int)then ck (0≤a∧a<(b.length:Int)) ((Hm N a (b[a.toNat]!.1) (b[a.toNat]!.2.1) (b[a.toNat]!.2.2.1) (b[a.toNat]!.2.2.2.1) (b[a.toNat]!.2.2.2.2.1) (b[a.toNat]!.2.2.2.2.2) c).bind fun d=>if(d:Int)≠0 then some (a,d)else ck (R64 (a+1)) ((HE N b c e) (a+1)))else some (0,0)
def Lw(N:Nat)(c:List ((List UInt8)×(List (List UInt8×Int))×Int×Int×Int×Int))(b:Int)(a:List (List UInt8)):Option (Int×Int):=if(c.length:Int)>b then some (0,2)else HE N c a N 0
theorem Vd(N l' most d r)(c:Lw N l' most d=some r)(ro l'v)(hl':RdN Ad4 ro l'v l')(b:Nat)(e)(h:Rd Aa3 ro e d)(f:Blk ro b [e]):Does prog 88 #[l'v,vI most,vF 89 #[] #[vP b 0]] ro [] (pV (vT #[vI r.1,vI r.2])):=by
 unfold Lw at c
 refine Al follows func88 rfl 31 rfl _ fz3 (fun v=> ?_)
 refine AZ rfl<|Aa fun F x=>Ad<|rn 1 rfl<|rL (RdN.shp hl') rfl<|rz rfl<|aD c rfl (fun y c=> ?_) (fun y c=> ?_)
 ·refine AZ rfl ?_
  cases c
  exact aR eV2
 refine Ab<|x _ _ ?_
 refine Aa fun G z=>Ad<|rn 1 rfl<|rL (RdN.shp hl') rfl<|rz rfl<|Ai<|AH (fun tt ll nn=> ∃(k:Nat) (a:Int),(HE N l' d k a=some r)∧Is [(2,vF 89 #[] #[vP b 0]),(15,l'v),(16,vI (l'.length:Int)),(17,vI a)] [] tt ll∧nn=k+1) (N+1) ?_ ?_
 ·exact⟨N,0,c,Ah rfl rfl,rfl⟩
 clear c;rintro t l _ ⟨k,a,c,⟨⟨T,rfl⟩,rfl⟩,rfl⟩
 rcases k with _|k
 ·exact absurd c (by simp [HE])
 rw [HE] at c
 refine AZ rfl<|Aa fun B m=>aD c rfl (fun n c=> ?_) (fun n c=> ?_)
 ·refine Ab<|m _ _ ?_
  refine Aa fun C p=>Ai<|Ad<|rn 1 rfl<|kC c fun i c=> ?_
  obtain⟨_,⟨g,j,rfl⟩,hat17⟩:=RdN.at (E:=Ad4) hl' (Dc i)
  refine rI (RdN.shp hl') i rfl<|NB (vA #[vS (l'[a.toNat]!.1),g,vI (l'[a.toNat]!.2.2.1),vI (l'[a.toNat]!.2.2.2.1),vI (l'[a.toNat]!.2.2.2.2.1),vI (l'[a.toNat]!.2.2.2.2.2)]) (vs:=[vS (l'[a.toNat]!.1),g,vI (l'[a.toNat]!.2.2.1),vI (l'[a.toNat]!.2.2.2.1),vI (l'[a.toNat]!.2.2.2.2.1),vI (l'[a.toNat]!.2.2.2.2.2)]) (a.toNat*6) 0 rfl rfl (fun o w z_=>At.mono z_.ro_cell hat17) rfl<|rA rfl fun A=>rn 1 rfl<|r_s (FX A (l'[a.toNat]!.1) g (l'[a.toNat]!.2.2.1) (l'[a.toNat]!.2.2.2.1) (l'[a.toNat]!.2.2.2.2.1) (l'[a.toNat]!.2.2.2.2.2)) 0 _ _ _ _ _ (#[vS (l'[a.toNat]!.1),g,vI (l'[a.toNat]!.2.2.1),vI (l'[a.toNat]!.2.2.2.1),vI (l'[a.toNat]!.2.2.2.2.1),vI (l'[a.toNat]!.2.2.2.2.2)]) rfl rfl rfl rfl (.ofS rfl rfl (Ae rfl (Ae (Shp.one (Rd.shp j)) (Ae rfl (Ae rfl (Ae rfl (Ae rfl Bv))))))) rfl rfl<|Af<|Ad<|rn 2 rfl ?_
  refine rm 1 [0] rfl<|kB c fun D q c=>gV _ (BF (caps:=[vP b 0]) rfl qp rfl) (fun o w z_=>SS N a (l'[a.toNat]!.1) (l'[a.toNat]!.2.1) (l'[a.toNat]!.2.2.1) (l'[a.toNat]!.2.2.2.1) (l'[a.toNat]!.2.2.2.2.1) (l'[a.toNat]!.2.2.2.2.2) d _ q z_.view g (z_.r j) b e (z_.r h) (AS f o w z_))<|rz rfl<|AZ rfl<|aN c rfl (fun s c=> ?_) (fun s c=> ?_)
  ·refine AZ rfl ?_
   cases c
   exact aR eV2
  refine Ab<|p _ _ ?_
  refine Ag<|kC c fun u c=>rX u rfl<|rz rfl<|fg _ (Sub.of (suC _ suN)) ?_
  exact⟨k+1,by omega,k,(a+1),c,Ah rfl rfl,rfl⟩
 refine AI<|z _ _ ?_
 refine AZ rfl ?_
 cases c
 exact aR eV2
def Hu(N:Nat)(c:Ao):Option (Int×Int):=(Lv N c.2.1).bind fun b=>(Lw N c.2.1 16 b).bind fun a=>some (a.1,a.2)
theorem Vk(N c r)(a:Hu N c=some r)(ro)(cv:AD)(hc:Aa1 ro cv c):Does prog 41 #[vA (Ac c cv)] ro [] (pV (vT #[vI r.1,vI r.2])):=by
 unfold Hu at a
 refine Al follows func41 rfl 16 rfl _ fz1 (fun d=> ?_)
 refine Ad<|rA rfl fun g=>rz rfl<|Ad<|rm 3 [0] rfl<|kB a fun l h a=>gS (Ls:=[[(g,90,(Ac c cv))]]) (cF qs) (fun o w z_=>Vb N c.2.1 _ h z_.view cv.1 (RdN.mono z_.ro_cell hc.1)) (fun e j i=> ?_)
 refine rA rfl fun f=>r_s (List.flatten [(RM f e),[(g,90,(Ac c cv))],j]) 0 _ _ _ _ _ (#[e]) rfl rfl rfl (Ga rfl (Sl.shp i)) (.ofS rfl rfl (Ae (Shp.one (Sl.shp i)) Bv)) rfl rfl<|Af<|Ad<|rm 3 [1] rfl<|r_W (vF 89 #[] #[vP f 0]) rfl (IA rfl)<|kB a fun m b a=>gV _ (cF qq) (fun o w z_=>Vd N c.2.1 16 l _ b z_.view cv.1 (RdN.mono z_.ro_cell hc.1) f e ((Ax i (Ak (Ls:=[(RM f e),[(g,90,(Ac c cv))],j]) (k:=2) rfl rfl)) o w z_) (Cw 0 rfl rfl o w z_))<|rz rfl ?_
 cases a
 exact aR eV2
def IL(_:Nat)(i:Int)(a:List (List UInt8×Int×Int)):Option (List UInt8):=ck (0≤i∧i<(a.length:Int)) (some ((a[i.toNat]!).1))
theorem QW(N i f r)(g:IL N i f=some r)(ro)(c:Nat)(a)(b:Rd Ad6 ro a f)(d:Blk ro c [a]):Does prog 219 #[vI i,vP c 0] ro [] (pV (vS r)):=by
 unfold IL at g
 refine Al follows func219 rfl 9 rfl _ fz2 (fun h=> ?_)
 refine AZ rfl<|Ad<|Hr a (vs:=[a]) (o:=0) rfl rfl (AS d) rfl<|rn 1 rfl<|kC g fun e g=>rI (Rd.shp b) e rfl<|rF (Rd.shp b) (Be e) rfl<|rE (Aw b) e 0 rfl<|rz rfl ?_
 cases g
 exact aR eV1
def FU(N:Nat)(b:Int)(c:List (List UInt8×Int×Int)):Nat→List (List UInt8)→Int→Option (List (List UInt8))
  |0,_,_=>none
  |f+1,d,a=>if a<b then(IL N a c).bind fun e=>ck (0≤a∧a<(d.length:Int)) (ck (R64 (a+1)) ((FU N b c f) ((d).set (a.toNat) e) (a+1)))else some d
def LW(N:Nat)(a:Int)(b:List (List UInt8×Int×Int)):Option (List (List UInt8)):=ck (0≤a∧a≤8796093022208) (FU N a b N (List.replicate a.toNat ([])) 0)
theorem Wd(N count f r)(b:LW N count f=some r)(ro)(a:Nat)(e)(k:Rd Ad6 ro e f)(i:Blk ro a [e]):Does prog 218 #[vI count,vF 219 #[] #[vP a 0]] ro [] (p1 (fun s_=>s_) 9 Aa3 r):=by
 unfold LW at b
 refine Al follows func218 rfl 21 rfl _ fz2 (fun y=> ?_)
 refine AZ rfl<|Ad<|rn 1 rfl<|kC b fun z b=>cB 8<|SC (Ls:=[]) 9 Aa3 ([]) count rfl rfl rfl rfl rfl rfl rfl rfl rfl rfl 8796093022208 rfl z (fun _ _ _ _ _=>Iff.rfl) (fun A D E=> ?_)
 refine rz rfl<|Aa fun H B=>AZ rfl<|Ai<|Bw _ (Sub.pick [D] [0] rfl)<|AH (fun tt ll nn=> ∃(m:Nat) (g:List (List UInt8)) (c:Int),(FU N count f m g c=some r)∧ ∃(d:List Bl),Sl 9 Aa3 A g d∧Is [(1,vF 219 #[] #[vP a 0]),(5,A),(9,vI count),(10,vI c)] (List.flatten [d]) tt ll∧nn=m+1) (N+1) ?_ ?_
 ·exact⟨N,(List.replicate count.toNat ([])),0,b,D,E,Ah rfl rfl,rfl⟩
 clear b;rintro t l _ ⟨m,g,c,b,d,h,⟨⟨T,rfl⟩,rfl⟩,rfl⟩
 rcases m with _|m
 ·exact absurd b (by simp [FU])
 rw [FU] at b
 refine AZ rfl<|Aa fun F n=>aD b rfl (fun p b=> ?_) (fun p b=> ?_)
 ·refine Ab<|n _ _ ?_
  refine Aa fun G q=>Ai<|AZ rfl<|Ag<|rn 4 rfl<|kB b fun s u b=>gV _ (BF (caps:=[vP a 0]) rfl lY rfl) (fun o w z_=>QW N c f _ u z_.view a e (z_.r k) (AS i o w z_))<|kC b fun j b=>rI (Sl.shp h) j rfl<|Rb (Ls:=[d]) 0 (En:=Aa3) (g[c.toNat]!) s (c.toNat) 0 rfl rfl rfl h (Dc j) rfl rfl rfl (IP rfl) rfl (fun v C=> ?_)
  refine Af<|q _ _ ?_
  refine Ag<|kC b fun x b=>rX x rfl<|rz rfl<|fg _ (Sub.pick [v] [0] rfl) ?_
  exact⟨m+1,by omega,m,(g).set (c.toNat) s,(c+1),b,v,C,Ah rfl rfl,rfl⟩
 refine AI<|B _ _ ?_
 refine AZ rfl ?_
 cases b
 refine Bb (fun I=>Hw (v0:=A) h (EH (Sub.pick [d] [0] rfl)) rfl (EJ rfl))
def Ks(N:Nat)(a:List (List UInt8×Int×Int)):Option (List (List UInt8)):=(LW N (a.length:Int) a).bind fun b=>some b
theorem Wc(N l' r)(a:Ks N l'=some r)(ro l'v)(hl':Rd Ad6 ro l'v l'):Does prog 151 #[l'v] ro [] (p1 (fun s_=>s_) 9 Aa3 r):=by
 unfold Ks at a
 refine Al follows func151 rfl 7 rfl _ fz1 (fun b=> ?_)
 refine Ad<|r_a (23, #[l'v]) rfl rfl (NA rfl (Rd.shp hl')) (fun c=> ?_) (.inr rfl)
 refine rz rfl<|Ad<|rm 1 [0] rfl<|rL (Rd.shp hl') rfl<|r_W (vF 219 #[] #[vP c 0]) rfl (IA rfl)<|kB a fun h d a=>gS (Ls:=[(fh c l'v)]) (cF bQ) (fun o w z_=>Wd N (l'.length:Int) l' _ d z_.view c l'v ((Aw hl') o w z_) (Cw 0 rfl rfl o w z_)) (fun e f g=> ?_)
 refine rz rfl ?_
 cases a
 refine Bb (fun i=>Hw (v0:=e) g (EH (Sub.pick [(fh c l'v),f] [1] rfl)) rfl (EJ rfl))
def JP(N:Nat)(_:List UInt8)(_:Int)(a:Int):Option Bool:=(FI N a 0 4).bind fun b=>some b
theorem Rt(N x_0 x_1 x_2 r)(a:JP N x_0 x_1 x_2=some r):Gives prog 154 #[vA #[vS x_0,vI x_1,vI x_2]] (vB r):=by
 unfold JP at a
 refine Av follows func154 rfl 6 rfl _ fz1 (fun b=> ?_)
 refine Ad<|rA rfl fun d=>rz rfl<|Ad<|rm 2 [0] rfl<|kB a fun e c a=>rc _ (cF Kz) (HV N x_2 0 4 _ c)<|rz rfl ?_
 cases a
 exact aR eE1
def Jy(N:Nat)(c:List UInt8)(b:Int)(a:Int):Option Int:=(JP N c b a).bind fun d=>if d=true then some (max a 1)else some 0
theorem PN(N x_0 x_1 x_2 r)(a:Jy N x_0 x_1 x_2=some r):Gives prog 199 #[vA #[vS x_0,vI x_1,vI x_2]] (vI r):=by
 unfold Jy at a
 refine Av follows func199 rfl 9 rfl _ fz1 (fun c=> ?_)
 refine Ad<|rA rfl fun f=>rz rfl<|Aa fun g d=>Ad<|rm 1 [0] rfl<|kB a fun h e a=>rc _ (cF cd) (Rt N x_0 x_1 x_2 _ e)<|rz rfl<|Bf _ rfl (fun b=> ?_) (fun b=> ?_)
 ·replace a:=ifn (Bool.eq_false_iff.1 (Da b)) a
  refine AZ rfl ?_
  cases a
  exact aR eE1
 replace a:=ifp (Db b) a
 refine Ab<|d _ _ ?_
 refine Ad<|rm 2 [0] rfl<|r_W (vI (max x_2 1)) rfl (kz rfl rfl)<|rz rfl ?_
 cases a
 exact aR eE1
def JB(N:Nat)(b:List (List UInt8×Int×Int)):Nat→Int→Int→Option Int
  |0,_,_=>none
  |e+1,c,a=>if a<(b.length:Int)then ck (0≤a∧a<(b.length:Int)) ((Jy N ((b[a.toNat]!).1) ((b[a.toNat]!).2.1) ((b[a.toNat]!).2.2)).bind fun d=>ck (R64 (c+d)) (ck (R64 (a+1)) ((JB N b e) (c+d) (a+1))))else some c
def OB(N:Nat)(a:List (List UInt8×Int×Int)):Option Int:=JB N a N 0 0
theorem WU(N l' r)(a:OB N l'=some r)(ro l'v)(hl':Rd Ad6 ro l'v l'):Does prog 155 #[l'v] ro [] (pV (vI r)):=by
 unfold OB at a
 refine Al follows func155 rfl 18 rfl _ fz1 (fun i=> ?_)
 refine AZ rfl<|AZ rfl<|Aa fun q j=>Ad<|rn 1 rfl<|rL (Rd.shp hl') rfl<|rz rfl<|Ai<|AH (fun tt ll nn=> ∃(e:Nat) (c:Int) (b:Int),(JB N l' e c b=some r)∧Is [(3,vI c),(6,l'v),(7,vI (l'.length:Int)),(8,vI b)] [] tt ll∧nn=e+1) (N+1) ?_ ?_
 ·exact⟨N,0,0,a,Ah rfl rfl,rfl⟩
 clear a;rintro t l _ ⟨e,c,b,a,⟨⟨T,rfl⟩,rfl⟩,rfl⟩
 rcases e with _|e
 ·exact absurd a (by simp [JB])
 rw [JB] at a
 refine AZ rfl<|Aa fun s k=>aD a rfl (fun m a=> ?_) (fun m a=> ?_)
 ·refine Ab<|k _ _ ?_
  refine Aa fun u n=>Ai<|Ad<|kC a fun d a=>rI (Rd.shp hl') d rfl<|rE (Aw hl') d 0 rfl<|rA rfl fun p=>ry [0] rfl<|Ag<|rm 2 [0] rfl<|kB a fun o f a=>rc _ (cF VM) (PN N ((l'[b.toNat]!).1) ((l'[b.toNat]!).2.1) ((l'[b.toNat]!).2.2) _ f)<|kC a fun g a=>rX g rfl<|rz rfl<|n _ _ ?_
  refine Ag<|kC a fun h a=>rX h rfl<|rz rfl<|fg _ (Sub.of (suC _ suN)) ?_
  exact⟨e+1,by omega,e,(c+o),(b+1),a,Ah rfl rfl,rfl⟩
 refine AI<|j _ _ ?_
 refine AZ rfl ?_
 cases a
 exact aR eV1
def JC(N:Nat)(b:List ((List UInt8)×(List (List UInt8×Int))×Int×Int×Int×Int))(c:List (List UInt8×Int×Int))(h:List (List UInt8)):Nat→Int→Option Int
  |0,_=>none
  |i+1,a=>if a<(c.length:Int)then ck (0≤a∧a<(c.length:Int)) ((KN N h a).bind fun d=>if(d:Int)≠0 then some d else ck ((R64 ((b.length:Int) - 1))) ((FI N ((c[a.toNat]!).2.1) 0 ((b.length:Int) - 1)).bind fun f=>if f=true then(JP N ((c[a.toNat]!).1) ((c[a.toNat]!).2.1) ((c[a.toNat]!).2.2)).bind fun e=>if e=true then ck (R64 (a+1)) ((JC N b c h i) (a+1))else some 7 else some 5))else(OB N c).bind fun g=>if g>32 then some 8 else some 0
def MT(N:Nat)(a:List ((List UInt8)×(List (List UInt8×Int))×Int×Int×Int×Int))(b:List (List UInt8×Int×Int)):Option Int:=if(b.length:Int)>16 then some 2 else(Ks N b).bind fun c=>JC N a b c N 0
theorem fZ(N headers l' r)(a:MT N headers l'=some r)(ro headersv)(hheaders:RdN Ad4 ro headersv headers)(l'v)(hl':Rd Ad6 ro l'v l'):Does prog 92 #[headersv,l'v] ro [] (pV (vI r)):=by
 unfold MT at a
 refine Al follows func92 rfl 43 rfl _ fz2 (fun C=> ?_)
 refine AZ rfl<|Aa fun U D=>Ad<|rn 1 rfl<|rL (Rd.shp hl') rfl<|rz rfl<|aD a rfl (fun E a=> ?_) (fun E a=> ?_)
 ·refine AZ rfl ?_
  cases a
  exact aR eV1
 refine Ab<|D _ _ ?_
 refine Ad<|rn 1 rfl<|kB a fun H F a=>gS (Ls:=[]) (cF na) (fun o w z_=>Wc N l' _ F z_.view l'v ((Aw hl') o w z_)) (fun I f G=> ?_)
 refine rz rfl<|Aa fun J h=>Ad<|rn 1 rfl<|rL (Rd.shp hl') rfl<|rz rfl<|Ai<|Bw _ (Sub.pick [f] [0] rfl)<|AH (fun tt ll nn=> ∃(c:Nat) (b:Int),(JC N headers l' H c b=some r)∧Is [(0,headersv),(1,l'v),(5,I),(14,l'v),(15,vI (l'.length:Int)),(16,vI b)] (List.flatten [f]) tt ll∧nn=c+1) (N+1) ?_ ?_
 ·exact⟨N,0,a,Ah rfl rfl,rfl⟩
 clear a;rintro t l _ ⟨c,b,a,⟨⟨T,rfl⟩,rfl⟩,rfl⟩
 rcases c with _|c
 ·exact absurd a (by simp [JC])
 rw [JC] at a
 refine AZ rfl<|Aa fun K i=>aD a rfl (fun j a=> ?_) (fun j a=> ?_)
 ·refine Ab<|i _ _ ?_
  refine Aa fun L m=>Ai<|Ad<|rn 1 rfl<|kC a fun g a=>rI (Rd.shp hl') g rfl<|rE (Aw hl') g 0 rfl<|rA rfl fun n=>ry [0] rfl<|Aa fun M p=>Ad<|rn 2 rfl<|kB a fun O q a=>gV _ (cF ce) (fun o w z_=>Th N H b _ q z_.view I ((Ax G (Ak (Ls:=[(ff n ((l'[b.toNat]!).1) ((l'[b.toNat]!).2.1) ((l'[b.toNat]!).2.2)),f]) (k:=1) rfl rfl)) o w z_))<|rz rfl<|AZ rfl<|aN a rfl (fun s a=> ?_) (fun s a=> ?_)
  ·refine AZ rfl ?_
   cases a
   exact aR eV1
  refine Ab<|p _ _ ?_
  refine Ai<|Ad<|rm 3 [0] rfl<|rL (RdN.shp hheaders) rfl<|kC a fun u a=>rX u rfl<|kB a fun P v a=>rc _ (cF Kz) (HV N ((l'[b.toNat]!).2.1) 0 ((headers.length:Int) - 1) _ v)<|rz rfl<|Bf _ rfl (fun d=> ?_) (fun d=> ?_)
  ·replace a:=ifn (Bool.eq_false_iff.1 (Da d)) a
   refine AZ rfl<|GQ [(4,vI 5)] rfl (fun T=> ?_)
   cases a
   exact aR eV1
  replace a:=ifp (Db d) a
  refine Ad<|rm 1 [0] rfl<|kB a fun Q x a=>rc _ (cF cd) (Rt N ((l'[b.toNat]!).1) ((l'[b.toNat]!).2.1) ((l'[b.toNat]!).2.2) _ x)<|rz rfl<|Bf _ rfl (fun e=> ?_) (fun e=> ?_)
  ·replace a:=ifn (Bool.eq_false_iff.1 (Da e)) a
   refine AZ rfl<|GQ [(4,vI 7)] rfl (fun T=> ?_)
   cases a
   exact aR eV1
  replace a:=ifp (Db e) a
  refine Ab<|m _ _ ?_
  refine Ag<|kC a fun y a=>rX y rfl<|rz rfl<|fg _ (Sub.pick [(ff n ((l'[b.toNat]!).1) ((l'[b.toNat]!).2.1) ((l'[b.toNat]!).2.2)),f] [1] rfl) ?_
  exact⟨c+1,by omega,c,(b+1),a,Ah rfl rfl,rfl⟩
 refine AI<|h _ _ ?_
 refine Aa fun R z=>Ad<|rn 1 rfl<|kB a fun S A a=>gV _ (cF cc) (fun o w z_=>WU N l' _ A z_.view l'v ((Aw hl') o w z_))<|rz rfl<|aD a rfl (fun B a=> ?_) (fun B a=> ?_)
 ·refine AZ rfl ?_
  cases a
  exact aR eV1
 refine Ab<|z _ _ ?_
 refine AZ rfl ?_
 cases a
 exact aR eV1
def IS(N:Nat)(c:Ao):Option (Int×Int):=(MT N c.2.1 c.2.2.1).bind fun a=>some (0,a)
theorem YD(N c r)(a:IS N c=some r)(ro)(cv:AD)(hc:Aa1 ro cv c):Does prog 42 #[vA (Ac c cv)] ro [] (pV (vT #[vI r.1,vI r.2])):=by
 unfold IS at a
 refine Al follows func42 rfl 11 rfl _ fz1 (fun b=> ?_)
 refine Ad<|rA rfl fun e=>rz rfl<|Ad<|rm 6 [0,0] rfl<|kB a fun f d a=>gV _ (cF qn) (fun o w z_=>fZ N c.2.1 c.2.2.1 _ d z_.view cv.1 (RdN.mono z_.ro_cell hc.1) cv.2.1 ((Aw hc.2.1) o w z_))<|rz rfl ?_
 cases a
 exact aR eV2
def Qh(_:Nat)(a:List UInt8)(_:Int):Option (List UInt8):=some a
theorem aV(N f_0 f_1 r)(b:Qh N f_0 f_1=some r):Gives prog 94 #[vA #[vS f_0,vI f_1]] (vS r):=by
 unfold Qh at b
 refine Av follows func94 rfl 5 rfl _ fz1 (fun a=> ?_)
 refine Ad<|rA rfl fun c=>rz rfl<|AY [0] rfl ?_
 cases b
 exact aR eE1
def Iq(N:Nat)(b:List (List UInt8×Int)):Nat→List (List UInt8)→Int→Option (List (List UInt8))
  |0,_,_=>none
  |e+1,c,a=>if a<(b.length:Int)then ck (0≤a∧a<(b.length:Int)) ((Qh N ((b[a.toNat]!).1) ((b[a.toNat]!).2)).bind fun d=>ck (0≤a∧a<(c.length:Int)) (ck (R64 (a+1)) ((Iq N b e) ((c).set (a.toNat) d) (a+1))))else some c
def Oq(N:Nat)(a:List (List UInt8×Int)):Option (List (List UInt8)):=ck (0≤(a.length:Int)∧(a.length:Int)≤8796093022208) (Iq N a N ((List.replicate ((a.length:Int)).toNat ([]))) 0)
theorem Ww(N l' r)(b:Oq N l'=some r)(ro l'v)(hl':Rd Ab2 ro l'v l'):Does prog 156 #[l'v,vF 94 #[] #[]] ro [] (p1 (fun s_=>s_) 9 Aa3 r):=by
 unfold Oq at b
 refine Al follows func156 rfl 26 rfl _ fz2 (fun s=> ?_)
 refine AZ rfl<|Ad<|rn 1 rfl<|rL (Rd.shp hl') rfl<|kC b fun u b=>cB 10<|SC (Ls:=[]) 9 Aa3 ([]) (l'.length:Int) rfl rfl rfl rfl rfl rfl rfl rfl rfl rfl 8796093022208 rfl u (fun _ _ _ _ _=>Iff.rfl) (fun v y z=> ?_)
 refine rz rfl<|Aa fun C w=>Ad<|rn 1 rfl<|rL (Rd.shp hl') rfl<|rz rfl<|Ai<|Bw _ (Sub.pick [y] [0] rfl)<|AH (fun tt ll nn=> ∃(h:Nat) (d:List (List UInt8)) (a:Int),(Iq N l' h d a=some r)∧ ∃(c:List Bl),Sl 9 Aa3 v d c∧Is [(1,vF 94 #[] #[]),(5,v),(11,l'v),(12,vI (l'.length:Int)),(13,vI a)] (List.flatten [c]) tt ll∧nn=h+1) (N+1) ?_ ?_
 ·exact⟨N,(List.replicate ((l'.length:Int)).toNat ([])),0,b,y,z,Ah rfl rfl,rfl⟩
 clear b;rintro t l _ ⟨h,d,a,b,c,e,⟨⟨T,rfl⟩,rfl⟩,rfl⟩
 rcases h with _|h
 ·exact absurd b (by simp [Iq])
 rw [Iq] at b
 refine AZ rfl<|Aa fun A i=>aD b rfl (fun j b=> ?_) (fun j b=> ?_)
 ·refine Ab<|i _ _ ?_
  refine Aa fun B k=>Ai<|Ad<|rn 1 rfl<|kC b fun f b=>rI (Rd.shp hl') f rfl<|rE (Aw hl') f 0 rfl<|rA rfl fun m=>ry [0] rfl<|Ag<|rm 4 [0] rfl<|kB b fun n o b=>rc _ (BF (caps:=[]) rfl ql rfl) (aV N ((l'[a.toNat]!).1) ((l'[a.toNat]!).2) _ o)<|kC b fun g b=>rI (Sl.shp e) g rfl<|Rb (Ls:=[(TO m ((l'[a.toNat]!).1) ((l'[a.toNat]!).2)),c]) 1 (En:=Aa3) (d[a.toNat]!) n (a.toNat) 0 rfl rfl rfl e (Dc g) rfl rfl rfl (IP rfl) rfl (fun p x=> ?_)
  refine Af<|k _ _ ?_
  refine Ag<|kC b fun q b=>rX q rfl<|rz rfl<|fg _ (Sub.pick [(TO m ((l'[a.toNat]!).1) ((l'[a.toNat]!).2)),p] [1] rfl) ?_
  exact⟨h+1,by omega,h,(d).set (a.toNat) n,(a+1),b,p,x,Ah rfl rfl,rfl⟩
 refine AI<|w _ _ ?_
 refine AZ rfl ?_
 cases b
 refine Bb (fun D=>Hw (v0:=v) e (EH (Sub.pick [c] [0] rfl)) rfl (EJ rfl))
def EB(N:Nat)(s:List UInt8):Option Bool:=(KJ N s).bind fun a=>if a=true then(Ld N s ([46]:List UInt8)).bind fun b=>some (!(b))else some false
theorem LM(N s r)(a:EB N s=some r):Gives prog 159 #[vS s] (vB r):=by
 unfold EB at a
 refine Av follows func159 rfl 10 rfl _ fz1 (fun d=> ?_)
 refine AZ rfl<|Aa fun h b=>Ag<|rn 1 rfl<|kB a fun g e a=>rc _ (cF Zn) (Re N s _ e)<|rn 1 rfl ?_
 rcases c:g with _|_
 ·replace a:=iB c a
  refine rz rfl<|b _ _ ?_
  cases a
  exact aR eE1
 replace a:=ifp c a
 refine rn 1 rfl<|r_y rfl<|kB a fun i f a=>rc _ (cF bS) (Ru N s ([46]:List UInt8) _ f)<|rz rfl<|b _ _ ?_
 cases a
 exact aR eE1
def HR(N:Nat)(w:Int):Option Int:=(Az N w 1 128).bind fun a=>(Aq N a 9).bind fun b=>some b
theorem Pj(N w r)(a:HR N w=some r):Gives prog 96 #[vI w] (vI r):=by
 unfold HR at a
 refine Av follows func96 rfl 6 rfl _ fz1 (fun b=> ?_)
 refine AZ rfl<|Ad<|rn 1 rfl<|kB a fun e c a=>rc _ (cF EV) (AP N w 1 128 _ c)<|kB a fun f d a=>rc _ (cF Bj) (Ay N e 9 _ d)<|rz rfl ?_
 cases a
 exact aR eE1
def NY(N:Nat)(_:List UInt8)(a:Int):Option Int:=(HR N a).bind fun b=>some b
theorem aU(N f_0 f_1 r)(a:NY N f_0 f_1=some r):Gives prog 95 #[vA #[vS f_0,vI f_1]] (vI r):=by
 unfold NY at a
 refine Av follows func95 rfl 6 rfl _ fz1 (fun b=> ?_)
 refine Ad<|rA rfl fun d=>rz rfl<|Ad<|rm 2 [0] rfl<|kB a fun e c a=>rc _ (cF Zm) (Pj N f_1 _ c)<|rz rfl ?_
 cases a
 exact aR eE1
def KG(N:Nat)(i:Int)(d:List UInt8)(e:Int)(a:List (List UInt8)):Option Int:=ck (0≤i∧i<(a.length:Int)) ((EB N (a[i.toNat]!)).bind fun f=>(Aq N f 4).bind fun g=>(AU N a i).bind fun h=>(NY N d e).bind fun b=>(AE N ([g,h,b])).bind fun c=>some c)
theorem Tx(N i x_0 x_1 b r)(c:KG N i x_0 x_1 b=some r)(ro)(l:Nat)(a)(e:Rd Aa3 ro a b)(f:Blk ro l [a])(m:Nat)(n:Blk ro m [vF 95 #[] #[]]):Does prog 158 #[vI i,vA #[vS x_0,vI x_1],vP l 0,vP m 0] ro [] (pV (vI r)):=by
 unfold KG at c
 refine Al follows func158 rfl 21 rfl _ fz4 (fun z=> ?_)
 refine Ad<|rA rfl fun G=>rz rfl<|Aa fun J A=>BE [(some 15,false),(some 19,false),(some 20,false)] (conG prog [(15,cV (AU N b i) fun j=>vI j),(20,fun _ _ v_ L_ U_=> ∀j,EB N (b[i.toNat]!)=some j→ ∀t,Aq N j 4=some t→ ∀u,AU N b i=some u→ ∀v,NY N x_0 x_1=some v→ ∀x,AE N ([t,u,v])=some x→(pV (vI x)) v_ L_ U_)]) [] (by decide+kernel) (fun K=>AQ)<|Hr a (vs:=[a]) (o:=0) rfl rfl (AS f) rfl<|rn 1 rfl<|kC c fun y c=>rI (Rd.shp e) y rfl<|rE (Aw e) y 0 rfl<|kB c fun H p c=>rc _ (cF Nz) (LM N (b[i.toNat]!) _ p)<|kB c fun B q c=>rc _ (cF Bj) (Ay N H 4 _ q)<|Hr a (vs:=[a]) (o:=0) rfl rfl (AS f) rfl<|rn 1 rfl<|kB c fun C d c=>rg _ (cF Od) (fun o w z_=>HQ N b i _ d z_.view a (z_.r e)) (Ha d)<|Hr (vF 95 #[] #[]) (vs:=[vF 95 #[] #[]]) (o:=0) rfl rfl (AS n) rfl<|rm 1 [0] rfl<|kB c fun s g c=>rc _ (BF (caps:=[]) rfl qk rfl) (aU N x_0 x_1 _ g) ?_
 refine Kq (Ls:=[(TO G x_0 x_1)]) 42 BI [B,C,s] [vI B,vI C,vI s] [vI 0,vI 0,vI 0] rfl rfl rfl rfl rfl rfl rfl (by kernel_rfl) (by kernel_rfl) rfl rfl rfl (fun D E F=> ?_)
 refine kB c fun I h c=>rg _ (cF ED) (fun o w z_=>BQ N ([B,C,s]) _ h z_.view D ((Ax F (Ak (Ls:=[(TO G x_0 x_1),E]) (k:=1) rfl rfl)) o w z_)) (fun _ _ v_ L_ U_=>⟨fun h_=>h_ _ p _ q _ d _ g _ h,fun h_=>by intro _ e_;cases q1 (e_.symm.trans p);intro _ e_;cases q1 (e_.symm.trans q);intro _ e_;cases q1 (e_.symm.trans d);intro _ e_;cases q1 (e_.symm.trans g);intro _ e_;cases q1 (e_.symm.trans h);exact h_⟩) ?_
 refine rz rfl<|A _ _ ?_
 cases c
 exact aR eV1
def Iv(N:Nat)(c:List (List UInt8×Int))(b:List (List UInt8)):Nat→Int→Option (Int×Int)
  |0,_=>none
  |e+1,a=>if a<(c.length:Int)then ck (0≤a∧a<(c.length:Int)) ((KG N a ((c[a.toNat]!).1) ((c[a.toNat]!).2) b).bind fun d=>if(d:Int)≠0 then some (a,d)else ck (R64 (a+1)) ((Iv N c b e) (a+1)))else some (0,0)
def Mg(N:Nat)(c:List (List UInt8×Int))(b:Int)(a:List (List UInt8)):Option (Int×Int):=if(c.length:Int)>b then some (0,2)else Iv N c a N 0
theorem WA(N l' most d r)(c:Mg N l' most d=some r)(ro l'v)(hl':Rd Ab2 ro l'v l')(a:Nat)(e)(i:Rd Aa3 ro e d)(g:Blk ro a [e])(b:Nat)(h:Blk ro b [vF 95 #[] #[]]):Does prog 157 #[l'v,vI most,vF 158 #[] #[vP a 0,vP b 0]] ro [] (pV (vT #[vI r.1,vI r.2])):=by
 unfold Mg at c
 refine Al follows func157 rfl 31 rfl _ fz3 (fun v=> ?_)
 refine AZ rfl<|Aa fun E x=>Ad<|rn 1 rfl<|rL (Rd.shp hl') rfl<|rz rfl<|aD c rfl (fun y c=> ?_) (fun y c=> ?_)
 ·refine AZ rfl ?_
  cases c
  exact aR eV2
 refine Ab<|x _ _ ?_
 refine Aa fun F z=>Ad<|rn 1 rfl<|rL (Rd.shp hl') rfl<|rz rfl<|Ai<|AH (fun tt ll nn=> ∃(k:Nat) (f:Int),(Iv N l' d k f=some r)∧Is [(2,vF 158 #[] #[vP a 0,vP b 0]),(15,l'v),(16,vI (l'.length:Int)),(17,vI f)] [] tt ll∧nn=k+1) (N+1) ?_ ?_
 ·exact⟨N,0,c,Ah rfl rfl,rfl⟩
 clear c;rintro t l _ ⟨k,f,c,⟨⟨T,rfl⟩,rfl⟩,rfl⟩
 rcases k with _|k
 ·exact absurd c (by simp [Iv])
 rw [Iv] at c
 refine AZ rfl<|Aa fun A m=>aD c rfl (fun n c=> ?_) (fun n c=> ?_)
 ·refine Ab<|m _ _ ?_
  refine Aa fun B p=>Ai<|Ad<|rn 1 rfl<|kC c fun j c=>rI (Rd.shp hl') j rfl<|rE (Aw hl') j 0 rfl<|rA rfl fun C=>ry [0] rfl<|Ad<|rm 3 [0] rfl<|kB c fun D q c=>gV _ (BF (caps:=[vP a 0,vP b 0]) rfl mX rfl) (fun o w z_=>Tx N f ((l'[f.toNat]!).1) ((l'[f.toNat]!).2) d _ q z_.view a e (z_.r i) (AS g o w z_) b (AS h o w z_))<|rz rfl<|AZ rfl<|aN c rfl (fun s c=> ?_) (fun s c=> ?_)
  ·refine AZ rfl ?_
   cases c
   exact aR eV2
  refine Ab<|p _ _ ?_
  refine Ag<|kC c fun u c=>rX u rfl<|rz rfl<|fg _ (Sub.of (suC _ suN)) ?_
  exact⟨k+1,by omega,k,(f+1),c,Ah rfl rfl,rfl⟩
 refine AI<|z _ _ ?_
 refine AZ rfl ?_
 cases c
 exact aR eV2
def Ol(N:Nat)(c:List (List UInt8×Int))(b:Int):Option (Int×Int):=(Oq N c).bind fun d=>(Mg N c b d).bind fun a=>some (a.1,a.2)
theorem Ws(N l' most r)(a:Ol N l' most=some r)(ro l'v)(hl':Rd Ab2 ro l'v l'):Does prog 93 #[l'v,vI most,vF 94 #[] #[],vF 95 #[] #[]] ro [] (pV (vT #[vI r.1,vI r.2])):=by
 unfold Ol at a
 refine Al follows func93 rfl 20 rfl _ fz4 (fun d=> ?_)
 refine Ad<|rA rfl fun b=>rz rfl<|Ad<|rn 2 rfl<|kB a fun j g a=>gS (Ls:=[(UR b (vF 95 #[] #[]))]) (cF mZ) (fun o w z_=>Ww N l' _ g z_.view l'v ((Aw hl') o w z_)) (fun e i h=> ?_)
 refine rA rfl fun f=>r_s (List.flatten [(RM f e),(UR b (vF 95 #[] #[])),i]) 0 _ _ _ _ _ (#[e]) rfl rfl rfl (Ga rfl (Sl.shp h)) (.ofS rfl rfl (Ae (Shp.one (Sl.shp h)) Bv)) rfl rfl<|Af<|Ad<|rn 2 rfl<|r_W (vF 158 #[] #[vP f 0,vP b 0]) rfl (IA rfl)<|kB a fun l c a=>gV _ (cF mY) (fun o w z_=>WA N l' most j _ c z_.view l'v ((Aw hl') o w z_) f e ((Ax h (Ak (Ls:=[(RM f e),(UR b (vF 95 #[] #[])),i]) (k:=2) rfl rfl)) o w z_) (Cw 0 rfl rfl o w z_) b (Cw 1 rfl rfl o w z_))<|rz rfl ?_
 cases a
 exact aR eV2
def Kk(N:Nat)(c:Ao):Option (Int×Int):=(Ol N c.2.2.2.1 16).bind fun a=>some (a.1,a.2)
theorem YB(N c r)(a:Kk N c=some r)(ro)(cv:AD)(hc:Aa1 ro cv c):Does prog 43 #[vA (Ac c cv)] ro [] (pV (vT #[vI r.1,vI r.2])):=by
 unfold Kk at a
 refine Al follows func43 rfl 10 rfl _ fz1 (fun b=> ?_)
 refine Ad<|rA rfl fun e=>rz rfl<|Ad<|rm 3 [0] rfl<|kB a fun f d a=>gV _ (cF qm) (fun o w z_=>Ws N c.2.2.2.1 16 _ d z_.view cv.2.2.1 ((Aw hc.2.2.1) o w z_))<|rz rfl ?_
 cases a
 exact aR eV2
def My(_:Nat)(a:List UInt8)(_:List (Int×Int))(_:List (Int×Int×Int))(_:List (Int×BitVec 128×Int×BitVec 128×Int))(_:Int):Option (List UInt8):=some a
theorem TD(N s_0 s_1 s_2 s_3 s_4 r)(b:My N s_0 s_1 s_2 s_3 s_4=some r)(ro:Ro)(s_1v:Value)(_hs_1:Rd Ae9 ro s_1v s_1)(s_2v:Value)(_hs_2:Rd Ac9 ro s_2v s_2)(s_3v:Value)(_hs_3:Rd Af0 ro s_3v s_3):Does prog 98 #[vA #[vS s_0,s_1v,s_2v,s_3v,vI s_4]] ro [] (pV (vS r)):=by
 unfold My at b
 refine Al follows func98 rfl 5 rfl _ fz1 (fun a=> ?_)
 refine Ad<|rA rfl fun c=>rz rfl<|AY [0] rfl ?_
 cases b
 exact aR eV1
def In(N:Nat)(b:List ((List UInt8)×(List (Int×Int))×(List (Int×Int×Int))×(List (Int×BitVec 128×Int×BitVec 128×Int))×Int)):Nat→List (List UInt8)→Int→Option (List (List UInt8))
  |0,_,_=>none
  |e+1,c,a=>if a<(b.length:Int)then ck (0≤a∧a<(b.length:Int)) ((My N (b[a.toNat]!.1) (b[a.toNat]!.2.1) (b[a.toNat]!.2.2.1) (b[a.toNat]!.2.2.2.1) (b[a.toNat]!.2.2.2.2)).bind fun d=>ck (0≤a∧a<(c.length:Int)) (ck (R64 (a+1)) ((In N b e) ((c).set (a.toNat) d) (a+1))))else some c
def On(N:Nat)(a:List ((List UInt8)×(List (Int×Int))×(List (Int×Int×Int))×(List (Int×BitVec 128×Int×BitVec 128×Int))×Int)):Option (List (List UInt8)):=ck (0≤(a.length:Int)∧(a.length:Int)≤8796093022208) (In N a N ((List.replicate ((a.length:Int)).toNat ([]))) 0)
theorem Wu(N l' r)(b:On N l'=some r)(ro l'v)(hl':RdN Ad8 ro l'v l'):Does prog 160 #[l'v,vF 98 #[] #[]] ro [] (p1 (fun s_=>s_) 9 Aa3 r):=by
 unfold On at b
 refine Al follows func160 rfl 26 rfl _ fz2 (fun B=> ?_)
 refine AZ rfl<|Ad<|rn 1 rfl<|rL (RdN.shp hl') rfl<|kC b fun C b=>cB 10<|SC (Ls:=[]) 9 Aa3 ([]) (l'.length:Int) rfl rfl rfl rfl rfl rfl rfl rfl rfl rfl 8796093022208 rfl C (fun _ _ _ _ _=>Iff.rfl) (fun D H I=> ?_)
 refine rz rfl<|Aa fun L F=>Ad<|rn 1 rfl<|rL (RdN.shp hl') rfl<|rz rfl<|Ai<|Bw _ (Sub.pick [H] [0] rfl)<|AH (fun tt ll nn=> ∃(p:Nat) (g:List (List UInt8)) (a:Int),(In N l' p g a=some r)∧ ∃(c:List Bl),Sl 9 Aa3 D g c∧Is [(1,vF 98 #[] #[]),(5,D),(11,l'v),(12,vI (l'.length:Int)),(13,vI a)] (List.flatten [c]) tt ll∧nn=p+1) (N+1) ?_ ?_
 ·exact⟨N,(List.replicate ((l'.length:Int)).toNat ([])),0,b,H,I,Ah rfl rfl,rfl⟩
 clear b;rintro t l _ ⟨p,g,a,b,c,h,⟨⟨T,rfl⟩,rfl⟩,rfl⟩
 rcases p with _|p
 ·exact absurd b (by simp [In])
 rw [In] at b
 refine AZ rfl<|Aa fun J s=>aD b rfl (fun u b=> ?_) (fun u b=> ?_)
 ·refine Ab<|s _ _ ?_
  refine Aa fun K v=>Ai<|Ad<|rn 1 rfl<|kC b fun i b=> ?_
  obtain⟨_,⟨d,e,f,j,k,m,rfl⟩,hat22⟩:=RdN.at (E:=Ad8) hl' (Dc i)
  refine rI (RdN.shp hl') i rfl<|NB (vA #[vS (l'[a.toNat]!.1),d,e,f,vI (l'[a.toNat]!.2.2.2.2)]) (vs:=[vS (l'[a.toNat]!.1),d,e,f,vI (l'[a.toNat]!.2.2.2.2)]) (a.toNat*5) 0 rfl rfl (fun o w z_=>At.mono z_.ro_cell hat22) rfl<|rA rfl fun q=>rn 1 rfl<|r_s (List.flatten [(Yn q (l'[a.toNat]!.1) d e f (l'[a.toNat]!.2.2.2.2)),c]) 0 _ _ _ _ _ (#[vS (l'[a.toNat]!.1),d,e,f,vI (l'[a.toNat]!.2.2.2.2)]) rfl rfl rfl rfl (.ofS rfl rfl (Ae rfl (Ae (Shp.one (Rd.shp j)) (Ae (Shp.one (Rd.shp k)) (Ae (Shp.one (Rd.shp m)) (Ae rfl Bv)))))) rfl rfl<|Af<|Ag<|rm 4 [0] rfl<|kB b fun x y b=>gV _ (BF (caps:=[]) rfl qi rfl) (fun o w z_=>TD N (l'[a.toNat]!.1) (l'[a.toNat]!.2.1) (l'[a.toNat]!.2.2.1) (l'[a.toNat]!.2.2.2.1) (l'[a.toNat]!.2.2.2.2) _ y z_.view d (z_.r j) e (z_.r k) f (z_.r m))<|kC b fun n b=>rI (Sl.shp h) n rfl<|Rb (Ls:=[(Yn q (l'[a.toNat]!.1) d e f (l'[a.toNat]!.2.2.2.2)),c]) 1 (En:=Aa3) (g[a.toNat]!) x (a.toNat) 0 rfl rfl rfl h (Dc n) rfl rfl rfl (IP rfl) rfl (fun z G=> ?_)
  refine Af<|v _ _ ?_
  refine Ag<|kC b fun A b=>rX A rfl<|rz rfl<|fg _ (Sub.pick [(Yn q (l'[a.toNat]!.1) d e f (l'[a.toNat]!.2.2.2.2)),z] [1] rfl) ?_
  exact⟨p+1,by omega,p,(g).set (a.toNat) x,(a+1),b,z,G,Ah rfl rfl,rfl⟩
 refine AI<|F _ _ ?_
 refine AZ rfl ?_
 cases b
 refine Bb (fun M=>Hw (v0:=D) h (EH (Sub.pick [c] [0] rfl)) rfl (EJ rfl))
def NE(N:Nat)(c:List (List UInt8×Int×Int)):Nat→Int→Int→Option (Int×Int×Bool)
  |0,_,_=>none
  |e+1,b,a=>if a<(c.length:Int)then ck (0≤a∧a<(c.length:Int)) ((Jy N ((c[a.toNat]!).1) ((c[a.toNat]!).2.1) ((c[a.toNat]!).2.2)).bind fun d=>if b<d then some (a,b,true)else ck (R64 (b - d)) (ck (R64 (a+1)) ((NE N c e) (b - d) (a+1))))else some (0,0,false)
def QX(N:Nat)(b:List (List UInt8×Int×Int))(a:Int):Option (Int×Int×Bool):=if a<0 then some (0,0,false)else NE N b N a 0
theorem df(N l' slot r)(a:QX N l' slot=some r)(ro l'v)(hl':Rd Ad6 ro l'v l'):Does prog 123 #[l'v,vI slot] ro [] (pV (vT #[vI r.1,vI r.2.1,vB r.2.2])):=by
 unfold QX at a
 refine Al follows func123 rfl 30 rfl _ fz2 (fun o=> ?_)
 refine AZ rfl<|Aa fun z p=>AZ rfl<|aD a rfl (fun q a=> ?_) (fun q a=> ?_)
 ·refine AZ rfl ?_
  cases a
  exact aR eV3
 refine Ab<|p _ _ ?_
 refine Aa fun A s=>Ad<|rn 1 rfl<|rL (Rd.shp hl') rfl<|rz rfl<|Ai<|AH (fun tt ll nn=> ∃(e:Nat) (b:Int) (c:Int),(NE N l' e b c=some r)∧Is [(1,vI b),(12,l'v),(13,vI (l'.length:Int)),(14,vI c)] [] tt ll∧nn=e+1) (N+1) ?_ ?_
 ·exact⟨N,slot,0,a,Ah rfl rfl,rfl⟩
 clear a;rintro t l _ ⟨e,b,c,a,⟨⟨T,rfl⟩,rfl⟩,rfl⟩
 rcases e with _|e
 ·exact absurd a (by simp [NE])
 rw [NE] at a
 refine AZ rfl<|Aa fun v f=>aD a rfl (fun g a=> ?_) (fun g a=> ?_)
 ·refine Ab<|f _ _ ?_
  refine Aa fun w h=>Ai<|Ad<|rn 1 rfl<|kC a fun d a=>rI (Rd.shp hl') d rfl<|rE (Aw hl') d 0 rfl<|rA rfl fun x=>ry [0] rfl<|Ad<|rm 1 [0] rfl<|kB a fun u i a=>rc _ (cF VM) (PN N ((l'[c.toNat]!).1) ((l'[c.toNat]!).2.1) ((l'[c.toNat]!).2.2) _ i)<|rz rfl<|Aa fun y j=>AZ rfl<|aD a rfl (fun k a=> ?_) (fun k a=> ?_)
  ·refine AZ rfl ?_
   cases a
   exact aR eV3
  refine Ab<|j _ _ ?_
  refine Ag<|rn 2 rfl<|kC a fun m a=>rX m rfl<|rz rfl<|h _ _ ?_
  refine Ag<|kC a fun n a=>rX n rfl<|rz rfl<|fg _ (Sub.of (suC _ suN)) ?_
  exact⟨e+1,by omega,e,(b - u),(c+1),a,Ah rfl rfl,rfl⟩
 refine AI<|s _ _ ?_
 refine AZ rfl ?_
 cases a
 exact aR eV3
def OZ(N:Nat)(a:List (List UInt8×Int×Int))(i:Int):Option (Int×Bool):=ck (0≤i∧i≤(a.length:Int)) ((OB N (((a).take (i.toNat)).drop 0)).bind fun b=>some (b,true))
def OC(N:Nat)(a:List (List UInt8×Int×Int))(i:Int):Option (Int×Bool):=ck ((R64 ((a.length:Int) - 1))) ((FI N i 0 ((a.length:Int) - 1)).bind fun c=>if c=true then ck (0≤i∧i<(a.length:Int)) ((Jy N ((a[i.toNat]!).1) ((a[i.toNat]!).2.1) ((a[i.toNat]!).2.2)).bind fun b=>if b=0 then some (0,false)else OZ N a i)else some (0,false))
theorem ga(N l' i r)(a:OC N l' i=some r)(ro l'v)(hl':Rd Ad6 ro l'v l'):Does prog 124 #[l'v,vI i] ro [] (pV (vT #[vI r.1,vB r.2])):=by
 unfold OC at a
 refine Al follows func124 rfl 24 rfl _ fz2 (fun h=> ?_)
 refine AZ rfl<|Cb (fun tt ll=>(OZ N l' i  =some r)∧Is [(0,l'v),(1,vI i)] [] tt ll) ?_ ?_
 ·refine Aa fun q d=>Ag<|rn 2 rfl<|rL (Rd.shp hl') rfl<|kC a fun j a=>rX j rfl<|kB a fun n k a=>rc _ (cF Kz) (HV N i 0 ((l'.length:Int) - 1) _ k)<|rn 2 rfl ?_
  rcases b:(!(n))with _|_
  ·replace a:=ifp (Db b) a
   refine rn 2 rfl<|r_y rfl<|kC a fun c a=>rI (Rd.shp hl') c rfl<|r_y rfl<|rE (Aw hl') c 0 rfl<|r_y rfl<|kB a fun p e a=>rc _ (cF VM) (PN N ((l'[i.toNat]!).1) ((l'[i.toNat]!).2.1) ((l'[i.toNat]!).2.2) _ e)<|rz rfl<|d _ _ ?_
   refine aE a rfl (fun f a=> ?_) (fun f a=> ?_)
   ·refine AZ rfl ?_
    cases a
    exact aR eV2
   refine Ab<|fg _ (Sub.of suN) ?_
   exact⟨a,Ah rfl rfl⟩
  replace a:=ifn (Bool.eq_false_iff.1 (Da b)) a
  refine rz rfl<|d _ _ ?_
  refine MP rfl ?_
  refine AZ rfl ?_
  cases a
  exact aR eV2
 clear a;rintro t l ⟨a,⟨T,rfl⟩,rfl⟩
 unfold OZ at a
 refine Ad<|rn 2 rfl<|kC a fun g a=>r_W (FG l'v 0 (i.toNat) 3) rfl (Ef (Iz rfl rfl rfl rfl (Rd.shp hl') g))<|kB a fun s m a=>gV _ (cF cc) (fun o w z_=>WU N (((l').take (i.toNat)).drop 0) _ m z_.view (FG l'v 0 (i.toNat) 3) ((Pc (Aw hl') (Nat.zero_le _) (GR g.2)) o w z_))<|rz rfl ?_
 cases a
 exact aR eV2
def IZ(m:Ao)(a:Int)(b:Int×Bool):Option (Int×Int×Bool):=ck (0≤a∧a<(m.2.2.1.length:Int)) (some (b.1,((m.2.2.1)[a.toNat]!).2.2,true))
def FY(N:Nat)(m:Ao)(a:Int):Option (Int×Int×Bool):=(OC N m.2.2.1 a).bind fun b=>if b.2=true then ck (0≤a∧a<(m.2.2.1.length:Int)) (if(((m.2.2.1)[a.toNat]!).2.2:Int)=0 then some (0,0,false)else IZ m a b)else some (0,0,false)
theorem Nk(N m inst r)(a:FY N m inst=some r)(ro)(mv:AD)(hm:Aa1 ro mv m):Does prog 64 #[vA (Ac m mv),vI inst] ro [] (pV (vT #[vI r.1,vI r.2.1,vB r.2.2])):=by
 unfold FY at a
 refine Al follows func64 rfl 34 rfl _ fz2 (fun g=> ?_)
 refine Ad<|rA rfl fun k=>rz rfl<|Ad<|rm 3 [0] rfl<|kB a fun h i a=>gV _ (cF nv) (fun o w z_=>ga N m.2.2.1 inst _ i z_.view mv.2.1 ((Aw hm.2.1) o w z_))<|rz rfl<|Cb (fun tt ll=>(IZ m inst h  =some r)∧Is [(1,vI inst),(2,vP k 0),(7,vI h.1)] [(k,35,(Ac m mv))] tt ll) ?_ ?_
 ·refine Aa fun n d=>Ag<|rn 3 rfl ?_
  rcases e:(!(h.2))with _|_
  ·replace a:=ifp (Db e) a
   refine rn 1 rfl<|r_y rfl<|rm 2 [0] rfl<|r_y rfl<|kC a fun b a=>rI (Rd.shp hm.2.1) b rfl<|r_y rfl<|rF (Rd.shp hm.2.1) (Be b) rfl<|r_y rfl<|rE (Aw hm.2.1) b 2 rfl<|rz rfl<|d _ _ ?_
   refine aE a rfl (fun f a=> ?_) (fun f a=> ?_)
   ·refine AZ rfl ?_
    cases a
    exact aR eV3
   refine Ab<|fg _ (Sub.of (suK _ suN)) ?_
   exact⟨a,Ah rfl rfl⟩
  replace a:=ifn (Bool.eq_false_iff.1 (Da e)) a
  refine rz rfl<|d _ _ ?_
  refine MP rfl ?_
  refine AZ rfl ?_
  cases a
  exact aR eV3
 clear a;rintro t l ⟨a,⟨T,rfl⟩,rfl⟩
 unfold IZ at a
 refine Aa fun p j=>IE [] (by decide+kernel) (fun q=>AQ)<|rm 4 [0] rfl<|kC a fun c a=>rI (Rd.shp hm.2.1) c rfl<|rF (Rd.shp hm.2.1) (Be c) rfl<|rE (Aw hm.2.1) c 2 rfl<|rz rfl<|j _ _ ?_
 cases a
 exact aR eV3
def LP(N:Nat)(c:Ao)(_:Int)(a:Int)(b:Int):Option Int:=if a=0 then(QX N c.2.2.1 b).bind fun d=>if d.2.2=true then ck (0≤d.1∧d.1<(c.2.2.1.length:Int)) ((Aq N ((((c.2.2.1)[(d.1).toNat]!).2.2:Int)==0) 5).bind fun f=>some f)else(Aq N false 5).bind fun j=>some j else if a=1 then(FY N c b).bind fun h=>(Aq N h.2.2 5).bind fun e=>some e else if a=2 then(Az N b 1 64).bind fun i=>(Aq N i 7).bind fun g=>some g else some 10
theorem dI(N c x x_0 x_1 r)(a:LP N c x x_0 x_1=some r)(ro)(cv:AD)(hc:Aa1 ro cv c):Does prog 164 #[vA (Ac c cv),vI x,vA #[vI x_0,vI x_1]] ro [] (pV (vI r)):=by
 unfold LP at a
 refine Al follows func164 rfl 58 rfl _ fz3 (fun p=> ?_)
 refine Ad<|rA rfl fun D=>rA rfl fun E=>rz rfl<|Aa fun F q=>AY [0] rfl<|Ai<|AZ rfl<|aE a rfl (fun s a=> ?_) (fun s a=> ?_)
 ·refine Ad<|rm 5 [1,0] rfl<|kB a fun z f a=>gV _ (cF VP) (fun o w z_=>df N c.2.2.1 x_1 _ f z_.view cv.2.1 ((Aw hc.2.1) o w z_))<|rz rfl<|Aa fun A d=>Ag<|rn 2 rfl ?_
  rcases e:z.2.2 with _|_
  ·replace a:=iB e a
   refine rn 9 rfl<|kB a fun t g a=>rc _ (cF Bj) (Ay N false 5 _ g)<|rz rfl<|d _ _ ?_
   refine GQ [(6,vI t)] rfl (fun T=> ?_)
   cases a
   exact aR eV1
  replace a:=ifp e a
  refine rn 2 rfl<|r_y rfl<|rm 2 [1] rfl<|r_y rfl<|kC a fun b a=>rI (Rd.shp hc.2.1) b rfl<|r_y rfl<|rF (Rd.shp hc.2.1) (Be b) rfl<|r_y rfl<|rE (Aw hc.2.1) b 2 rfl<|rn 2 rfl<|kB a fun u h a=>rc _ (cF Bj) (Ay N ((((c.2.2.1)[(z.1).toNat]!).2.2:Int)==0) 5 _ h)<|rz rfl<|d _ _ ?_
  refine GQ [(6,vI u)] rfl (fun T=> ?_)
  cases a
  exact aR eV1
 refine AZ rfl<|aE a rfl (fun i a=> ?_) (fun i a=> ?_)
 ·refine Ad<|rm 4 [1,0] rfl<|kB a fun v j a=>gV _ (cF Zr) (fun o w z_=>Nk N c x_1 _ j z_.view cv (Aa1.mono z_.ro_cell hc))<|rz rfl<|Ad<|rn 1 rfl<|kB a fun B k a=>rc _ (cF Bj) (Ay N v.2.2 5 _ k)<|rz rfl ?_
  cases a
  exact aR eV1
 refine AZ rfl<|aE a rfl (fun l a=> ?_) (fun l a=> ?_)
 ·refine Ad<|rm 2 [0] rfl<|kB a fun y m a=>rc _ (cF EV) (AP N x_1 1 64 _ m)<|kB a fun C n a=>rc _ (cF Bj) (Ay N y 7 _ n)<|rz rfl ?_
  cases a
  exact aR eV1
 refine Ab<|q _ _ ?_
 refine AZ rfl ?_
 cases a
 exact aR eV1
def Kh(N:Nat)(c:List (Int×Int))(b:Ao):Nat→Int→Option (Int×Int)
  |0,_=>none
  |e+1,a=>if a<(c.length:Int)then ck (0≤a∧a<(c.length:Int)) ((LP N b a ((c[a.toNat]!).1) ((c[a.toNat]!).2)).bind fun d=>if(d:Int)≠0 then some (a,d)else ck (R64 (a+1)) ((Kh N c b e) (a+1)))else some (0,0)
def NX(N:Nat)(c:List (Int×Int))(b:Int)(a:Ao):Option (Int×Int):=if(c.length:Int)>b then some (0,2)else Kh N c a N 0
theorem aS(N l' most a r)(c:NX N l' most a=some r)(ro l'v)(hl':Rd Ae9 ro l'v l')(b:AD)(e:Aa1 ro b a):Does prog 163 #[l'v,vI most,vF 164 #[vA (Ac a b)] #[]] ro [] (pV (vT #[vI r.1,vI r.2])):=by
 unfold NX at c
 refine Al follows func163 rfl 31 rfl _ fz3 (fun p=> ?_)
 refine AZ rfl<|Aa fun A q=>Ad<|rn 1 rfl<|rL (Rd.shp hl') rfl<|rz rfl<|aD c rfl (fun s c=> ?_) (fun s c=> ?_)
 ·refine AZ rfl ?_
  cases c
  exact aR eV2
 refine Ab<|q _ _ ?_
 refine Aa fun B u=>Ad<|rn 1 rfl<|rL (Rd.shp hl') rfl<|rz rfl<|Ai<|AH (fun tt ll nn=> ∃(g:Nat) (d:Int),(Kh N l' a g d=some r)∧Is [(2,vF 164 #[vA (Ac a b)] #[]),(15,l'v),(16,vI (l'.length:Int)),(17,vI d)] [] tt ll∧nn=g+1) (N+1) ?_ ?_
 ·exact⟨N,0,c,Ah rfl rfl,rfl⟩
 clear c;rintro t l _ ⟨g,d,c,⟨⟨T,rfl⟩,rfl⟩,rfl⟩
 rcases g with _|g
 ·exact absurd c (by simp [Kh])
 rw [Kh] at c
 refine AZ rfl<|Aa fun v h=>aD c rfl (fun i c=> ?_) (fun i c=> ?_)
 ·refine Ab<|h _ _ ?_
  refine Aa fun x j=>Ai<|Ad<|rn 1 rfl<|kC c fun f c=>rI (Rd.shp hl') f rfl<|rE (Aw hl') f 0 rfl<|rA rfl fun y=>ry [0] rfl<|Ad<|rm 3 [0] rfl<|kB c fun z k c=>gV _ (FZ (bd:=[vA (Ac a b)]) (caps:=[]) rfl mS rfl) (fun o w z_=>dI N a d ((l'[d.toNat]!).1) ((l'[d.toNat]!).2) _ k z_.view b (Aa1.mono z_.ro_cell e))<|rz rfl<|AZ rfl<|aN c rfl (fun m c=> ?_) (fun m c=> ?_)
  ·refine AZ rfl ?_
   cases c
   exact aR eV2
  refine Ab<|j _ _ ?_
  refine Ag<|kC c fun n c=>rX n rfl<|rz rfl<|fg _ (Sub.of (suC _ suN)) ?_
  exact⟨g+1,by omega,g,(d+1),c,Ah rfl rfl,rfl⟩
 refine AI<|u _ _ ?_
 refine AZ rfl ?_
 cases c
 exact aR eV2
def Qx(_:Nat)(s:List UInt8):Option (List UInt8):=if(s.length:Int)=0 then some ([])else ck (0≤(s.length:Int)∧(s.length:Int)≤140737488355328) (ck (0≤(0:Int)∧(0:Int)<((((s).take ((List.replicate ((s.length:Int)).toNat (0:UInt8))).length++((List.replicate ((s.length:Int)).toNat (0:UInt8))).drop (s).length)).length:Int)) (ck ((((s).take ((List.replicate ((s.length:Int)).toNat (0:UInt8))).length++((List.replicate ((s.length:Int)).toNat (0:UInt8))).drop (s).length)).length≤140737488355328) (some (((s).take ((List.replicate ((s.length:Int)).toNat (0:UInt8))).length++((List.replicate ((s.length:Int)).toNat (0:UInt8))).drop (s).length)))))
theorem gH(N s r)(b:Qx N s=some r):Gives prog 256 #[vS s] (vS r):=by
 unfold Qx at b
 refine Av follows func256 rfl 18 rfl _ fz1 (fun f=> ?_)
 refine AZ rfl<|Aa fun m g=>Ad<|rn 1 rfl<|r_W (vI (s.length:Int)) rfl (MO rfl rfl rfl)<|rz rfl<|aE b rfl (fun h b=> ?_) (fun h b=> ?_)
 ·refine AZ rfl ?_
  cases b
  exact aR eE1
 refine Ab<|g _ _ ?_
 refine Ad<|rn 1 rfl<|r_W (vI (s.length:Int)) rfl (MO rfl rfl rfl)<|kC b fun i b=>cB 9<|SC (Ls:=[]) 5 encY (0:UInt8) (s.length:Int) rfl rfl rfl rfl rfl rfl rfl rfl rfl rfl 140737488355328 rfl i (fun _ _ _ _ _=>Iff.rfl) (fun k l j=> ?_)
 refine rz rfl<|Ad<|rn 2 rfl<|cA 12 (p:=(pUp (fun v_ U_=>v_= .int .i64 ((min (s).length ((List.replicate ((s.length:Int)).toNat (0:UInt8))).length:Nat):Int)∧Sl 5 encY k ((s).take ((List.replicate ((s.length:Int)).toNat (0:UInt8))).length++((List.replicate ((s.length:Int)).toNat (0:UInt8))).drop (s).length) U_∧U_.map (·.1)=l.map (·.1))))<|sJ (Lo:=True) (Ls:=[l]) 0 s rfl rfl rfl rfl rfl rfl j rfl rfl rfl (fun _ _ _ _ _=>Iff.rfl) (fun d c=> ?_)
 refine Af<|Ad<|rn 1 rfl<|kC b fun a b=>rI (Sl.shp c) a rfl<|rn 1 rfl<|rL (Sl.shp c) rfl<|kC b fun e b=>cA 17 (p:=(pUp (fun v_ U_=>v_= .string ⟨(((s).take ((List.replicate ((s.length:Int)).toNat (0:UInt8))).length++((List.replicate ((s.length:Int)).toNat (0:UInt8))).drop (s).length)).toArray⟩∧U_=Oc d)))<|jg (Ls:=[d]) 0 (xs:=((s).take ((List.replicate ((s.length:Int)).toNat (0:UInt8))).length++((List.replicate ((s.length:Int)).toNat (0:UInt8))).drop (s).length)) rfl rfl rfl rfl rfl rfl (Sl.strict c (Be a)) (sy k (Sl.strict c (Be a)) (Be a)) rfl (by kernel_rfl) rfl e (fun _ _ _ _ _=>Iff.rfl)<|CZ (Ls:=[Oc d]) (Ls':=[]) [] rfl rfl ?_
 refine rz rfl ?_
 cases b
 exact aR eE1
def MU(N:Nat)(s:List UInt8):Option (List UInt8):=(Qx N s).bind fun a=>some a
theorem WV(N s r)(a:MU N s=some r):Gives prog 249 #[vS s] (vS r):=by
 unfold MU at a
 refine Av follows func249 rfl 5 rfl _ fz1 (fun b=> ?_)
 refine AZ rfl<|Ad<|rn 1 rfl<|kB a fun d c a=>rc _ (cF lu) (gH N s _ c)<|rz rfl ?_
 cases a
 exact aR eE1
def DB(_:Nat)(s:List (List UInt8×Int)):Option (List (List UInt8×Int)):=ck ((([]:List (List UInt8×Int))).length+(s).length≤5864062014805) (some (([]:List (List UInt8×Int))++s))
theorem KU(N s r)(a:DB N s=some r)(ro sv)(hs:Rd Ab2 ro sv s):Does prog 250 #[sv] ro [] (p1 (fun s_=>s_) 77 Ab2 r):=by
 unfold DB at a
 refine Al follows func250 rfl 8 rfl _ fz1 (fun d=> ?_)
 refine AZ rfl<|Aa fun n e=>Aa fun o c=>Ag<|rn 1 rfl ?_
 rcases po (Rd.shp hs)with⟨f,g⟩|hne6
 ·obtain rfl:=f;obtain rfl:=List.eq_nil_of_length_eq_zero g
  replace a:(some ([]))=some r:=(by first|exact a|(simp at a ⊢;exact a))
  refine rz rfl<|c _ _ ?_
  refine MP rfl ?_
  refine AZ rfl ?_
  cases a
  refine Bb (fun l=>Hw (v0:=nS) Sl.nil (Sub.nil _) rfl (EJ rfl))
 refine r_W (.bool false) rfl (gO rfl rfl rfl (Rd.shp hs) hne6)<|Af<|c _ _ ?_
 refine BZ rfl ?_
 refine Ab<|e _ _ ?_
 refine Ad<|gB (Ls:=[]) 77 Ab2 ([]:List (List UInt8×Int)) (fun p m h=> ?_)
 refine rn 1 rfl<|kC a fun b a=>cC 7<|Li (cs0:=[]) (Ls:=[m]) 0 (En:=Ab2) rfl rfl rfl rfl rfl h rfl (Aw hs) rfl rfl rfl rfl rfl (LE b rfl) (LD b rfl) rfl (fun i j k=> ?_)
 refine rz rfl ?_
 cases a
 refine Bb (fun l=>Hw (v0:=i) k (EH (Sub.pick [j] [0] rfl)) rfl (EJ rfl))
def Hh(N:Nat)(e:Int)(f:Int)(c:Int)(d:Int)(i:List UInt8)(j:List (List UInt8×Int)):Nat→Int→List (List UInt8×Int)→Option ((List UInt8)×(List (List UInt8×Int))×Int×Int×Int×Int)
  |0,_,_=>none
  |g+1,a,b=>if a<(j.length:Int)then ck (0≤a∧a<(b.length:Int)) ((MU N ((b[a.toNat]!).1)).bind fun h=>ck (0≤a∧a<(b.length:Int)) (ck (R64 (a+1)) ((Hh N e f c d i j g) (a+1) ((b).set (a.toNat) (h,(b[a.toNat]!).2)))))else some (i,b,e,f,c,d)
def Lc(N:Nat)(c:List UInt8)(f:List (List UInt8×Int))(e:Int)(g:Int)(a:Int)(b:Int):Option ((List UInt8)×(List (List UInt8×Int))×Int×Int×Int×Int):=(MU N c).bind fun h=>(DB N f).bind fun d=>Hh N e g a b h d N 0 d
theorem XP(N h_0 h_1 h_2 h_3 h_4 h_5 r)(c:Lc N h_0 h_1 h_2 h_3 h_4 h_5=some r)(ro h_1v)(hh_1:Rd Ab2 ro h_1v h_1):Does prog 237 #[vA #[vS h_0,h_1v,vI h_2,vI h_3,vI h_4,vI h_5]] ro [] (p1 (fun s_=>vA #[vS r.1,s_,vI r.2.2.1,vI r.2.2.2.1,vI r.2.2.2.2.1,vI r.2.2.2.2.2]) 77 Ab2 r.2.1):=by
 unfold Lc at c
 refine Al follows func237 rfl 32 rfl _ fz1 (fun C=> ?_)
 refine Ad<|rA rfl fun m=>rA rfl fun n=>Af<|Ad<|rm 2 [1] rfl<|kB c fun g D c=>rc _ (cF bN) (WV N h_0 _ D)<|ry [1] rfl<|Ad<|rm 2 [1] rfl<|kB c fun E F c=>gS (Ls:=[(KC n (Value.string (⟨#[]⟩)) nS 0 0 0 0),(FX m g h_1v h_2 h_3 h_4 h_5)]) (cF ly) (fun o w z_=>KU N h_1 _ F z_.view h_1v (z_.r hh_1)) (fun a q p=> ?_)
 refine rn 1 rfl<|r_s (List.flatten [(KC n (Value.string (⟨#[]⟩)) nS 0 0 0 0),(FX m g a h_2 h_3 h_4 h_5),q]) 1 _ _ _ _ _ (#[vS g,a,vI h_2,vI h_3,vI h_4,vI h_5]) rfl rfl rfl (Ga rfl (Sl.shp p)) (.ofS rfl rfl (Ae (Shp.one (Sl.shp p)) Bv)) rfl rfl<|Af<|Aa fun I s=>Ad<|rm 2 [1] rfl<|rL (Sl.shp p) rfl<|rz rfl<|Ai ?_
 refine Bw _ (Sub.pick [(KC n (Value.string (⟨#[]⟩)) nS 0 0 0 0),(FX m g a h_2 h_3 h_4 h_5),q] [0,1,2] rfl)<|AH (fun tt ll nn=> ∃(h:Nat) (e:Int) (f:List (List UInt8×Int)),(Hh N h_2 h_3 h_4 h_5 g E h e f=some r)∧ ∃(d:List Bl),Sl 77 Ab2 a f d∧Is [(1,vP m 0),(2,vP n 0),(14,vI (E.length:Int)),(15,vI e)] (List.flatten [(KC n (Value.string (⟨#[]⟩)) nS 0 0 0 0),(FX m g a h_2 h_3 h_4 h_5),d]) tt ll∧nn=h+1) (N+1) ?_ ?_
 ·exact⟨N,0,E,c,q,p,Ah rfl rfl,rfl⟩
 clear c;rintro t l _ ⟨h,e,f,c,d,b,⟨⟨T,rfl⟩,rfl⟩,rfl⟩
 rcases h with _|h
 ·exact absurd c (by simp [Hh])
 rw [Hh] at c
 refine AZ rfl<|Aa fun J u=>aD c rfl (fun v c=> ?_) (fun v c=> ?_)
 ·refine Ab<|u _ _ ?_
  refine Aa fun K x=>Ai<|AZ rfl<|IE [] (by decide+kernel) (fun H=>AQ)<|rm 6 [1,1] rfl<|kC c fun i c=>rI (Sl.shp b) i rfl<|rF (Sl.shp b) (Be i) rfl<|rE (Ax b (Ak (Ls:=[(KC n (Value.string (⟨#[]⟩)) nS 0 0 0 0),(FX m g a h_2 h_3 h_4 h_5),d]) (k:=2) rfl rfl)) i 0 rfl<|kB c fun y z c=>rc _ (cF bN) (WV N ((f[e.toNat]!).1) _ z)<|kC c fun j c=>rI (Sl.shp b) j rfl<|rF (Sl.shp b) (Be j) rfl<|Rb (Ls:=[(KC n (Value.string (⟨#[]⟩)) nS 0 0 0 0),(FX m g a h_2 h_3 h_4 h_5),d]) 2 (En:=Ab2) (f[e.toNat]!) (y,(f[e.toNat]!).2) (e.toNat) 0 rfl rfl rfl b (Dc j) rfl rfl rfl (IP rfl) rfl (fun A G=> ?_)
  refine Af<|x _ _ ?_
  refine Ag<|kC c fun B c=>rX B rfl<|rz rfl<|fg _ (Sub.pick [(KC n (Value.string (⟨#[]⟩)) nS 0 0 0 0),(FX m g a h_2 h_3 h_4 h_5),A] [0,1,2] rfl) ?_
  exact⟨h+1,by omega,h,(e+1),(f).set (e.toNat) (y,(f[e.toNat]!).2),c,A,G,Ah rfl rfl,rfl⟩
 refine AI<|s _ _ ?_
 refine Ad<|rm 1 [1] rfl<|r_s (List.flatten [(FX n g a h_2 h_3 h_4 h_5),(FX m g a h_2 h_3 h_4 h_5),d]) 0 _ _ _ _ _ (#[vS g,a,vI h_2,vI h_3,vI h_4,vI h_5]) rfl rfl rfl rfl (.ofS rfl rfl (Ae rfl (Ae (Shp.one (Sl.shp b)) (Ae rfl (Ae rfl (Ae rfl (Ae rfl Bv))))))) rfl rfl<|Af ?_
 cases c
 refine Bb (fun H=>Hw (v0:=vA #[vS g,a,vI h_2,vI h_3,vI h_4,vI h_5]) b (EH (Sub.pick [(FX n g a h_2 h_3 h_4 h_5),(FX m g a h_2 h_3 h_4 h_5),d] [2] rfl)) rfl (EJ (Bh H 0 rfl rfl rfl)))
def NF(N:Nat)(a:List ((List UInt8)×(List (List UInt8×Int))×Int×Int×Int×Int))(d:List (List UInt8×Int×Int))(b:Int×Int×Bool):Option ((List UInt8)×(List (List UInt8×Int))×Int×Int×Int×Int×Bool):=ck (0≤b.1∧b.1<(d.length:Int)) (ck (0≤(d[(b.1).toNat]!).2.1∧(d[(b.1).toNat]!).2.1<(a.length:Int)) ((Lc N (a[((d[(b.1).toNat]!).2.1).toNat]!.1) (a[((d[(b.1).toNat]!).2.1).toNat]!.2.1) (a[((d[(b.1).toNat]!).2.1).toNat]!.2.2.1) (a[((d[(b.1).toNat]!).2.1).toNat]!.2.2.2.1) (a[((d[(b.1).toNat]!).2.1).toNat]!.2.2.2.2.1) (a[((d[(b.1).toNat]!).2.1).toNat]!.2.2.2.2.2)).bind fun c=>some (c.1,c.2.1,c.2.2.1,c.2.2.2.1,c.2.2.2.2.1,c.2.2.2.2.2,true)))
def Na(N:Nat)(a:List ((List UInt8)×(List (List UInt8×Int))×Int×Int×Int×Int))(c:List (List UInt8×Int×Int))(d:Int):Option ((List UInt8)×(List (List UInt8×Int))×Int×Int×Int×Int×Bool):=(QX N c d).bind fun b=>if b.2.2=true then ck (0≤b.1∧b.1<(c.length:Int)) (ck ((R64 ((a.length:Int) - 1))) ((FI N ((c[(b.1).toNat]!).2.1) 0 ((a.length:Int) - 1)).bind fun e=>if e=true then NF N a c b  else some ([],[],0,0,0,0,false)))else some ([],[],0,0,0,0,false)
theorem dh(N headers l' slot r)(b:Na N headers l' slot=some r)(ro headersv)(hheaders:RdN Ad4 ro headersv headers)(l'v)(hl':Rd Ad6 ro l'v l'):Does prog 198 #[headersv,l'v,vI slot] ro [] (p1 (fun s_=>vT #[vA #[vS r.1,s_,vI r.2.2.1,vI r.2.2.2.1,vI r.2.2.2.2.1,vI r.2.2.2.2.2.1],vB r.2.2.2.2.2.2]) 77 Ab2 r.2.1):=by
 unfold Na at b
 refine Al follows func198 rfl 42 rfl _ fz3 (fun x=> ?_)
 refine Ad<|rA rfl fun f=>rz rfl<|Ad<|rn 2 rfl<|kB b fun c y b=>gV _ (cF VP) (fun o w z_=>df N l' slot _ y z_.view l'v ((Aw hl') o w z_))<|rz rfl<|Cb (fun tt ll=>(NF N headers l' c  =some r)∧Is [(0,headersv),(1,l'v),(6,vP f 0),(8,vI c.1)] (KC f (Value.string (⟨#[]⟩)) nS 0 0 0 0) tt ll) ?_ ?_
 ·refine Aa fun A h=>Ag<|rn 3 rfl ?_
  rcases i:(!(c.2.2))with _|_
  ·replace b:=ifp (Db i) b
   refine rn 2 rfl<|r_y rfl<|kC b fun d b=>rI (Rd.shp hl') d rfl<|r_y rfl<|rF (Rd.shp hl') (Be d) rfl<|r_y rfl<|rE (Aw hl') d 1 rfl<|rn 1 rfl<|r_y rfl<|rL (RdN.shp hheaders) rfl<|r_y rfl<|kC b fun k b=>rX k rfl<|r_y rfl<|kB b fun B m b=>rc _ (cF Kz) (HV N ((l'[(c.1).toNat]!).2.1) 0 ((headers.length:Int) - 1) _ m)<|rz rfl<|h _ _ ?_
   refine Bf _ rfl (fun e=> ?_) (fun e=> ?_)
   ·replace b:=ifn (Bool.eq_false_iff.1 (Da e)) b
    refine Ad<|r_W (vA #[Value.string (⟨#[]⟩),nS,vI 0,vI 0,vI 0,vI 0]) rfl (Ap rfl rfl rfl rfl)<|r_s (KC f (Value.string (⟨#[]⟩)) nS 0 0 0 0) 0 _ _ _ _ _ (#[Value.string (⟨#[]⟩),nS,vI 0,vI 0,vI 0,vI 0]) rfl rfl rfl rfl (.ofS rfl rfl (Ae rfl (Ae (Shp.one (.inl ⟨rfl,rfl⟩)) (Ae rfl (Ae rfl (Ae rfl (Ae rfl Bv))))))) rfl rfl<|rz rfl<|GQ [(6,vP f 0),(7,vB false)] rfl (fun T=> ?_)
    cases b
    refine Bb (fun n=>Hw (v0:=vT #[vA #[Value.string (⟨#[]⟩),nS,vI 0,vI 0,vI 0,vI 0],vB false]) Sl.nil (Sub.nil _) rfl (Lg (Bh n 0 rfl rfl rfl) rfl))
   replace b:=ifp (Db e) b
   refine Ab<|fg _ (Sub.of (suK _ suN)) ?_
   exact⟨b,Ah rfl rfl⟩
  replace b:=ifn (Bool.eq_false_iff.1 (Da i)) b
  refine rz rfl<|h _ _ ?_
  refine MP rfl ?_
  refine Ad<|r_W (vA #[Value.string (⟨#[]⟩),nS,vI 0,vI 0,vI 0,vI 0]) rfl (Ap rfl rfl rfl rfl)<|r_s (KC f (Value.string (⟨#[]⟩)) nS 0 0 0 0) 0 _ _ _ _ _ (#[Value.string (⟨#[]⟩),nS,vI 0,vI 0,vI 0,vI 0]) rfl rfl rfl rfl (.ofS rfl rfl (Ae rfl (Ae (Shp.one (.inl ⟨rfl,rfl⟩)) (Ae rfl (Ae rfl (Ae rfl (Ae rfl Bv))))))) rfl rfl<|rz rfl<|GQ [(6,vP f 0),(7,vB false)] rfl (fun T=> ?_)
  cases b
  refine Bb (fun n=>Hw (v0:=vT #[vA #[Value.string (⟨#[]⟩),nS,vI 0,vI 0,vI 0,vI 0],vB false]) Sl.nil (Sub.nil _) rfl (Lg (Bh n 0 rfl rfl rfl) rfl))
 clear b;rintro t l ⟨b,⟨T,rfl⟩,rfl⟩
 unfold NF at b
 refine Ad<|rn 3 rfl<|kC b fun j b=>rI (Rd.shp hl') j rfl<|rF (Rd.shp hl') (Be j) rfl<|rE (Aw hl') j 1 rfl<|kC b fun p b=> ?_
 obtain⟨_,⟨z,q,rfl⟩,hat11⟩:=RdN.at (E:=Ad4) hheaders (Dc p)
 refine rI (RdN.shp hheaders) p rfl ?_
 refine NB (vA #[vS (headers[((l'[(c.1).toNat]!).2.1).toNat]!.1),z,vI (headers[((l'[(c.1).toNat]!).2.1).toNat]!.2.2.1),vI (headers[((l'[(c.1).toNat]!).2.1).toNat]!.2.2.2.1),vI (headers[((l'[(c.1).toNat]!).2.1).toNat]!.2.2.2.2.1),vI (headers[((l'[(c.1).toNat]!).2.1).toNat]!.2.2.2.2.2)]) (vs:=[vS (headers[((l'[(c.1).toNat]!).2.1).toNat]!.1),z,vI (headers[((l'[(c.1).toNat]!).2.1).toNat]!.2.2.1),vI (headers[((l'[(c.1).toNat]!).2.1).toNat]!.2.2.2.1),vI (headers[((l'[(c.1).toNat]!).2.1).toNat]!.2.2.2.2.1),vI (headers[((l'[(c.1).toNat]!).2.1).toNat]!.2.2.2.2.2)]) (((l'[(c.1).toNat]!).2.1).toNat*6) 0 rfl rfl (fun o w z_=>At.mono z_.ro_cell hat11) rfl<|kB b fun a s b=>gS (Ls:=[(KC f (Value.string (⟨#[]⟩)) nS 0 0 0 0)]) (cF lJ) (fun o w z_=>XP N (headers[((l'[(c.1).toNat]!).2.1).toNat]!.1) (headers[((l'[(c.1).toNat]!).2.1).toNat]!.2.1) (headers[((l'[(c.1).toNat]!).2.1).toNat]!.2.2.1) (headers[((l'[(c.1).toNat]!).2.1).toNat]!.2.2.2.1) (headers[((l'[(c.1).toNat]!).2.1).toNat]!.2.2.2.2.1) (headers[((l'[(c.1).toNat]!).2.1).toNat]!.2.2.2.2.2) _ s z_.view z (z_.r q)) (fun g u v=> ?_)
 refine r_s (List.flatten [(FX f a.1 g a.2.2.1 a.2.2.2.1 a.2.2.2.2.1 a.2.2.2.2.2),u]) 0 _ _ _ _ _ (#[vS a.1,g,vI a.2.2.1,vI a.2.2.2.1,vI a.2.2.2.2.1,vI a.2.2.2.2.2]) rfl rfl rfl rfl (.ofS rfl rfl (Ae rfl (Ae (Shp.one (Sl.shp v)) (Ae rfl (Ae rfl (Ae rfl (Ae rfl Bv))))))) rfl rfl<|rz rfl ?_
 cases b
 refine Bb (fun n=>Hw (v0:=vT #[vA #[vS a.1,g,vI a.2.2.1,vI a.2.2.2.1,vI a.2.2.2.2.1,vI a.2.2.2.2.2],vB true]) v (EH (Sub.pick [(FX f a.1 g a.2.2.1 a.2.2.2.1 a.2.2.2.2.1 a.2.2.2.2.2),u] [1] rfl)) rfl (Lg (Bh n 0 rfl rfl rfl) rfl))
def KP(N:Nat)(m:Ao)(b:Int):Option ((List UInt8)×(List (List UInt8×Int))×Int×Int×Int×Int×Bool):=(Na N m.2.1 m.2.2.1 b).bind fun a=>some (a.1,a.2.1,a.2.2.1,a.2.2.2.1,a.2.2.2.2.1,a.2.2.2.2.2.1,a.2.2.2.2.2.2)
theorem Tm(N m slot r)(b:KP N m slot=some r)(ro)(mv:AD)(hm:Aa1 ro mv m):Does prog 121 #[vA (Ac m mv),vI slot] ro [] (p1 (fun s_=>vT #[vA #[vS r.1,s_,vI r.2.2.1,vI r.2.2.2.1,vI r.2.2.2.2.1,vI r.2.2.2.2.2.1],vB r.2.2.2.2.2.2]) 77 Ab2 r.2.1):=by
 unfold KP at b
 refine Al follows func121 rfl 14 rfl _ fz2 (fun c=> ?_)
 refine Ad<|rA rfl fun e=>rA rfl fun f=>rz rfl<|Ad<|rm 5 [1,1] rfl<|kB b fun a g b=>gS (Ls:=[(KC f (Value.string (⟨#[]⟩)) nS 0 0 0 0),[(e,35,(Ac m mv))]]) (cF mh) (fun o w z_=>dh N m.2.1 m.2.2.1 slot _ g z_.view mv.1 (RdN.mono z_.ro_cell hm.1) mv.2.1 ((Aw hm.2.1) o w z_)) (fun d h i=> ?_)
 refine rn 2 rfl<|r_s (List.flatten [(FX f a.1 d a.2.2.1 a.2.2.2.1 a.2.2.2.2.1 a.2.2.2.2.2.1),[(e,35,(Ac m mv))],h]) 0 _ _ _ _ _ (#[vS a.1,d,vI a.2.2.1,vI a.2.2.2.1,vI a.2.2.2.2.1,vI a.2.2.2.2.2.1]) rfl rfl rfl rfl (.ofS rfl rfl (Ae rfl (Ae (Shp.one (Sl.shp i)) (Ae rfl (Ae rfl (Ae rfl (Ae rfl Bv))))))) rfl rfl<|rz rfl ?_
 cases b
 refine Bb (fun j=>Hw (v0:=vT #[vA #[vS a.1,d,vI a.2.2.1,vI a.2.2.2.1,vI a.2.2.2.2.1,vI a.2.2.2.2.2.1],vB a.2.2.2.2.2.2]) i (EH (Sub.pick [(FX f a.1 d a.2.2.1 a.2.2.2.1 a.2.2.2.2.1 a.2.2.2.2.2.1),[(e,35,(Ac m mv))],h] [2] rfl)) rfl (Lg (Bh j 0 rfl rfl rfl) rfl))
def Lu(N:Nat)(a:List (List UInt8×Int))(i:Int):Option Bool:=ck ((R64 ((a.length:Int) - 1))) ((Az N i 0 ((a.length:Int) - 1)).bind fun b=>some b)
theorem UZ(N l' i r)(a:Lu N l' i=some r)(ro l'v)(hl':Rd Ab2 ro l'v l'):Does prog 122 #[l'v,vI i] ro [] (pV (vB r)):=by
 unfold Lu at a
 refine Al follows func122 rfl 10 rfl _ fz2 (fun b=> ?_)
 refine AZ rfl<|Ad<|rn 2 rfl<|rL (Rd.shp hl') rfl<|kC a fun c a=>rX c rfl<|kB a fun e d a=>rc _ (cF EV) (AP N i 0 ((l'.length:Int) - 1) _ d)<|rz rfl ?_
 cases a
 exact aR eV1
def Mb(f:Int)(a:(List UInt8)×(List (List UInt8×Int))×Int×Int×Int×Int×Bool):Option (Int×Bool):=ck (0≤f∧f<(a.2.1.length:Int)) (some (((a.2.1)[f.toNat]!).2,true))
def GD(N:Nat)(m:Ao)(b:Int)(f:Int):Option (Int×Bool):=(KP N m b).bind fun a=>if a.2.2.2.2.2.2=true then(Lu N a.2.1 f).bind fun c=>if c=true then Mb f a  else some (0,false)else some (0,false)
theorem Pk(N m slot f r)(b:GD N m slot f=some r)(ro)(mv:AD)(hm:Aa1 ro mv m):Does prog 57 #[vA (Ac m mv),vI slot,vI f] ro [] (pV (vT #[vI r.1,vB r.2])):=by
 unfold GD at b
 refine Al follows func57 rfl 31 rfl _ fz3 (fun q=> ?_)
 refine Ad<|rA rfl fun s=>rz rfl<|Ad<|rm 2 [0] rfl<|kB b fun a u b=>gS (Ls:=[[(s,35,(Ac m mv))]]) (cF cu) (fun o w z_=>Tm N m slot _ u z_.view mv (Aa1.mono z_.ro_cell hm)) (fun h j n=> ?_)
 refine rn 3 rfl<|rA rfl fun i=>r_s (List.flatten [(FX i a.1 h a.2.2.1 a.2.2.2.1 a.2.2.2.2.1 a.2.2.2.2.2.1),[(s,35,(Ac m mv))],j]) 0 _ _ _ _ _ (#[vS a.1,h,vI a.2.2.1,vI a.2.2.2.1,vI a.2.2.2.2.1,vI a.2.2.2.2.2.1]) rfl rfl rfl rfl (.ofS rfl rfl (Ae rfl (Ae (Shp.one (Sl.shp n)) (Ae rfl (Ae rfl (Ae rfl (Ae rfl Bv))))))) rfl rfl<|rz rfl<|Cb (fun tt ll=>(Mb f a  =some r)∧Is [(2,vI f),(8,vP i 0)] (List.flatten [(FX i a.1 h a.2.2.1 a.2.2.2.1 a.2.2.2.2.1 a.2.2.2.2.2.1),j]) tt ll) ?_ ?_
 ·refine Aa fun v e=>Ag<|rn 3 rfl ?_
  rcases g:(!(a.2.2.2.2.2.2))with _|_
  ·replace b:=ifp (Db g) b
   refine rn 1 rfl<|r_y rfl<|rm 2 [0] rfl<|r_y rfl<|kB b fun x p b=>gV _ (cF ny) (fun o w z_=>UZ N a.2.1 f _ p z_.view h ((Ax n (Ak (Ls:=[(FX i a.1 h a.2.2.1 a.2.2.2.1 a.2.2.2.2.1 a.2.2.2.2.2.1),[(s,35,(Ac m mv))],j]) (k:=2) rfl rfl)) o w z_))<|rz rfl<|e _ _ ?_
   refine Bf _ rfl (fun c=> ?_) (fun c=> ?_)
   ·replace b:=ifn (Bool.eq_false_iff.1 (Da c)) b
    refine AZ rfl ?_
    cases b
    exact aR eV2
   replace b:=ifp (Db c) b
   refine Ab<|fg _ (Sub.pick [(FX i a.1 h a.2.2.1 a.2.2.2.1 a.2.2.2.2.1 a.2.2.2.2.2.1),[(s,35,(Ac m mv))],j] [0,2] rfl) ?_
   exact⟨b,Ah rfl rfl⟩
  replace b:=ifn (Bool.eq_false_iff.1 (Da g)) b
  refine rz rfl<|e _ _ ?_
  refine MP rfl ?_
  refine AZ rfl ?_
  cases b
  exact aR eV2
 clear b;rintro t l ⟨b,⟨T,rfl⟩,rfl⟩
 unfold Mb at b
 refine Ad<|rm 3 [0] rfl<|kC b fun d b=>rI (Sl.shp n) d rfl<|rF (Sl.shp n) (Be d) rfl<|rE (Ax n (Ak (Ls:=[(FX i a.1 h a.2.2.1 a.2.2.2.1 a.2.2.2.2.1 a.2.2.2.2.2.1),j]) (k:=1) rfl rfl)) d 1 rfl<|rz rfl ?_
 cases b
 exact aR eV2
end Go.Proofs.YtoolcgbcfgnipaaGreatDoor
