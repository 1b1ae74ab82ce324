import Derived.Test.YtajdpjdejpcgnaaGreatDoorBd
namespace Go.Proofs.YtajdpjdejpcgnaaGreatDoor
open Go Go.RowKit Go.Eng _root_.Go.Proofs.Tryz
set_option maxRecDepth 100000
set_option maxHeartbeats 80000000
abbrev Ui(b:Nat)(x0:Value):List Bl:=[(b,43, #[x0])]
abbrev Nc(b:Nat)(x0:Value):List Bl:=[(b,27, #[x0])]
abbrev JM(b:Nat)(x0:List UInt8)(x1:Value)(x2:Value):List Bl:=[(b,166, #[vS x0,x1,x2])]
abbrev NG(b:Nat)(x0:Value):List Bl:=[(b,168, #[x0])]
abbrev Ly(b:Nat)(x0:Value):List Bl:=[(b,149, #[x0])]
abbrev FU(b:Nat)(x0:List UInt8)(x1:Int)(x2:Value)(x3:Value)(x4:Int)(x5:Value)(x6:Int):List Bl:=[(b,175, #[vS x0,vI x1,x2,x3,vI x4,x5,vI x6])]
abbrev NF(b:Nat)(x0:Value):List Bl:=[(b,177, #[x0])]
abbrev GS(b:Nat)(x0:Int)(x1:Int)(x2:Value)(x3:Value)(x4:Int)(x5:Int):List Bl:=[(b,254, #[vI x0,vI x1,x2,x3,vI x4,vI x5])]
def EO(N:Nat)(s:Sum74)(at':Int)(end':Int):Option Bool:=(Lh N s).bind fun r3=>if r3.2=true then ck (R64 (at'+1)) ((Au N r3.1 (at'+1) end').bind fun r8=>some r8)else some true
theorem NK(N s at' end' r)(a:EO N s at' end'=some r):Gives prog 30 #[Sum74.v s,vI at',vI end'] (vB r):=by
 unfold EO at a
 refine Ao follows func30 rfl 23 rfl _ fz3 (fun d=> ?_)
 refine AZ rfl<|Aa<|rn 1 rfl<|kB a fun h e a=>rc _ (cF Zi) (TO N s _ e)<|rz rfl<|Ae fun i b=>An<|rn 3 rfl ?_
 rcases c:(!(h.2))with _|_
 ·replace a:=ifp (Ce c) a
  refine rn 2 rfl<|r_y rfl<|kC a fun f a=>rX f rfl<|rn 1 rfl<|r_y rfl<|kB a fun j g a=>rc _ (cF BI) (Ax N h.1 (at'+1) end' _ g)<|rz rfl<|b _ _ ?_
  cases a
  exact aR eE1
 replace a:=ifn (Bool.eq_false_iff.1 (Cd c)) a
 refine rz rfl<|b _ _ ?_
 cases a
 exact aR eE1
def HR(N:Nat)(i:Int)(s:Sum74)(c2_:AF)(c3_:List Int)(c4_:List (Int×Int×Int×Int×BitVec 128)):Option Int:=ck (0≤i∧i<(c4_.length:Int)) ((NM N c2_ c3_ ((c4_[i.toNat]!).1) ((c4_[i.toNat]!).2.1) ((c4_[i.toNat]!).2.2.1) ((c4_[i.toNat]!).2.2.2.1) ((c4_[i.toNat]!).2.2.2.2)).bind fun r4=>(Al N r4 5).bind fun r6=>(EO N s i (c4_.length:Int)).bind fun r8=>(Al N r8 12).bind fun r10=>(Ay N ([r6,r10])).bind fun r15=>some r15)
theorem Pc(N i s c g a r)(f:HR N i s c g a=some r)(ro)(q:Nat)(d:AE)(C:Bun59R ro d c)(x:Blk ro q (Ca c d))(t:Nat)(e)(D:Rd AX ro e g)(y:Blk ro t [e])(u:Nat)(b)(h:Rd Dz ro b a)(j:Blk ro u [b]):DoesI prog 26 #[vI i,Sum74.v s,vP q 0,vP t 0,vP u 0] CR ro [] (pV (vI r)):=by
 unfold HR at f
 refine AC follows func26 rfl 24 rfl _ fz5 AG (fun J=> ?_)
 refine AZ rfl<|Ae fun T K=> ?_
 refine Bt [(some 14,false),(some 22,false),(some 23,false)] (conG prog [(14,cV (NM N c g ((a[i.toNat]!).1) ((a[i.toNat]!).2.1) ((a[i.toNat]!).2.2.1) ((a[i.toNat]!).2.2.2.1) ((a[i.toNat]!).2.2.2.2)) fun n=>vB n),(23,fun _ _ v_ L_ U_=> ∀n,NM N c g ((a[i.toNat]!).1) ((a[i.toNat]!).2.1) ((a[i.toNat]!).2.2.1) ((a[i.toNat]!).2.2.2.1) ((a[i.toNat]!).2.2.2.2)=some n→ ∀E,Al N n 5=some E→ ∀F,EO N s i (a.length:Int)=some F→ ∀G,Al N F 12=some G→ ∀H,Ay N ([E,G])=some H→(pV (vI H)) v_ L_ U_)]) [] (by decide+kernel) (fun U=>AW) ?_
 refine Cz (vA (Ab c d)) (vs:=(Ca c d)) (o:=0) rfl rfl (Az x) rfl<|Cz e (vs:=[e]) (o:=0) rfl rfl (Az y) rfl<|Cz b (vs:=[b]) (o:=0) rfl rfl (Az j) rfl<|rn 1 rfl<|kC f fun I f=>rI (Rd.shp h) I rfl<|rE (AA h) I 0 rfl<|kB f fun Q p f=>rg _ (cF ZI) (fun o w z_=>aO N c g ((a[i.toNat]!).1) ((a[i.toNat]!).2.1) ((a[i.toNat]!).2.2.1) ((a[i.toNat]!).2.2.2.1) ((a[i.toNat]!).2.2.2.2) _ p z_.view d (Bun59R.mono z_.ro_cell C) e (z_.r D)) (DA p)<|kB f fun L z f=>rc _ (cF AI) (Ap N Q 5 _ z)<|rn 2 rfl<|Cz b (vs:=[b]) (o:=0) rfl rfl (Az j) rfl<|rL (Rd.shp h) rfl<|kB f fun R A f=>rc _ (cF ZH) (NK N s i (a.length:Int) _ A)<|kB f fun B l f=>rc _ (cF AI) (Ap N R 12 _ l) ?_
 refine FY (Ls:=[]) 44 AX [L,B] [vI L,vI B] [vI 0,vI 0] rfl rfl rfl rfl rfl rfl rfl (by kernel_rfl) (by kernel_rfl) rfl rfl rfl (fun M O P=> ?_)
 refine kB f fun S m f=>rg _ (cF Bx) (fun o w z_=>(Does.inv (Bc N ([L,B]) _ m z_.view M ((Ar P (Af (Ls:=[O]) (k:=0) rfl rfl)) o w z_)) _)) (fun _ _ v_ L_ U_=>⟨fun h_=>h_ _ p _ z _ A _ l _ m,fun h_=>by intro _ e_;cases Option.some.inj (e_.symm.trans p);intro _ e_;cases Option.some.inj (e_.symm.trans z);intro _ e_;cases Option.some.inj (e_.symm.trans A);intro _ e_;cases Option.some.inj (e_.symm.trans l);intro _ e_;cases Option.some.inj (e_.symm.trans m);exact h_⟩) ?_
 refine rz rfl<|K _ _ ?_
 cases f
 exact aR eV1
def CA(N:Nat)(l':List Sum74)(ask0_:AF)(ask1_:List Int)(ask2_:List (Int×Int×Int×Int×BitVec 128)):Nat→Int→Option (Int×Int)
  |0,_=>none
  |n8+1,x1_=>if x1_<(l'.length:Int)then ck (0≤x1_∧x1_<(l'.length:Int)) ((HR N x1_ (l'[x1_.toNat]!) ask0_ ask1_ ask2_).bind fun r16=>if(r16:Int)≠0 then some (x1_,r16)else ck (R64 (x1_+1)) ((CA N l' ask0_ ask1_ ask2_ n8) (x1_+1)))else some (0,0)
def EU(N:Nat)(l':List Sum74)(most:Int)(ask0_:AF)(ask1_:List Int)(ask2_:List (Int×Int×Int×Int×BitVec 128)):Option (Int×Int):=if(l'.length:Int)>most then some (0,2)else CA N l' ask0_ ask1_ ask2_ N 0
theorem LC(N l' most e f g r)(d:EU N l' most e f g=some r)(ro l'v)(hl':Rd Kj ro l'v l')(a:Nat)(h:AE)(q:Bun59R ro h e)(m:Blk ro a (Ca e h))(b:Nat)(i)(s:Rd AX ro i f)(n:Blk ro b [i])(c:Nat)(j)(u:Rd Dz ro j g)(p:Blk ro c [j]):DoesI prog 25 #[l'v,vI most,vF 26 #[] #[vP a 0,vP b 0,vP c 0]] CR ro [] (pV (vT #[vI r.1,vI r.2])):=by
 unfold EU at d
 refine AC follows func25 rfl 31 rfl _ fz3 AG (fun E=> ?_)
 refine AZ rfl<|Ae fun L F=>Aa<|rn 1 rfl<|rL (Rd.shp hl') rfl<|rz rfl<|aD d rfl (fun G d=> ?_) (fun G d=> ?_)
 ·refine AZ rfl ?_
  cases d
  exact aR eV2
 refine Ac<|F _ _ ?_
 refine Ae fun M H=>Aa<|rn 1 rfl<|rL (Rd.shp hl') rfl<|rz rfl<|Am<|AS (fun tt ll nn=> ∃(x:Nat) (k:Int),(CA N l' e f g x k=some r)∧Is [(2,vF 26 #[] #[vP a 0,vP b 0,vP c 0]),(15,l'v),(16,vI (l'.length:Int)),(17,vI k)] [] tt ll∧nn=x+1) (N+1) ?_ ?_
 ·exact⟨N,0,d,Aj rfl rfl,rfl⟩
 clear d;rintro t l _ ⟨x,k,d,⟨⟨T,rfl⟩,rfl⟩,rfl⟩
 rcases x with _|x
 ·exact absurd d (by simp [CA])
 rw [CA] at d
 refine AZ rfl<|Ae fun I y=>aD d rfl (fun z d=> ?_) (fun z d=> ?_)
 ·refine Ac<|y _ _ ?_
  refine Ae fun J A=>Am<|Aa<|rn 1 rfl<|kC d fun v d=>rI (Rd.shp hl') v rfl<|rE (AA hl') v 0 rfl<|rz rfl<|Aa<|rn 3 rfl<|kB d fun K B d=>gV _ (AV (caps:=[vP a 0,vP b 0,vP c 0]) rfl ZJ rfl) (fun o w z_=>Pc N k (l'[k.toNat]!) e f g _ B z_.view a h (Bun59R.mono z_.ro_cell q) (Az m o w z_) b i (z_.r s) (Az n o w z_) c j (z_.r u) (Az p o w z_))<|rz rfl<|AZ rfl<|aN d rfl (fun C d=> ?_) (fun C d=> ?_)
  ·refine AZ rfl ?_
   cases d
   exact aR eV2
  refine Ac<|A _ _ ?_
  refine An<|kC d fun D d=>rX D rfl<|rz rfl<|fg _ (Sub.of suN) ?_
  exact⟨x+1,by omega,x,(k+1),d,Aj rfl rfl,rfl⟩
 refine AT<|H _ _ ?_
 refine AZ rfl ?_
 cases d
 exact aR eV2
def EG(N:Nat)(m:AF)(params:List Int)(l':List (Int×Int×Int×Int×BitVec 128)):Option Int:=if(params.length:Int)>8 then some 2 else(Ni N l').bind fun r10=>if(r10.2.2:Int)≠0 then some r10.2.2 else(EU N r10.1 64 m params l').bind fun r20=>some r20.2
theorem JO(N m params l' r)(a:EG N m params l'=some r)(ro)(mv:AE)(hm:Bun59R ro mv m)(paramsv)(hparams:Rd AX ro paramsv params)(l'v)(hl':Rd Dz ro l'v l'):DoesI prog 19 #[vA (Ab m mv),paramsv,l'v] CR ro [] (pV (vI r)):=by
 unfold EG at a
 refine AC follows func19 rfl 29 rfl _ fz3 AG (fun f=> ?_)
 refine Aa<|rA rfl fun g=>r_a (27, #[paramsv]) rfl rfl (Hp rfl (Rd.shp hparams)) (fun h=> ?_) (.inr rfl)
 refine r_a (43, #[l'v]) rfl rfl (Hp rfl (Rd.shp hl')) (fun i=> ?_) (.inr rfl)
 refine rz rfl<|Ae fun v j=>Aa<|rm 1 [1] rfl<|rL (Rd.shp hparams) rfl<|rz rfl<|aD a rfl (fun l a=> ?_) (fun l a=> ?_)
 ·refine AZ rfl ?_
  cases a
  exact aR eV1
 refine Ac<|j _ _ ?_
 refine Aa<|rm 1 [0] rfl<|kB a fun n b a=>gS (Ls:=[(Ui i l'v),(Nc h paramsv),[(g,59,(Ab m mv))]]) (cF Uw) (fun o w z_=>(Does.inv (Us N l' _ b z_.view l'v ((AA hl') o w z_)) _)) (fun p q s=> ?_)
 refine rz rfl<|Ae fun u c=>AZ rfl<|aN a rfl (fun d a=> ?_) (fun d a=> ?_)
 ·refine AZ rfl ?_
  cases a
  exact aR eV1
 refine Ac<|c _ _ ?_
 refine Aa<|rn 1 rfl<|r_W (vF 26 #[] #[vP g 0,vP h 0,vP i 0]) rfl (Db rfl)<|kB a fun t e a=>gV _ (cF ZK) (fun o w z_=>LC N n.1 64 m params l' _ e z_.view p ((Ar s (Af (Ls:=[(Ui i l'v),(Nc h paramsv),[(g,59,(Ab m mv))],q]) (k:=3) rfl rfl)) o w z_) g mv (Bun59R.mono z_.ro_cell hm) (Bi 2 rfl rfl o w z_) h paramsv (z_.r hparams) (Bi 1 rfl rfl o w z_) i l'v ((AA hl') o w z_) (Bi 0 rfl rfl o w z_))<|rz rfl<|Cx [(9,vI t.2)] rfl (fun T=> ?_)
 refine AZ rfl ?_
 cases a
 exact aR eV1
def Eu(N:Nat)(c:AF)(_:List UInt8)(x_1:List Int)(x_2:List (Int×Int×Int×Int×BitVec 128)):Option Int:=(JS N x_1 8).bind fun r5=>(EG N c x_1 x_2).bind fun r8=>(Ay N ([r5.2,r8])).bind fun r13=>some r13
theorem Pz(N c x_0 x_1 x_2 r)(a:Eu N c x_0 x_1 x_2=some r)(ro)(cv:AE)(hc:Bun59R ro cv c)(x_1v)(hx_1:Rd AX ro x_1v x_1)(x_2v)(hx_2:Rd Dz ro x_2v x_2):DoesI prog 84 #[vA (Ab c cv),vA #[vS x_0,x_1v,x_2v]] CR ro [] (pV (vI r)):=by
 unfold Eu at a
 refine AC follows func84 rfl 23 rfl _ fz2 AG (fun d=> ?_)
 refine Aa<|rA rfl fun j=>rA rfl fun l=>rz rfl<|Aa<|rm 2 [0] rfl<|kB a fun m e a=>gV _ (cF Nj) (fun o w z_=>(Does.inv (Sc N x_1 8 _ e z_.view x_1v (z_.r hx_1)) _))<|rz rfl<|Aa<|rm 7 [1,0,0] rfl<|kB a fun n f a=>gV _ (cF RB) (fun o w z_=>JO N c x_1 x_2 _ f z_.view cv (Bun59R.mono z_.ro_cell hc) x_1v (z_.r hx_1) x_2v (z_.r hx_2))<|gB (Ls:=[(JM l x_0 x_1v x_2v),[(j,90,(Ab c cv))]]) 44 AX [m.2,n] (fun g h i=> ?_)
 refine kB a fun p b a=>gV _ (cF Bx) (fun o w z_=>(Does.inv (Bc N ([m.2,n]) _ b z_.view g ((Ar i (Af (Ls:=[(JM l x_0 x_1v x_2v),[(j,90,(Ab c cv))],h]) (k:=2) rfl rfl)) o w z_)) _))<|rz rfl ?_
 cases a
 exact aR eV1
def FB(N:Nat)(i:Int)(x_0:List UInt8)(x_1:List Int)(x_2:List (Int×Int×Int×Int×BitVec 128))(c2_:List (List UInt8))(c3_p0_0_:AF):Option Int:=ck (0≤i∧i<(c2_.length:Int)) ((BT N (c2_[i.toNat]!)).bind fun r5=>(Al N r5 4).bind fun r7=>(AH N c2_ i).bind fun r9=>(Eu N c3_p0_0_ x_0 x_1 x_2).bind fun r11=>(Ay N ([r7,r9,r11])).bind fun r16=>some r16)
theorem Mk(N i x_0 x_1 x_2 b c3_p0_0_ r)(c:FB N i x_0 x_1 x_2 b c3_p0_0_=some r)(ro x_1v)(hx_1:Rd AX ro x_1v x_1)(x_2v)(hx_2:Rd Dz ro x_2v x_2)(l:Nat)(a)(g:Rd By ro a b)(h:Blk ro l [a])(m:Nat)(c3_p0_0_v:AE)(hc3_p0_0_:Bun59R ro c3_p0_0_v c3_p0_0_)(n:Blk ro m [vF 84 #[vA (Ab c3_p0_0_ c3_p0_0_v)] #[]]):DoesI prog 140 #[vI i,vA #[vS x_0,x_1v,x_2v],vP l 0,vP m 0] CR ro [] (pV (vI r)):=by
 unfold FB at c
 refine AC follows func140 rfl 21 rfl _ fz4 AG (fun z=> ?_)
 refine Aa<|rA rfl fun G=>rz rfl<|Ae fun J A=> ?_
 refine Bt [(some 15,false),(some 18,false),(some 19,false),(some 20,false)] (conG prog [(15,cV (AH N b i) fun f=>vI f),(18,cV (Eu N c3_p0_0_ x_0 x_1 x_2) fun f=>vI f),(20,fun _ _ v_ L_ U_=> ∀f,BT N (b[i.toNat]!)=some f→ ∀t,Al N f 4=some t→ ∀u,AH N b i=some u→ ∀v,Eu N c3_p0_0_ x_0 x_1 x_2=some v→ ∀x,Ay N ([t,u,v])=some x→(pV (vI x)) v_ L_ U_)]) [] (by decide+kernel) (fun K=>AW) ?_
 refine Cz a (vs:=[a]) (o:=0) rfl rfl (Az h) rfl<|rn 1 rfl<|kC c fun y c=>rI (Rd.shp g) y rfl<|rE (AA g) y 0 rfl<|kB c fun H p c=>rc _ (cF Ho) (Fy N (b[i.toNat]!) _ p)<|kB c fun B q c=>rc _ (cF AI) (Ap N H 4 _ q)<|Cz a (vs:=[a]) (o:=0) rfl rfl (Az h) rfl<|rn 1 rfl<|kB c fun C d c=>rg _ (cF HF) (fun o w z_=>(Does.inv (CL N b i _ d z_.view a (z_.r g)) _)) (DA d)<|Cz (vF 84 #[vA (Ab c3_p0_0_ c3_p0_0_v)] #[]) (vs:=[vF 84 #[vA (Ab c3_p0_0_ c3_p0_0_v)] #[]]) (o:=0) rfl rfl (Az n) rfl<|rm 1 [0] rfl<|kB c fun s e c=>rg _ (BS (bd:=[vA (Ab c3_p0_0_ c3_p0_0_v)]) (caps:=[]) rfl YN rfl) (fun o w z_=>Pz N c3_p0_0_ x_0 x_1 x_2 _ e z_.view c3_p0_0_v (Bun59R.mono z_.ro_cell hc3_p0_0_) x_1v (z_.r hx_1) x_2v (z_.r hx_2)) (DA e) ?_
 refine FY (Ls:=[(JM G x_0 x_1v x_2v)]) 44 AX [B,C,s] [vI B,vI C,vI s] [vI 0,vI 0,vI 0] rfl rfl rfl rfl rfl rfl rfl (by kernel_rfl) (by kernel_rfl) rfl rfl rfl (fun D E F=> ?_)
 refine kB c fun I j c=>rg _ (cF Bx) (fun o w z_=>(Does.inv (Bc N ([B,C,s]) _ j z_.view D ((Ar F (Af (Ls:=[(JM G x_0 x_1v x_2v),E]) (k:=1) rfl rfl)) o w z_)) _)) (fun _ _ v_ L_ U_=>⟨fun h_=>h_ _ p _ q _ d _ e _ j,fun h_=>by intro _ e_;cases Option.some.inj (e_.symm.trans p);intro _ e_;cases Option.some.inj (e_.symm.trans q);intro _ e_;cases Option.some.inj (e_.symm.trans d);intro _ e_;cases Option.some.inj (e_.symm.trans e);intro _ e_;cases Option.some.inj (e_.symm.trans j);exact h_⟩) ?_
 refine rz rfl<|A _ _ ?_
 cases c
 exact aR eV1
def Dq(N:Nat)(l':List ((List UInt8)×(List Int)×(List (Int×Int×Int×Int×BitVec 128))))(ask0_:List (List UInt8))(ask1_p0_0_:AF):Nat→Int→Option (Int×Int)
  |0,_=>none
  |n8+1,x1_=>if x1_<(l'.length:Int)then ck (0≤x1_∧x1_<(l'.length:Int)) ((FB N x1_ (l'[x1_.toNat]!.1) (l'[x1_.toNat]!.2.1) (l'[x1_.toNat]!.2.2) ask0_ ask1_p0_0_).bind fun r22=>if(r22:Int)≠0 then some (x1_,r22)else ck (R64 (x1_+1)) ((Dq N l' ask0_ ask1_p0_0_ n8) (x1_+1)))else some (0,0)
def Hc(N:Nat)(l':List ((List UInt8)×(List Int)×(List (Int×Int×Int×Int×BitVec 128))))(most:Int)(ask0_:List (List UInt8))(ask1_p0_0_:AF):Option (Int×Int):=if(l'.length:Int)>most then some (0,2)else Dq N l' ask0_ ask1_p0_0_ N 0
theorem NW(N l' most e ask1_p0_0_ r)(d:Hc N l' most e ask1_p0_0_=some r)(ro l'v)(hl':RdN Dv ro l'v l')(a:Nat)(f)(k:Rd By ro f e)(g:Blk ro a [f])(b:Nat)(ask1_p0_0_v:AE)(hask1_p0_0_:Bun59R ro ask1_p0_0_v ask1_p0_0_)(h:Blk ro b [vF 84 #[vA (Ab ask1_p0_0_ ask1_p0_0_v)] #[]]):DoesI prog 139 #[l'v,vI most,vF 140 #[] #[vP a 0,vP b 0]] CR ro [] (pV (vT #[vI r.1,vI r.2])):=by
 unfold Hc at d
 refine AC follows func139 rfl 31 rfl _ fz3 AG (fun A=> ?_)
 refine AZ rfl<|Ae fun J B=>Aa<|rn 1 rfl<|rL (RdN.shp hl') rfl<|rz rfl<|aD d rfl (fun C d=> ?_) (fun C d=> ?_)
 ·refine AZ rfl ?_
  cases d
  exact aR eV2
 refine Ac<|B _ _ ?_
 refine Ae fun K D=>Aa<|rn 1 rfl<|rL (RdN.shp hl') rfl<|rz rfl<|Am<|AS (fun tt ll nn=> ∃(q:Nat) (c:Int),(Dq N l' e ask1_p0_0_ q c=some r)∧Is [(2,vF 140 #[] #[vP a 0,vP b 0]),(15,l'v),(16,vI (l'.length:Int)),(17,vI c)] [] tt ll∧nn=q+1) (N+1) ?_ ?_
 ·exact⟨N,0,d,Aj rfl rfl,rfl⟩
 clear d;rintro t l _ ⟨q,c,d,⟨⟨T,rfl⟩,rfl⟩,rfl⟩
 rcases q with _|q
 ·exact absurd d (by simp [Dq])
 rw [Dq] at d
 refine AZ rfl<|Ae fun G s=>aD d rfl (fun u d=> ?_) (fun u d=> ?_)
 ·refine Ac<|s _ _ ?_
  refine Ae fun H v=>Am<|Aa<|rn 1 rfl<|kC d fun m d=> ?_
  obtain⟨_,⟨i,j,n,p,rfl⟩,hat19⟩:=RdN.at (E:=Dv) hl' (Cs m)
  refine rI (RdN.shp hl') m rfl<|Nt (vA #[vS (l'[c.toNat]!.1),i,j]) (vs:=[vS (l'[c.toNat]!.1),i,j]) (c.toNat*3) 0 rfl rfl (fun o w z_=>At.mono z_.ro_cell hat19) rfl<|rA rfl fun F=>rn 1 rfl<|r_s (JM F (l'[c.toNat]!.1) i j) 0 _ _ _ _ _ (#[vS (l'[c.toNat]!.1),i,j]) rfl rfl rfl rfl (.ofS rfl rfl (Ad rfl (Ad (Shp.one (Rd.shp n)) (Ad (Shp.one (Rd.shp p)) Bf)))) rfl rfl<|Ah<|Aa<|rm 3 [0] rfl<|kB d fun I x d=>gV _ (AV (caps:=[vP a 0,vP b 0]) rfl Xn rfl) (fun o w z_=>Mk N c (l'[c.toNat]!.1) (l'[c.toNat]!.2.1) (l'[c.toNat]!.2.2) e ask1_p0_0_ _ x z_.view i (z_.r n) j (z_.r p) a f (z_.r k) (Az g o w z_) b ask1_p0_0_v (Bun59R.mono z_.ro_cell hask1_p0_0_) (Az h o w z_))<|rz rfl<|AZ rfl<|aN d rfl (fun y d=> ?_) (fun y d=> ?_)
  ·refine AZ rfl ?_
   cases d
   exact aR eV2
  refine Ac<|v _ _ ?_
  refine An<|kC d fun z d=>rX z rfl<|rz rfl<|fg _ (Sub.of (suC _ suN)) ?_
  exact⟨q+1,by omega,q,(c+1),d,Aj rfl rfl,rfl⟩
 refine AT<|D _ _ ?_
 refine AZ rfl ?_
 cases d
 exact aR eV2
def GY(N:Nat)(l':List ((List UInt8)×(List Int)×(List (Int×Int×Int×Int×BitVec 128))))(most:Int)(ask0_:AF):Option (Int×Int):=(Ha N l').bind fun r4=>(Hc N l' most r4 ask0_).bind fun r11=>some (r11.1,r11.2)
theorem NS(N l' most b r)(d:GY N l' most b=some r)(ro l'v)(hl':RdN Dv ro l'v l')(a:AE)(c:Bun59R ro a b):DoesI prog 82 #[l'v,vI most,vF 83 #[] #[],vF 84 #[vA (Ab b a)] #[]] CR ro [] (pV (vT #[vI r.1,vI r.2])):=by
 unfold GY at d
 refine AC follows func82 rfl 20 rfl _ fz4 AG (fun g=> ?_)
 refine Aa<|rA rfl fun e=>rz rfl<|Aa<|rn 2 rfl<|kB d fun n j d=>gS (Ls:=[(NG e (vF 84 #[vA (Ab b a)] #[]))]) (cF Xp) (fun o w z_=>(Does.inv (NU N l' _ j z_.view l'v (RdN.mono z_.ro_cell hl')) _)) (fun h m l=> ?_)
 refine rA rfl fun i=>r_s (List.flatten [(Ly i h),(NG e (vF 84 #[vA (Ab b a)] #[])),m]) 0 _ _ _ _ _ (#[h]) rfl rfl rfl (BZ rfl (Sl.shp l)) (.ofS rfl rfl (Ad (Shp.one (Sl.shp l)) Bf)) rfl rfl<|Ah<|Aa<|rn 2 rfl<|r_W (vF 140 #[] #[vP i 0,vP e 0]) rfl (Db rfl)<|kB d fun p f d=>gV _ (cF Xo) (fun o w z_=>NW N l' most n b _ f z_.view l'v (RdN.mono z_.ro_cell hl') i h ((Ar l (Af (Ls:=[(Ly i h),(NG e (vF 84 #[vA (Ab b a)] #[])),m]) (k:=2) rfl rfl)) o w z_) (Bi 0 rfl rfl o w z_) e a (Bun59R.mono z_.ro_cell c) (Bi 1 rfl rfl o w z_))<|rz rfl ?_
 cases d
 exact aR eV2
def Hj(N:Nat)(c:AF):Option (Int×Int):=(GY N c.2.2.2.2.2.1 32 c).bind fun r4=>some (r4.1,r4.2)
theorem Og(N c r)(a:Hj N c=some r)(ro)(cv:AE)(hc:Bun59R ro cv c):DoesI prog 39 #[vA (Ab c cv)] CR ro [] (pV (vT #[vI r.1,vI r.2])):=by
 unfold Hj at a
 refine AC follows func39 rfl 12 rfl _ fz1 AG (fun b=> ?_)
 refine Aa<|rA rfl fun e=>rz rfl<|Aa<|rm 4 [0,0] rfl<|r_W (vF 84 #[vA (Ab c cv)] #[]) rfl (Dj rfl rfl)<|kB a fun f d a=>gV _ (cF YP) (fun o w z_=>NS N c.2.2.2.2.2.1 32 c _ d z_.view cv.2.2.2.2.1 (RdN.mono z_.ro_cell hc.2.2.2.2.1) cv (Bun59R.mono z_.ro_cell hc))<|rz rfl ?_
 cases a
 exact aR eV2
def Gk(_:Nat)(x_0:List UInt8)(_:Int)(_:List (Int×Int×Int))(_:List Int)(_:Int)(_:List (Int×BitVec 128))(_:Int):Option (List UInt8):=some x_0
theorem MS(N x_0 x_1 x_2 x_3 x_4 x_5 x_6 r)(b:Gk N x_0 x_1 x_2 x_3 x_4 x_5 x_6=some r)(ro:Ro)(x_2v:Value)(_hx_2:Rd CN ro x_2v x_2)(x_3v:Value)(_hx_3:Rd AX ro x_3v x_3)(x_5v:Value)(_hx_5:Rd Fl ro x_5v x_5):Does prog 86 #[vA #[vS x_0,vI x_1,x_2v,x_3v,vI x_4,x_5v,vI x_6]] ro [] (pV (vS r)):=by
 unfold Gk at b
 refine Ag follows func86 rfl 5 rfl _ fz1 (fun a=> ?_)
 refine Aa<|rA rfl fun c=>rz rfl<|AY [0] rfl ?_
 cases b
 exact aR eV1
def DM(N:Nat)(l':List ((List UInt8)×Int×(List (Int×Int×Int))×(List Int)×Int×(List (Int×BitVec 128))×Int)):Nat→List (List UInt8)→Int→Option (List (List UInt8))
  |0,_,_=>none
  |n9+1,s1_,x2_=>if x2_<(l'.length:Int)then ck (0≤x2_∧x2_<(l'.length:Int)) ((Gk N (l'[x2_.toNat]!.1) (l'[x2_.toNat]!.2.1) (l'[x2_.toNat]!.2.2.1) (l'[x2_.toNat]!.2.2.2.1) (l'[x2_.toNat]!.2.2.2.2.1) (l'[x2_.toNat]!.2.2.2.2.2.1) (l'[x2_.toNat]!.2.2.2.2.2.2)).bind fun r24=>ck (0≤x2_∧x2_<(s1_.length:Int)) (ck (R64 (x2_+1)) ((DM N l' n9) ((s1_).set (x2_.toNat) r24) (x2_+1))))else some s1_
def HX(N:Nat)(l':List ((List UInt8)×Int×(List (Int×Int×Int))×(List Int)×Int×(List (Int×BitVec 128))×Int)):Option (List (List UInt8)):=ck (0≤(l'.length:Int)∧(l'.length:Int)≤8796093022208) (DM N l' N ((List.replicate ((l'.length:Int)).toNat ([]))) 0)
theorem Pi(N l' r)(b:HX N l'=some r)(ro l'v)(hl':RdN Ea ro l'v l'):Does prog 142 #[l'v,vF 86 #[] #[]] ro [] (p1 (fun s_=>s_) 9 By r):=by
 unfold HX at b
 refine Ag follows func142 rfl 26 rfl _ fz2 (fun B=> ?_)
 refine AZ rfl<|Aa<|rn 1 rfl<|rL (RdN.shp hl') rfl<|kC b fun C b=>cB 10<|LX (Ls:=[]) 9 By ([]) (l'.length:Int) rfl rfl rfl rfl rfl rfl rfl rfl rfl rfl 8796093022208 rfl C (fun _ _ _ _ _=>Iff.rfl) (fun D H I=> ?_)
 refine rz rfl<|Ae fun L F=>Aa<|rn 1 rfl<|rL (RdN.shp hl') rfl<|rz rfl<|Am<|BH _ (Sub.pick [H] [0] rfl)<|AS (fun tt ll nn=> ∃(p:Nat) (g:List (List UInt8)) (a:Int),(DM N l' p g a=some r)∧ ∃(c:List Bl),Sl 9 By D g c∧Is [(1,vF 86 #[] #[]),(5,D),(11,l'v),(12,vI (l'.length:Int)),(13,vI a)] (List.flatten [c]) tt ll∧nn=p+1) (N+1) ?_ ?_
 ·exact⟨N,(List.replicate ((l'.length:Int)).toNat ([])),0,b,H,I,Aj rfl rfl,rfl⟩
 clear b;rintro t l _ ⟨p,g,a,b,c,h,⟨⟨T,rfl⟩,rfl⟩,rfl⟩
 rcases p with _|p
 ·exact absurd b (by simp [DM])
 rw [DM] at b
 refine AZ rfl<|Ae fun J s=>aD b rfl (fun u b=> ?_) (fun u b=> ?_)
 ·refine Ac<|s _ _ ?_
  refine Ae fun K v=>Am<|Aa<|rn 1 rfl<|kC b fun i b=> ?_
  obtain⟨_,⟨d,e,f,j,k,m,rfl⟩,hat22⟩:=RdN.at (E:=Ea) hl' (Cs i)
  refine rI (RdN.shp hl') i rfl<|Nt (vA #[vS (l'[a.toNat]!.1),vI (l'[a.toNat]!.2.1),d,e,vI (l'[a.toNat]!.2.2.2.2.1),f,vI (l'[a.toNat]!.2.2.2.2.2.2)]) (vs:=[vS (l'[a.toNat]!.1),vI (l'[a.toNat]!.2.1),d,e,vI (l'[a.toNat]!.2.2.2.2.1),f,vI (l'[a.toNat]!.2.2.2.2.2.2)]) (a.toNat*7) 0 rfl rfl (fun o w z_=>At.mono z_.ro_cell hat22) rfl<|rA rfl fun q=>rn 1 rfl<|r_s (List.flatten [(FU q (l'[a.toNat]!.1) (l'[a.toNat]!.2.1) d e (l'[a.toNat]!.2.2.2.2.1) f (l'[a.toNat]!.2.2.2.2.2.2)),c]) 0 _ _ _ _ _ (#[vS (l'[a.toNat]!.1),vI (l'[a.toNat]!.2.1),d,e,vI (l'[a.toNat]!.2.2.2.2.1),f,vI (l'[a.toNat]!.2.2.2.2.2.2)]) rfl rfl rfl rfl (.ofS rfl rfl (Ad rfl (Ad rfl (Ad (Shp.one (Rd.shp j)) (Ad (Shp.one (Rd.shp k)) (Ad rfl (Ad (Shp.one (Rd.shp m)) (Ad rfl Bf)))))))) rfl rfl<|Ah<|An<|rn 3 rfl ?_
  refine rm 1 [0] rfl<|kB b fun x y b=>gV _ (AV (caps:=[]) rfl YL rfl) (fun o w z_=>MS N (l'[a.toNat]!.1) (l'[a.toNat]!.2.1) (l'[a.toNat]!.2.2.1) (l'[a.toNat]!.2.2.2.1) (l'[a.toNat]!.2.2.2.2.1) (l'[a.toNat]!.2.2.2.2.2.1) (l'[a.toNat]!.2.2.2.2.2.2) _ y z_.view d (z_.r j) e (z_.r k) f (z_.r m))<|kC b fun n b=>rI (Sl.shp h) n rfl<|MI (Ls:=[(FU q (l'[a.toNat]!.1) (l'[a.toNat]!.2.1) d e (l'[a.toNat]!.2.2.2.2.1) f (l'[a.toNat]!.2.2.2.2.2.2)),c]) 1 (En:=By) (g[a.toNat]!) x (a.toNat) 0 rfl rfl rfl h (Cs n) rfl rfl rfl (Ew rfl) rfl (fun z G=> ?_)
  refine Ah<|v _ _ ?_
  refine An<|kC b fun A b=>rX A rfl<|rz rfl<|fg _ (Sub.pick [(FU q (l'[a.toNat]!.1) (l'[a.toNat]!.2.1) d e (l'[a.toNat]!.2.2.2.2.1) f (l'[a.toNat]!.2.2.2.2.2.2)),z] [1] rfl) ?_
  exact⟨p+1,by omega,p,(g).set (a.toNat) x,(a+1),b,z,G,Aj rfl rfl,rfl⟩
 refine AT<|F _ _ ?_
 refine AZ rfl ?_
 cases b
 refine AO (fun M=>De (v0:=D) h (Cb (Sub.pick [c] [0] rfl)) rfl (BP rfl))
def Ck(_:Nat)(n:Int)(least:Int)(most:Int):Option Bool:=if n≥least then some (decide (n≤most))else some false
theorem IA(N n least most r)(a:Ck N n least most=some r):Gives prog 145 #[vI n,vI least,vI most] (vB r):=by
 unfold Ck at a
 refine Ao follows func145 rfl 15 rfl _ fz3 (fun d=> ?_)
 refine AZ rfl<|Ae fun e b=>An<|rn 4 rfl ?_
 rcases c:(decide (n≥least))with _|_
 ·replace a:=iF c a
  refine rz rfl<|b _ _ ?_
  cases a
  exact aR eE1
 replace a:=iD c a
 refine rz rfl<|b _ _ ?_
 cases a
 exact aR eE1
def Dl(N:Nat)(l':List ((List UInt8)×(List Int)×(List (Int×Int×Int×Int×BitVec 128))))(i:Int):Option Bool:=ck ((R64 ((l'.length:Int) - 1))) ((Au N i 0 ((l'.length:Int) - 1)).bind fun r4=>some r4)
theorem Gc(N l' i r)(a:Dl N l' i=some r)(ro l'v)(hl':RdN Dv ro l'v l'):Does prog 192 #[l'v,vI i] ro [] (pV (vB r)):=by
 unfold Dl at a
 refine Ag follows func192 rfl 10 rfl _ fz2 (fun b=> ?_)
 refine AZ rfl<|Aa<|rn 2 rfl<|rL (RdN.shp hl') rfl<|kC a fun c a=>rX c rfl<|kB a fun e d a=>rc _ (cF BI) (Ax N i 0 ((l'.length:Int) - 1) _ d)<|rz rfl ?_
 cases a
 exact aR eV1
def Gp(N:Nat)(_:Int)(a:Int)(c2_:AF):Option Int:=(Dl N c2_.2.2.2.2.2.1 a).bind fun r3=>(Al N r3 5).bind fun r5=>some r5
theorem MY(N x a c r)(f:Gp N x a c=some r)(ro)(d:Nat)(b:AE)(g:Bun59R ro b c)(e:Blk ro d (Ca c b)):Does prog 191 #[vI x,vI a,vP d 0] ro [] (pV (vI r)):=by
 unfold Gp at f
 refine Ag follows func191 rfl 12 rfl _ fz3 (fun h=> ?_)
 refine AZ rfl<|Aa<|rn 2 rfl<|Cz b.2.2.2.2.1 (vs:=(Ca c b)) (o:=5) rfl rfl (Az e) rfl<|rn 1 rfl<|kB f fun k i f=>gV _ (cF OH) (fun o w z_=>Gc N c.2.2.2.2.2.1 a _ i z_.view b.2.2.2.2.1 (RdN.mono z_.ro_cell g.2.2.2.2.1))<|kB f fun l j f=>rc _ (cF AI) (Ap N k 5 _ j)<|rz rfl ?_
 cases f
 exact aR eV1
def ES(N:Nat)(l':List Int)(ask0_:AF):Nat→Int→Option (Int×Int)
  |0,_=>none
  |n8+1,x1_=>if x1_<(l'.length:Int)then ck (0≤x1_∧x1_<(l'.length:Int)) ((Gp N x1_ (l'[x1_.toNat]!) ask0_).bind fun r16=>if(r16:Int)≠0 then some (x1_,r16)else ck (R64 (x1_+1)) ((ES N l' ask0_ n8) (x1_+1)))else some (0,0)
def JR(N:Nat)(l':List Int)(most:Int)(ask0_:AF):Option (Int×Int):=if(l'.length:Int)>most then some (0,2)else ES N l' ask0_ N 0
theorem Sa(N l' most c r)(b:JR N l' most c=some r)(ro l'v)(hl':Rd AX ro l'v l')(a:Nat)(d:AE)(g:Bun59R ro d c)(f:Blk ro a (Ca c d)):Does prog 89 #[l'v,vI most,vF 191 #[] #[vP a 0]] ro [] (pV (vT #[vI r.1,vI r.2])):=by
 unfold JR at b
 refine Ag follows func89 rfl 31 rfl _ fz3 (fun s=> ?_)
 refine AZ rfl<|Ae fun B u=>Aa<|rn 1 rfl<|rL (Rd.shp hl') rfl<|rz rfl<|aD b rfl (fun v b=> ?_) (fun v b=> ?_)
 ·refine AZ rfl ?_
  cases b
  exact aR eV2
 refine Ac<|u _ _ ?_
 refine Ae fun C x=>Aa<|rn 1 rfl<|rL (Rd.shp hl') rfl<|rz rfl<|Am<|AS (fun tt ll nn=> ∃(i:Nat) (e:Int),(ES N l' c i e=some r)∧Is [(2,vF 191 #[] #[vP a 0]),(15,l'v),(16,vI (l'.length:Int)),(17,vI e)] [] tt ll∧nn=i+1) (N+1) ?_ ?_
 ·exact⟨N,0,b,Aj rfl rfl,rfl⟩
 clear b;rintro t l _ ⟨i,e,b,⟨⟨T,rfl⟩,rfl⟩,rfl⟩
 rcases i with _|i
 ·exact absurd b (by simp [ES])
 rw [ES] at b
 refine AZ rfl<|Ae fun y j=>aD b rfl (fun k b=> ?_) (fun k b=> ?_)
 ·refine Ac<|j _ _ ?_
  refine Ae fun z m=>Am<|Aa<|rn 1 rfl<|kC b fun h b=>rI (Rd.shp hl') h rfl<|rE (AA hl') h 0 rfl<|rz rfl<|Aa<|rn 3 rfl<|kB b fun A n b=>gV _ (AV (caps:=[vP a 0]) rfl Wz rfl) (fun o w z_=>MY N e (l'[e.toNat]!) c _ n z_.view a d (Bun59R.mono z_.ro_cell g) (Az f o w z_))<|rz rfl<|AZ rfl<|aN b rfl (fun p b=> ?_) (fun p b=> ?_)
  ·refine AZ rfl ?_
   cases b
   exact aR eV2
  refine Ac<|m _ _ ?_
  refine An<|kC b fun q b=>rX q rfl<|rz rfl<|fg _ (Sub.of suN) ?_
  exact⟨i+1,by omega,i,(e+1),b,Aj rfl rfl,rfl⟩
 refine AT<|x _ _ ?_
 refine AZ rfl ?_
 cases b
 exact aR eV2
def BX(s:List Int)(v':Int):Nat→Int→Option Int
  |0,_=>none
  |n4+1,x1_=>if x1_<(s.length:Int)then ck (0≤x1_∧x1_<(s.length:Int)) (if v'=s[x1_.toNat]! then some x1_ else ck (R64 (x1_+1)) ((BX s v' n4) (x1_+1)))else some (-1)
def DF(N:Nat)(s:List Int)(v':Int):Option Int:=BX s v' N 0
theorem Jy(N s v' r)(a:DF N s v'=some r)(ro sv)(hs:Rd AX ro sv s):Does prog 154 #[sv,vI v'] ro [] (pV (vI r)):=by
 unfold DF at a
 refine Ag follows func154 rfl 19 rfl _ fz2 (fun g=> ?_)
 refine AZ rfl<|Ae fun m h=>Aa<|rn 1 rfl<|rL (Rd.shp hs) rfl<|rz rfl<|Am<|AS (fun tt ll nn=> ∃(d:Nat) (b:Int),(BX s v' d b=some r)∧Is [(0,sv),(1,vI v'),(7,vI (s.length:Int)),(8,vI b)] [] tt ll∧nn=d+1) (N+1) ?_ ?_
 ·exact⟨N,0,a,Aj rfl rfl,rfl⟩
 clear a;rintro t l _ ⟨d,b,a,⟨⟨T,rfl⟩,rfl⟩,rfl⟩
 rcases d with _|d
 ·exact absurd a (by simp [BX])
 rw [BX] at a
 refine AZ rfl<|Ae fun n i=>aD a rfl (fun j a=> ?_) (fun j a=> ?_)
 ·refine Ac<|i _ _ ?_
  refine Ae fun o k=>Am<|AZ rfl<|Aa<|rn 3 rfl<|kC a fun c a=>rI (Rd.shp hs) c rfl<|rE (AA hs) c 0 rfl<|rz rfl<|aE a rfl (fun e a=> ?_) (fun e a=> ?_)
  ·refine AZ rfl ?_
   cases a
   exact aR eV1
  refine Ac<|k _ _ ?_
  refine An<|kC a fun f a=>rX f rfl<|rz rfl<|fg _ (Sub.of suN) ?_
  exact⟨d+1,by omega,d,(b+1),a,Aj rfl rfl,rfl⟩
 refine AT<|h _ _ ?_
 refine AZ rfl ?_
 cases a
 exact aR eV1
def AU(N:Nat)(s:List Int)(v':Int):Option Bool:=(DF N s v').bind fun r3=>some (decide (r3≥0))
theorem CT(N s v' r)(a:AU N s v'=some r)(ro sv)(hs:Rd AX ro sv s):Does prog 91 #[sv,vI v'] ro [] (pV (vB r)):=by
 unfold AU at a
 refine Ag follows func91 rfl 9 rfl _ fz2 (fun b=> ?_)
 refine AZ rfl<|Aa<|rn 2 rfl<|kB a fun d c a=>gV _ (cF Xa) (fun o w z_=>Jy N s v' _ c z_.view sv (z_.r hs))<|rz rfl ?_
 cases a
 exact aR eV1
def Gn(N:Nat)(i:Int)(a:Int)(c2_:List Int):Option Int:=ck (0≤i∧i≤(c2_.length:Int)) ((AU N (((c2_).take (i.toNat)).drop 0) a).bind fun r4=>(Al N (!(r4)) 6).bind fun r6=>some r6)
theorem MX(N i a f r)(c:Gn N i a f=some r)(ro)(d:Nat)(b)(e:Rd AX ro b f)(g:Blk ro d [b]):Does prog 193 #[vI i,vI a,vP d 0] ro [] (pV (vI r)):=by
 unfold Gn at c
 refine Ag follows func193 rfl 13 rfl _ fz3 (fun j=> ?_)
 refine AZ rfl<|Aa<|Cz b (vs:=[b]) (o:=0) rfl rfl (Az g) rfl<|rn 1 rfl<|kC c fun h c=>r_W (Ch b 0 (i.toNat) 1) rfl (Cf (EI rfl rfl rfl rfl (Rd.shp e) h))<|rn 1 rfl<|kB c fun m k c=>gV _ (cF Ru) (fun o w z_=>CT N (((f).take (i.toNat)).drop 0) a _ k z_.view (Ch b 0 (i.toNat) 1) ((KX (AA e) (Nat.zero_le _) (Ee h.2)) o w z_))<|rn 1 rfl<|kB c fun n l c=>rc _ (cF AI) (Ap N (!(m)) 6 _ l)<|rz rfl ?_
 cases c
 exact aR eV1
def ER(N:Nat)(l':List Int)(ask0_:List Int):Nat→Int→Option (Int×Int)
  |0,_=>none
  |n8+1,x1_=>if x1_<(l'.length:Int)then ck (0≤x1_∧x1_<(l'.length:Int)) ((Gn N x1_ (l'[x1_.toNat]!) ask0_).bind fun r16=>if(r16:Int)≠0 then some (x1_,r16)else ck (R64 (x1_+1)) ((ER N l' ask0_ n8) (x1_+1)))else some (0,0)
def JQ(N:Nat)(l':List Int)(most:Int)(ask0_:List Int):Option (Int×Int):=if(l'.length:Int)>most then some (0,2)else ER N l' ask0_ N 0
theorem RZ(N l' most c r)(b:JQ N l' most c=some r)(ro l'v)(hl':Rd AX ro l'v l')(a:Nat)(d)(g:Rd AX ro d c)(f:Blk ro a [d]):Does prog 89 #[l'v,vI most,vF 193 #[] #[vP a 0]] ro [] (pV (vT #[vI r.1,vI r.2])):=by
 unfold JQ at b
 refine Ag follows func89 rfl 31 rfl _ fz3 (fun s=> ?_)
 refine AZ rfl<|Ae fun B u=>Aa<|rn 1 rfl<|rL (Rd.shp hl') rfl<|rz rfl<|aD b rfl (fun v b=> ?_) (fun v b=> ?_)
 ·refine AZ rfl ?_
  cases b
  exact aR eV2
 refine Ac<|u _ _ ?_
 refine Ae fun C x=>Aa<|rn 1 rfl<|rL (Rd.shp hl') rfl<|rz rfl<|Am<|AS (fun tt ll nn=> ∃(i:Nat) (e:Int),(ER N l' c i e=some r)∧Is [(2,vF 193 #[] #[vP a 0]),(15,l'v),(16,vI (l'.length:Int)),(17,vI e)] [] tt ll∧nn=i+1) (N+1) ?_ ?_
 ·exact⟨N,0,b,Aj rfl rfl,rfl⟩
 clear b;rintro t l _ ⟨i,e,b,⟨⟨T,rfl⟩,rfl⟩,rfl⟩
 rcases i with _|i
 ·exact absurd b (by simp [ER])
 rw [ER] at b
 refine AZ rfl<|Ae fun y j=>aD b rfl (fun k b=> ?_) (fun k b=> ?_)
 ·refine Ac<|j _ _ ?_
  refine Ae fun z m=>Am<|Aa<|rn 1 rfl<|kC b fun h b=>rI (Rd.shp hl') h rfl<|rE (AA hl') h 0 rfl<|rz rfl<|Aa<|rn 3 rfl<|kB b fun A n b=>gV _ (AV (caps:=[vP a 0]) rfl Wy rfl) (fun o w z_=>MX N e (l'[e.toNat]!) c _ n z_.view a d (z_.r g) (Az f o w z_))<|rz rfl<|AZ rfl<|aN b rfl (fun p b=> ?_) (fun p b=> ?_)
  ·refine AZ rfl ?_
   cases b
   exact aR eV2
  refine Ac<|m _ _ ?_
  refine An<|kC b fun q b=>rX q rfl<|rz rfl<|fg _ (Sub.of suN) ?_
  exact⟨i+1,by omega,i,(e+1),b,Aj rfl rfl,rfl⟩
 refine AT<|x _ _ ?_
 refine AZ rfl ?_
 cases b
 exact aR eV2
def Et(N:Nat)(c:AF)(l':List Int):Option Int:=(JR N l' 8 c).bind fun r5=>(JQ N l' 8 l').bind fun r8=>(Al N (decide ((l'.length:Int)>0)) 5).bind fun r11=>(Ay N ([r11,r5.2,r8.2])).bind fun r16=>some r16
theorem Pv(N c l' r)(a:Et N c l'=some r)(ro)(cv:AE)(hc:Bun59R ro cv c)(l'v)(hl':Rd AX ro l'v l'):Does prog 146 #[vA (Ab c cv),l'v] ro [] (pV (vI r)):=by
 unfold Et at a
 refine Ag follows func146 rfl 29 rfl _ fz2 (fun f=> ?_)
 refine Aa<|rA rfl fun g=>r_a (27, #[l'v]) rfl rfl (Hp rfl (Rd.shp hl')) (fun h=> ?_) (.inr rfl)
 refine rz rfl<|Aa<|rm 1 [0] rfl<|r_W (vF 191 #[] #[vP g 0]) rfl (Db rfl)<|kB a fun q i a=>gV _ (cF Nj) (fun o w z_=>Sa N l' 8 c _ i z_.view l'v ((AA hl') o w z_) g cv (Bun59R.mono z_.ro_cell hc) (Bi 1 rfl rfl o w z_))<|rz rfl<|Aa<|rm 1 [0] rfl<|r_W (vF 193 #[] #[vP h 0]) rfl (Db rfl)<|kB a fun s j a=>gV _ (cF Nj) (fun o w z_=>RZ N l' 8 l' _ j z_.view l'v ((AA hl') o w z_) h l'v ((AA hl') o w z_) (Bi 0 rfl rfl o w z_))<|rz rfl<|Aa<|rm 1 [0] rfl<|rL (Rd.shp hl') rfl<|rn 1 rfl<|kB a fun b d a=>rc _ (cF AI) (Ap N (decide ((l'.length:Int)>0)) 5 _ d)<|rn 2 rfl<|gB (Ls:=[(Nc h l'v),[(g,90,(Ab c cv))]]) 44 AX [b,q.2,s.2] (fun l m n=> ?_)
 refine kB a fun p e a=>gV _ (cF Bx) (fun o w z_=>Bc N ([b,q.2,s.2]) _ e z_.view l ((Ar n (Af (Ls:=[(Nc h l'v),[(g,90,(Ab c cv))],m]) (k:=2) rfl rfl)) o w z_))<|rz rfl<|Cx [(4,vI p)] rfl (fun T=> ?_)
 cases a
 exact aR eV1
def Im(N:Nat)(i:Int)(v_0:Int)(v_1:BitVec 128)(c2_:List Int):Option Int:=ck (0≤i∧i<(c2_.length:Int)) ((Cu N v_0 v_1 (c2_[i.toNat]!)).bind fun r5=>(Al N r5 9).bind fun r7=>some r7)
theorem Py(N i v_0 v_1 e r)(b:Im N i v_0 v_1 e=some r)(ro)(c:Nat)(a)(d:Rd AX ro a e)(f:Blk ro c [a]):Does prog 195 #[vI i,vA #[vI v_0,U (hi v_1),U (lo v_1)],vP c 0] ro [] (pV (vI r)):=by
 unfold Im at b
 refine Ag follows func195 rfl 13 rfl _ fz3 (fun h=> ?_)
 refine Aa<|rA rfl fun n=>rz rfl<|Ae fun p j=>Js [] (by decide+kernel) (fun q=>AW)<|rm 1 [0] rfl<|Cz a (vs:=[a]) (o:=0) rfl rfl (Az f) rfl<|rn 1 rfl<|kC b fun g b=>rI (Rd.shp d) g rfl<|rE (AA d) g 0 rfl<|kB b fun m k b=>rc _ (cF OI) (HP N v_0 v_1 (e[i.toNat]!) _ k)<|kB b fun s l b=>rc _ (cF AI) (Ap N m 9 _ l)<|rz rfl<|j _ _ ?_
 cases b
 exact aR eV1
def EX(N:Nat)(l':List (Int×BitVec 128))(ask0_:List Int):Nat→Int→Option (Int×Int)
  |0,_=>none
  |n8+1,x1_=>if x1_<(l'.length:Int)then ck (0≤x1_∧x1_<(l'.length:Int)) ((Im N x1_ ((l'[x1_.toNat]!).1) ((l'[x1_.toNat]!).2) ask0_).bind fun r17=>if(r17:Int)≠0 then some (x1_,r17)else ck (R64 (x1_+1)) ((EX N l' ask0_ n8) (x1_+1)))else some (0,0)
def JV(N:Nat)(l':List (Int×BitVec 128))(most:Int)(ask0_:List Int):Option (Int×Int):=if(l'.length:Int)>most then some (0,2)else EX N l' ask0_ N 0
theorem Sg(N l' most c r)(b:JV N l' most c=some r)(ro l'v)(hl':Rd Fl ro l'v l')(a:Nat)(d)(g:Rd AX ro d c)(f:Blk ro a [d]):Does prog 194 #[l'v,vI most,vF 195 #[] #[vP a 0]] ro [] (pV (vT #[vI r.1,vI r.2])):=by
 unfold JV at b
 refine Ag follows func194 rfl 31 rfl _ fz3 (fun s=> ?_)
 refine AZ rfl<|Ae fun C u=>Aa<|rn 1 rfl<|rL (Rd.shp hl') rfl<|rz rfl<|aD b rfl (fun v b=> ?_) (fun v b=> ?_)
 ·refine AZ rfl ?_
  cases b
  exact aR eV2
 refine Ac<|u _ _ ?_
 refine Ae fun D x=>Aa<|rn 1 rfl<|rL (Rd.shp hl') rfl<|rz rfl<|Am<|AS (fun tt ll nn=> ∃(i:Nat) (e:Int),(EX N l' c i e=some r)∧Is [(2,vF 195 #[] #[vP a 0]),(15,l'v),(16,vI (l'.length:Int)),(17,vI e)] [] tt ll∧nn=i+1) (N+1) ?_ ?_
 ·exact⟨N,0,b,Aj rfl rfl,rfl⟩
 clear b;rintro t l _ ⟨i,e,b,⟨⟨T,rfl⟩,rfl⟩,rfl⟩
 rcases i with _|i
 ·exact absurd b (by simp [EX])
 rw [EX] at b
 refine AZ rfl<|Ae fun y j=>aD b rfl (fun k b=> ?_) (fun k b=> ?_)
 ·refine Ac<|j _ _ ?_
  refine Ae fun z m=>Am<|Aa<|rn 1 rfl<|kC b fun h b=>rI (Rd.shp hl') h rfl<|rE (AA hl') h 0 rfl<|rA rfl fun A=>ry [0] rfl<|Aa<|rm 3 [0] rfl<|kB b fun B n b=>gV _ (AV (caps:=[vP a 0]) rfl Ww rfl) (fun o w z_=>Py N e ((l'[e.toNat]!).1) ((l'[e.toNat]!).2) c _ n z_.view a d (z_.r g) (Az f o w z_))<|rz rfl<|AZ rfl<|aN b rfl (fun p b=> ?_) (fun p b=> ?_)
  ·refine AZ rfl ?_
   cases b
   exact aR eV2
  refine Ac<|m _ _ ?_
  refine An<|kC b fun q b=>rX q rfl<|rz rfl<|fg _ (Sub.of (suC _ suN)) ?_
  exact⟨i+1,by omega,i,(e+1),b,Aj rfl rfl,rfl⟩
 refine AT<|x _ _ ?_
 refine AZ rfl ?_
 cases b
 exact aR eV2
def EH(N:Nat)(c:AF)(action:Int)(l':List (Int×BitVec 128)):Option Int:=(Dl N c.2.2.2.2.2.1 action).bind fun r5=>if r5=true then ck (0≤action∧action<(c.2.2.2.2.2.1.length:Int)) (if(l'.length:Int)≠(((c.2.2.2.2.2.1)[action.toNat]!.2.1).length:Int)then some 2 else(JV N l' (l'.length:Int) ((c.2.2.2.2.2.1)[action.toNat]!.2.1)).bind fun r22=>some r22.2)else some 5
theorem MF(N c action l' r)(a:EH N c action l'=some r)(ro)(cv:AE)(hc:Bun59R ro cv c)(l'v)(hl':Rd Fl ro l'v l'):Does prog 147 #[vA (Ab c cv),vI action,l'v] ro [] (pV (vI r)):=by
 unfold EH at a
 refine Ag follows func147 rfl 37 rfl _ fz3 (fun k=> ?_)
 refine Aa<|rA rfl fun s=>rz rfl<|Ae fun u l=>Aa<|rm 4 [0] rfl<|kB a fun v m a=>gV _ (cF OH) (fun o w z_=>Gc N c.2.2.2.2.2.1 action _ m z_.view cv.2.2.2.2.1 (RdN.mono z_.ro_cell hc.2.2.2.2.1))<|rz rfl<|Ai _ rfl (fun f=> ?_) (fun f=> ?_)
 ·replace a:=ifn (Bool.eq_false_iff.1 (Cd f)) a
  refine AZ rfl ?_
  cases a
  exact aR eV1
 replace a:=ifp (Ce f) a
 refine Ac<|l _ _ ?_
 refine Aa<|rm 4 [0] rfl<|kC a fun d a=> ?_
 obtain⟨_,⟨e,n,b,q,rfl⟩,hat15⟩:=RdN.at (E:=Dv) hc.2.2.2.2.1 (Cs d)
 refine rI (RdN.shp hc.2.2.2.2.1) d rfl<|rF (RdN.shp hc.2.2.2.2.1) (Di d) rfl<|Nt e (vs:=[vS ((c.2.2.2.2.2.1)[action.toNat]!.1),e,n]) (action.toNat*3) 1 rfl rfl (fun o w z_=>At.mono z_.ro_cell hat15) rfl<|rA rfl fun g=>r_s [(g,27, #[e]),(s,90,(Ab c cv))] 0 _ _ _ _ _ (#[e]) rfl rfl rfl (BZ rfl (Rd.shp b)) (.ofS rfl rfl (Ad (Shp.one (Rd.shp b)) Bf)) rfl rfl<|Ah<|Ae fun t h=>Aa<|rn 1 rfl<|rL (Rd.shp hl') rfl<|rm 1 [0] rfl<|rL (Rd.shp b) rfl<|rz rfl ?_
 refine aN a rfl (fun i a=> ?_) (fun i a=> ?_)
 ·refine AZ rfl ?_
  cases a
  exact aR eV1
 refine Ac<|h _ _ ?_
 refine Aa<|rn 2 rfl<|rL (Rd.shp hl') rfl<|r_W (vF 195 #[] #[vP g 0]) rfl (Db rfl)<|kB a fun p j a=>gV _ (cF Wx) (fun o w z_=>Sg N l' (l'.length:Int) ((c.2.2.2.2.2.1)[action.toNat]!.2.1) _ j z_.view l'v ((AA hl') o w z_) g e (z_.r b) (Bi 0 rfl rfl o w z_))<|rz rfl<|Cx [(9,vI p.2)] rfl (fun T=> ?_)
 refine AZ rfl ?_
 cases a
 exact aR eV1
def Fc(N:Nat)(c:AF)(_:List UInt8)(x_1:Int)(x_2:List (Int×Int×Int))(x_3:List Int)(x_4:Int)(x_5:List (Int×BitVec 128))(x_6:Int):Option Int:=(Ck N x_1 0 3).bind fun r5=>(Al N r5 10).bind fun r7=>(Al N (decide ((x_2.length:Int)>0)) 5).bind fun r9=>(DU N c x_2 2).bind fun r11=>(Et N c x_3).bind fun r13=>(AU N x_3 x_4).bind fun r15=>(Al N r15 16).bind fun r17=>(EH N c x_4 x_5).bind fun r19=>(Au N x_6 1 256).bind fun r21=>(Al N r21 7).bind fun r23=>(Ay N ([r7,r9,r11,r13,r17,r19,r23])).bind fun r28=>some r28
theorem QE(N c x_0 x_1 x_2 x_3 x_4 x_5 x_6 r)(a:Fc N c x_0 x_1 x_2 x_3 x_4 x_5 x_6=some r)(ro)(cv:AE)(hc:Bun59R ro cv c)(x_2v)(hx_2:Rd CN ro x_2v x_2)(x_3v)(hx_3:Rd AX ro x_3v x_3)(x_5v)(hx_5:Rd Fl ro x_5v x_5):DoesI prog 87 #[vA (Ab c cv),vA #[vS x_0,vI x_1,x_2v,x_3v,vI x_4,x_5v,vI x_6]] CR ro [] (pV (vI r)):=by
 unfold Fc at a
 refine AC follows func87 rfl 43 rfl _ fz2 AG (fun H=> ?_)
 refine Aa<|rA rfl fun S=>rA rfl fun U=>rz rfl<|Ae fun W I=> ?_
 refine Bt [(some 17,false),(some 21,false),(some 27,false),(some 36,false),(some 41,false),(some 42,false)] (conG prog [(17,cV (DU N c x_2 2) fun b=>vI b),(21,cV (Et N c x_3) fun b=>vI b),(27,cV (AU N x_3 x_4) fun b=>vB b),(36,cV (EH N c x_4 x_5) fun b=>vI b),(42,fun _ _ v_ L_ U_=> ∀b,Ck N x_1 0 3=some b→ ∀y,Al N b 10=some y→ ∀z,Al N (decide ((x_2.length:Int)>0)) 5=some z→ ∀A,DU N c x_2 2=some A→ ∀B,Et N c x_3=some B→ ∀C,AU N x_3 x_4=some C→ ∀D,Al N C 16=some D→ ∀E,EH N c x_4 x_5=some E→ ∀F,Au N x_6 1 256=some F→ ∀G,Al N F 7=some G→ ∀n,Ay N ([y,z,A,B,D,E,G])=some n→(pV (vI n)) v_ L_ U_)]) [] (by decide+kernel) (fun X=>AW) ?_
 refine rm 2 [0] rfl<|kB a fun V p a=>rc _ (cF Xi) (IA N x_1 0 3 _ p)<|kB a fun J q a=>rc _ (cF AI) (Ap N V 10 _ q)<|rm 2 [0] rfl<|rL (Rd.shp hx_2) rfl<|rn 1 rfl<|kB a fun K h a=>rc _ (cF AI) (Ap N (decide ((x_2.length:Int)>0)) 5 _ h)<|rm 3 [1,0] rfl<|kB a fun s d a=>rg _ (cF SY) (fun o w z_=>NZ N c x_2 2 _ d z_.view cv (Bun59R.mono z_.ro_cell hc) x_2v (z_.r hx_2)) (DA d)<|rm 3 [1,0] rfl<|kB a fun t e a=>rg _ (cF Xh) (fun o w z_=>(Does.inv (Pv N c x_3 _ e z_.view cv (Bun59R.mono z_.ro_cell hc) x_3v (z_.r hx_3)) _)) (DA e)<|rm 5 [0,0] rfl<|kB a fun L f a=>rg _ (cF Ru) (fun o w z_=>(Does.inv (CT N x_3 x_4 _ f z_.view x_3v (z_.r hx_3)) _)) (DA f)<|kB a fun u i a=>rc _ (cF AI) (Ap N L 16 _ i)<|rm 7 [1,0,0] rfl<|kB a fun v g a=>rg _ (cF SX) (fun o w z_=>(Does.inv (MF N c x_4 x_5 _ g z_.view cv (Bun59R.mono z_.ro_cell hc) x_5v (z_.r hx_5)) _)) (DA g)<|rm 2 [0] rfl<|kB a fun M j a=>rc _ (cF BI) (Ax N x_6 1 256 _ j)<|kB a fun x l a=>rc _ (cF AI) (Ap N M 7 _ l) ?_
 refine FY (Ls:=[(FU U x_0 x_1 x_2v x_3v x_4 x_5v x_6),[(S,90,(Ab c cv))]]) 44 AX [J,K,s,t,u,v,x] [vI J,vI K,vI s,vI t,vI u,vI v,vI x] [vI 0,vI 0,vI 0,vI 0,vI 0,vI 0,vI 0] rfl rfl rfl rfl rfl rfl rfl (by kernel_rfl) (by kernel_rfl) rfl rfl rfl (fun O P Q=> ?_)
 refine kB a fun R m a=>rg _ (cF Bx) (fun o w z_=>(Does.inv (Bc N ([J,K,s,t,u,v,x]) _ m z_.view O ((Ar Q (Af (Ls:=[(FU U x_0 x_1 x_2v x_3v x_4 x_5v x_6),[(S,90,(Ab c cv))],P]) (k:=2) rfl rfl)) o w z_)) _)) (fun _ _ v_ L_ U_=>⟨fun h_=>h_ _ p _ q _ h _ d _ e _ f _ i _ g _ j _ l _ m,fun h_=>by intro _ e_;cases Option.some.inj (e_.symm.trans p);intro _ e_;cases Option.some.inj (e_.symm.trans q);intro _ e_;cases Option.some.inj (e_.symm.trans h);intro _ e_;cases Option.some.inj (e_.symm.trans d);intro _ e_;cases Option.some.inj (e_.symm.trans e);intro _ e_;cases Option.some.inj (e_.symm.trans f);intro _ e_;cases Option.some.inj (e_.symm.trans i);intro _ e_;cases Option.some.inj (e_.symm.trans g);intro _ e_;cases Option.some.inj (e_.symm.trans j);intro _ e_;cases Option.some.inj (e_.symm.trans l);intro _ e_;cases Option.some.inj (e_.symm.trans m);exact h_⟩) ?_
 refine rz rfl<|I _ _ ?_
 refine Cx [(4,vI R)] rfl (fun T=> ?_)
 cases a
 exact aR eV1
def Gd(N:Nat)(i:Int)(x_0:List UInt8)(x_1:Int)(x_2:List (Int×Int×Int))(x_3:List Int)(x_4:Int)(x_5:List (Int×BitVec 128))(x_6:Int)(c2_:List (List UInt8))(c3_p0_0_:AF):Option Int:=ck (0≤i∧i<(c2_.length:Int)) ((BT N (c2_[i.toNat]!)).bind fun r5=>(Al N r5 4).bind fun r7=>(AH N c2_ i).bind fun r9=>(Fc N c3_p0_0_ x_0 x_1 x_2 x_3 x_4 x_5 x_6).bind fun r11=>(Ay N ([r7,r9,r11])).bind fun r16=>some r16)
theorem ML(N i x_0 x_1 x_2 x_3 x_4 x_5 x_6 b c3_p0_0_ r)(c:Gd N i x_0 x_1 x_2 x_3 x_4 x_5 x_6 b c3_p0_0_=some r)(ro x_2v)(hx_2:Rd CN ro x_2v x_2)(x_3v)(hx_3:Rd AX ro x_3v x_3)(x_5v)(hx_5:Rd Fl ro x_5v x_5)(l:Nat)(a)(g:Rd By ro a b)(h:Blk ro l [a])(m:Nat)(c3_p0_0_v:AE)(hc3_p0_0_:Bun59R ro c3_p0_0_v c3_p0_0_)(n:Blk ro m [vF 87 #[vA (Ab c3_p0_0_ c3_p0_0_v)] #[]]):DoesI prog 144 #[vI i,vA #[vS x_0,vI x_1,x_2v,x_3v,vI x_4,x_5v,vI x_6],vP l 0,vP m 0] CR ro [] (pV (vI r)):=by
 unfold Gd at c
 refine AC follows func144 rfl 21 rfl _ fz4 AG (fun z=> ?_)
 refine Aa<|rA rfl fun G=>rz rfl<|Ae fun J A=> ?_
 refine Bt [(some 15,false),(some 18,false),(some 19,false),(some 20,false)] (conG prog [(15,cV (AH N b i) fun f=>vI f),(18,cV (Fc N c3_p0_0_ x_0 x_1 x_2 x_3 x_4 x_5 x_6) fun f=>vI f),(20,fun _ _ v_ L_ U_=> ∀f,BT N (b[i.toNat]!)=some f→ ∀t,Al N f 4=some t→ ∀u,AH N b i=some u→ ∀v,Fc N c3_p0_0_ x_0 x_1 x_2 x_3 x_4 x_5 x_6=some v→ ∀x,Ay N ([t,u,v])=some x→(pV (vI x)) v_ L_ U_)]) [] (by decide+kernel) (fun K=>AW) ?_
 refine Cz a (vs:=[a]) (o:=0) rfl rfl (Az h) rfl<|rn 1 rfl<|kC c fun y c=>rI (Rd.shp g) y rfl<|rE (AA g) y 0 rfl<|kB c fun H p c=>rc _ (cF Ho) (Fy N (b[i.toNat]!) _ p)<|kB c fun B q c=>rc _ (cF AI) (Ap N H 4 _ q)<|Cz a (vs:=[a]) (o:=0) rfl rfl (Az h) rfl<|rn 1 rfl<|kB c fun C d c=>rg _ (cF HF) (fun o w z_=>(Does.inv (CL N b i _ d z_.view a (z_.r g)) _)) (DA d)<|Cz (vF 87 #[vA (Ab c3_p0_0_ c3_p0_0_v)] #[]) (vs:=[vF 87 #[vA (Ab c3_p0_0_ c3_p0_0_v)] #[]]) (o:=0) rfl rfl (Az n) rfl<|rm 1 [0] rfl<|kB c fun s e c=>rg _ (BS (bd:=[vA (Ab c3_p0_0_ c3_p0_0_v)]) (caps:=[]) rfl YK rfl) (fun o w z_=>QE N c3_p0_0_ x_0 x_1 x_2 x_3 x_4 x_5 x_6 _ e z_.view c3_p0_0_v (Bun59R.mono z_.ro_cell hc3_p0_0_) x_2v (z_.r hx_2) x_3v (z_.r hx_3) x_5v (z_.r hx_5)) (DA e) ?_
 refine FY (Ls:=[(FU G x_0 x_1 x_2v x_3v x_4 x_5v x_6)]) 44 AX [B,C,s] [vI B,vI C,vI s] [vI 0,vI 0,vI 0] rfl rfl rfl rfl rfl rfl rfl (by kernel_rfl) (by kernel_rfl) rfl rfl rfl (fun D E F=> ?_)
 refine kB c fun I j c=>rg _ (cF Bx) (fun o w z_=>(Does.inv (Bc N ([B,C,s]) _ j z_.view D ((Ar F (Af (Ls:=[(FU G x_0 x_1 x_2v x_3v x_4 x_5v x_6),E]) (k:=1) rfl rfl)) o w z_)) _)) (fun _ _ v_ L_ U_=>⟨fun h_=>h_ _ p _ q _ d _ e _ j,fun h_=>by intro _ e_;cases Option.some.inj (e_.symm.trans p);intro _ e_;cases Option.some.inj (e_.symm.trans q);intro _ e_;cases Option.some.inj (e_.symm.trans d);intro _ e_;cases Option.some.inj (e_.symm.trans e);intro _ e_;cases Option.some.inj (e_.symm.trans j);exact h_⟩) ?_
 refine rz rfl<|A _ _ ?_
 cases c
 exact aR eV1
def DQ(N:Nat)(l':List ((List UInt8)×Int×(List (Int×Int×Int))×(List Int)×Int×(List (Int×BitVec 128))×Int))(ask0_:List (List UInt8))(ask1_p0_0_:AF):Nat→Int→Option (Int×Int)
  |0,_=>none
  |n8+1,x1_=>if x1_<(l'.length:Int)then ck (0≤x1_∧x1_<(l'.length:Int)) ((Gd N x1_ (l'[x1_.toNat]!.1) (l'[x1_.toNat]!.2.1) (l'[x1_.toNat]!.2.2.1) (l'[x1_.toNat]!.2.2.2.1) (l'[x1_.toNat]!.2.2.2.2.1) (l'[x1_.toNat]!.2.2.2.2.2.1) (l'[x1_.toNat]!.2.2.2.2.2.2) ask0_ ask1_p0_0_).bind fun r24=>if(r24:Int)≠0 then some (x1_,r24)else ck (R64 (x1_+1)) ((DQ N l' ask0_ ask1_p0_0_ n8) (x1_+1)))else some (0,0)
def Ib(N:Nat)(l':List ((List UInt8)×Int×(List (Int×Int×Int))×(List Int)×Int×(List (Int×BitVec 128))×Int))(most:Int)(ask0_:List (List UInt8))(ask1_p0_0_:AF):Option (Int×Int):=if(l'.length:Int)>most then some (0,2)else DQ N l' ask0_ ask1_p0_0_ N 0
theorem Pm(N l' most e ask1_p0_0_ r)(d:Ib N l' most e ask1_p0_0_=some r)(ro l'v)(hl':RdN Ea ro l'v l')(b:Nat)(f)(m:Rd By ro f e)(g:Blk ro b [f])(c:Nat)(ask1_p0_0_v:AE)(hask1_p0_0_:Bun59R ro ask1_p0_0_v ask1_p0_0_)(h:Blk ro c [vF 87 #[vA (Ab ask1_p0_0_ ask1_p0_0_v)] #[]]):DoesI prog 143 #[l'v,vI most,vF 144 #[] #[vP b 0,vP c 0]] CR ro [] (pV (vT #[vI r.1,vI r.2])):=by
 unfold Ib at d
 refine AC follows func143 rfl 31 rfl _ fz3 AG (fun C=> ?_)
 refine AZ rfl<|Ae fun L D=>Aa<|rn 1 rfl<|rL (RdN.shp hl') rfl<|rz rfl<|aD d rfl (fun F d=> ?_) (fun F d=> ?_)
 ·refine AZ rfl ?_
  cases d
  exact aR eV2
 refine Ac<|D _ _ ?_
 refine Ae fun M G=>Aa<|rn 1 rfl<|rL (RdN.shp hl') rfl<|rz rfl<|Am<|AS (fun tt ll nn=> ∃(u:Nat) (a:Int),(DQ N l' e ask1_p0_0_ u a=some r)∧Is [(2,vF 144 #[] #[vP b 0,vP c 0]),(15,l'v),(16,vI (l'.length:Int)),(17,vI a)] [] tt ll∧nn=u+1) (N+1) ?_ ?_
 ·exact⟨N,0,d,Aj rfl rfl,rfl⟩
 clear d;rintro t l _ ⟨u,a,d,⟨⟨T,rfl⟩,rfl⟩,rfl⟩
 rcases u with _|u
 ·exact absurd d (by simp [DQ])
 rw [DQ] at d
 refine AZ rfl<|Ae fun I v=>aD d rfl (fun x d=> ?_) (fun x d=> ?_)
 ·refine Ac<|v _ _ ?_
  refine Ae fun J y=>Am<|Aa<|rn 1 rfl<|kC d fun n d=> ?_
  obtain⟨_,⟨i,j,k,p,q,s,rfl⟩,hat21⟩:=RdN.at (E:=Ea) hl' (Cs n)
  refine rI (RdN.shp hl') n rfl<|Nt (vA #[vS (l'[a.toNat]!.1),vI (l'[a.toNat]!.2.1),i,j,vI (l'[a.toNat]!.2.2.2.2.1),k,vI (l'[a.toNat]!.2.2.2.2.2.2)]) (vs:=[vS (l'[a.toNat]!.1),vI (l'[a.toNat]!.2.1),i,j,vI (l'[a.toNat]!.2.2.2.2.1),k,vI (l'[a.toNat]!.2.2.2.2.2.2)]) (a.toNat*7) 0 rfl rfl (fun o w z_=>At.mono z_.ro_cell hat21) rfl<|rA rfl fun H=>rn 1 rfl<|r_s (FU H (l'[a.toNat]!.1) (l'[a.toNat]!.2.1) i j (l'[a.toNat]!.2.2.2.2.1) k (l'[a.toNat]!.2.2.2.2.2.2)) 0 _ _ _ _ _ (#[vS (l'[a.toNat]!.1),vI (l'[a.toNat]!.2.1),i,j,vI (l'[a.toNat]!.2.2.2.2.1),k,vI (l'[a.toNat]!.2.2.2.2.2.2)]) rfl rfl rfl rfl (.ofS rfl rfl (Ad rfl (Ad rfl (Ad (Shp.one (Rd.shp p)) (Ad (Shp.one (Rd.shp q)) (Ad rfl (Ad (Shp.one (Rd.shp s)) (Ad rfl Bf)))))))) rfl rfl<|Ah<|Aa<|rn 2 rfl ?_
  refine rm 1 [0] rfl<|kB d fun K z d=>gV _ (AV (caps:=[vP b 0,vP c 0]) rfl Xj rfl) (fun o w z_=>ML N a (l'[a.toNat]!.1) (l'[a.toNat]!.2.1) (l'[a.toNat]!.2.2.1) (l'[a.toNat]!.2.2.2.1) (l'[a.toNat]!.2.2.2.2.1) (l'[a.toNat]!.2.2.2.2.2.1) (l'[a.toNat]!.2.2.2.2.2.2) e ask1_p0_0_ _ z z_.view i (z_.r p) j (z_.r q) k (z_.r s) b f (z_.r m) (Az g o w z_) c ask1_p0_0_v (Bun59R.mono z_.ro_cell hask1_p0_0_) (Az h o w z_)) ?_
  refine rz rfl<|AZ rfl<|aN d rfl (fun A d=> ?_) (fun A d=> ?_)
  ·refine AZ rfl ?_
   cases d
   exact aR eV2
  refine Ac<|y _ _ ?_
  refine An<|kC d fun B d=>rX B rfl<|rz rfl<|fg _ (Sub.of (suC _ suN)) ?_
  exact⟨u+1,by omega,u,(a+1),d,Aj rfl rfl,rfl⟩
 refine AT<|G _ _ ?_
 refine AZ rfl ?_
 cases d
 exact aR eV2
def HS(N:Nat)(l':List ((List UInt8)×Int×(List (Int×Int×Int))×(List Int)×Int×(List (Int×BitVec 128))×Int))(most:Int)(ask0_:AF):Option (Int×Int):=(HX N l').bind fun r4=>(Ib N l' most r4 ask0_).bind fun r11=>some (r11.1,r11.2)
theorem Pd(N l' most b r)(d:HS N l' most b=some r)(ro l'v)(hl':RdN Ea ro l'v l')(a:AE)(c:Bun59R ro a b):DoesI prog 85 #[l'v,vI most,vF 86 #[] #[],vF 87 #[vA (Ab b a)] #[]] CR ro [] (pV (vT #[vI r.1,vI r.2])):=by
 unfold HS at d
 refine AC follows func85 rfl 20 rfl _ fz4 AG (fun g=> ?_)
 refine Aa<|rA rfl fun e=>rz rfl<|Aa<|rn 2 rfl<|kB d fun n j d=>gS (Ls:=[(NF e (vF 87 #[vA (Ab b a)] #[]))]) (cF Xl) (fun o w z_=>(Does.inv (Pi N l' _ j z_.view l'v (RdN.mono z_.ro_cell hl')) _)) (fun h m l=> ?_)
 refine rA rfl fun i=>r_s (List.flatten [(Ly i h),(NF e (vF 87 #[vA (Ab b a)] #[])),m]) 0 _ _ _ _ _ (#[h]) rfl rfl rfl (BZ rfl (Sl.shp l)) (.ofS rfl rfl (Ad (Shp.one (Sl.shp l)) Bf)) rfl rfl<|Ah<|Aa<|rn 2 rfl<|r_W (vF 144 #[] #[vP i 0,vP e 0]) rfl (Db rfl)<|kB d fun p f d=>gV _ (cF Xk) (fun o w z_=>Pm N l' most n b _ f z_.view l'v (RdN.mono z_.ro_cell hl') i h ((Ar l (Af (Ls:=[(Ly i h),(NF e (vF 87 #[vA (Ab b a)] #[])),m]) (k:=2) rfl rfl)) o w z_) (Bi 0 rfl rfl o w z_) e a (Bun59R.mono z_.ro_cell c) (Bi 1 rfl rfl o w z_))<|rz rfl ?_
 cases d
 exact aR eV2
def Ig(N:Nat)(c:AF):Option (Int×Int):=(HS N c.2.2.2.2.2.2.1 8 c).bind fun r4=>some (r4.1,r4.2)
theorem Pq(N c r)(a:Ig N c=some r)(ro)(cv:AE)(hc:Bun59R ro cv c):DoesI prog 40 #[vA (Ab c cv)] CR ro [] (pV (vT #[vI r.1,vI r.2])):=by
 unfold Ig at a
 refine AC follows func40 rfl 12 rfl _ fz1 AG (fun b=> ?_)
 refine Aa<|rA rfl fun e=>rz rfl<|Aa<|rm 4 [0,0] rfl<|r_W (vF 87 #[vA (Ab c cv)] #[]) rfl (Dj rfl rfl)<|kB a fun f d a=>gV _ (cF YM) (fun o w z_=>Pd N c.2.2.2.2.2.2.1 8 c _ d z_.view cv.2.2.2.2.2.1 (RdN.mono z_.ro_cell hc.2.2.2.2.2.1) cv (Bun59R.mono z_.ro_cell hc))<|rz rfl ?_
 cases a
 exact aR eV2
def GU(N:Nat)(l':List ((List UInt8)×Int×(List (Int×Int×Int))×(List Int)×Int×(List (Int×BitVec 128))×Int))(i:Int):Option Bool:=ck ((R64 ((l'.length:Int) - 1))) ((Au N i 0 ((l'.length:Int) - 1)).bind fun r4=>some r4)
theorem NO(N l' i r)(a:GU N l' i=some r)(ro l'v)(hl':RdN Ea ro l'v l'):Does prog 196 #[l'v,vI i] ro [] (pV (vB r)):=by
 unfold GU at a
 refine Ag follows func196 rfl 10 rfl _ fz2 (fun b=> ?_)
 refine AZ rfl<|Aa<|rn 2 rfl<|rL (RdN.shp hl') rfl<|kC a fun c a=>rX c rfl<|kB a fun e d a=>rc _ (cF BI) (Ax N i 0 ((l'.length:Int) - 1) _ d)<|rz rfl ?_
 cases a
 exact aR eV1
def CY(N:Nat)(c:AF)(x_0:Int)(x_1:Int)(_:List (Int×Int×Int×Int×BitVec 128))(_:List (Int×BitVec 128))(_:Int)(_:Int):Option Int:=if x_0=0 then(GU N c.2.2.2.2.2.2.1 x_1).bind fun r9=>(Al N r9 5).bind fun r11=>some r11 else if x_0=1 then(Al N (x_1==0) 5).bind fun r16=>some r16 else if x_0=2 then(Dl N c.2.2.2.2.2.1 x_1).bind fun r21=>(Al N r21 5).bind fun r23=>some r23 else if x_0=3 then(CQ N c x_1).bind fun r28=>(Al N r28 5).bind fun r30=>some r30 else some 10
theorem Ml(N c x_0 x_1 x_2 x_3 x_4 x_5 r)(a:CY N c x_0 x_1 x_2 x_3 x_4 x_5=some r)(ro)(cv:AE)(hc:Bun59R ro cv c)(x_2v:Value)(_hx_2:Rd Dz ro x_2v x_2)(x_3v:Value)(_hx_3:Rd Fl ro x_3v x_3):Does prog 150 #[vA (Ab c cv),vA #[vI x_0,vI x_1,x_2v,x_3v,vI x_4,vI x_5]] ro [] (pV (vI r)):=by
 unfold CY at a
 refine Ag follows func150 rfl 39 rfl _ fz2 (fun m=> ?_)
 refine Aa<|rA rfl fun z=>rA rfl fun A=>rz rfl<|Ae fun B n=>AY [0] rfl<|Am<|AZ rfl<|aE a rfl (fun p a=> ?_) (fun p a=> ?_)
 ·refine Aa<|rm 5 [1,0] rfl<|kB a fun t b a=>gV _ (cF Wv) (fun o w z_=>NO N c.2.2.2.2.2.2.1 x_1 _ b z_.view cv.2.2.2.2.2.1 (RdN.mono z_.ro_cell hc.2.2.2.2.2.1))<|kB a fun u d a=>rc _ (cF AI) (Ap N t 5 _ d)<|rz rfl ?_
  cases a
  exact aR eV1
 refine AZ rfl<|aE a rfl (fun e a=> ?_) (fun e a=> ?_)
 ·refine Aa<|rm 3 [0] rfl<|kB a fun v f a=>rc _ (cF AI) (Ap N (x_1==0) 5 _ f)<|rz rfl ?_
  cases a
  exact aR eV1
 refine AZ rfl<|aE a rfl (fun g a=> ?_) (fun g a=> ?_)
 ·refine Aa<|rm 5 [1,0] rfl<|kB a fun q h a=>gV _ (cF OH) (fun o w z_=>Gc N c.2.2.2.2.2.1 x_1 _ h z_.view cv.2.2.2.2.1 (RdN.mono z_.ro_cell hc.2.2.2.2.1))<|kB a fun x i a=>rc _ (cF AI) (Ap N q 5 _ i)<|rz rfl ?_
  cases a
  exact aR eV1
 refine AZ rfl<|aE a rfl (fun j a=> ?_) (fun j a=> ?_)
 ·refine Aa<|rm 4 [1,0] rfl<|kB a fun s k a=>gV _ (cF Rz) (fun o w z_=>HO N c x_1 _ k z_.view cv (Bun59R.mono z_.ro_cell hc))<|kB a fun y l a=>rc _ (cF AI) (Ap N s 5 _ l)<|rz rfl ?_
  cases a
  exact aR eV1
 refine Ac<|n _ _ ?_
 refine AZ rfl ?_
 cases a
 exact aR eV1
def Dr(N:Nat)(c:AF)(x_0:Int)(_:Int)(x_2:List (Int×Int×Int×Int×BitVec 128))(_:List (Int×BitVec 128))(_:Int)(_:Int):Option Int:=if x_0=1 then(EG N c ([]) x_2).bind fun r8=>some r8 else(Al N ((x_2.length:Int)==0) 4).bind fun r11=>some r11
theorem MU(N c x_0 x_1 x_2 x_3 x_4 x_5 r)(a:Dr N c x_0 x_1 x_2 x_3 x_4 x_5=some r)(ro)(cv:AE)(hc:Bun59R ro cv c)(x_2v)(hx_2:Rd Dz ro x_2v x_2)(x_3v:Value)(_hx_3:Rd Fl ro x_3v x_3):DoesI prog 151 #[vA (Ab c cv),vA #[vI x_0,vI x_1,x_2v,x_3v,vI x_4,vI x_5]] CR ro [] (pV (vI r)):=by
 unfold Dr at a
 refine AC follows func151 rfl 18 rfl _ fz2 AG (fun d=> ?_)
 refine Aa<|rA rfl fun i=>rA rfl fun j=>rz rfl<|Ae fun k e=>AY [0] rfl<|aE a rfl (fun f a=> ?_) (fun f a=> ?_)
 ·refine Aa<|rm 4 [1,0] rfl<|kB a fun l g a=>gV _ (cF RB) (fun o w z_=>JO N c ([]) x_2 _ g z_.view cv (Bun59R.mono z_.ro_cell hc) nS ((fun _ _ _=> .inl ⟨rfl,rfl⟩) o w z_) x_2v (z_.r hx_2))<|rz rfl ?_
  cases a
  exact aR eV1
 refine Ac<|e _ _ ?_
 refine Aa<|rm 2 [0] rfl<|rL (Rd.shp hx_2) rfl<|rn 1 rfl<|kB a fun h b a=>rc _ (cF AI) (Ap N ((x_2.length:Int)==0) 4 _ b)<|rz rfl ?_
 cases a
 exact aR eV1
def Ds(N:Nat)(c:AF)(x_0:Int)(x_1:Int)(_:List (Int×Int×Int×Int×BitVec 128))(x_3:List (Int×BitVec 128))(_:Int)(_:Int):Option Int:=if x_0=2 then(EH N c x_1 x_3).bind fun r8=>some r8 else(Al N ((x_3.length:Int)==0) 4).bind fun r11=>some r11
theorem MV(N c x_0 x_1 x_2 x_3 x_4 x_5 r)(a:Ds N c x_0 x_1 x_2 x_3 x_4 x_5=some r)(ro)(cv:AE)(hc:Bun59R ro cv c)(x_2v:Value)(_hx_2:Rd Dz ro x_2v x_2)(x_3v)(hx_3:Rd Fl ro x_3v x_3):Does prog 152 #[vA (Ab c cv),vA #[vI x_0,vI x_1,x_2v,x_3v,vI x_4,vI x_5]] ro [] (pV (vI r)):=by
 unfold Ds at a
 refine Ag follows func152 rfl 19 rfl _ fz2 (fun d=> ?_)
 refine Aa<|rA rfl fun i=>rA rfl fun j=>rz rfl<|Ae fun k e=>AY [0] rfl<|aE a rfl (fun f a=> ?_) (fun f a=> ?_)
 ·refine Aa<|rm 5 [1,0,0] rfl<|kB a fun l g a=>gV _ (cF SX) (fun o w z_=>MF N c x_1 x_3 _ g z_.view cv (Bun59R.mono z_.ro_cell hc) x_3v (z_.r hx_3))<|rz rfl ?_
  cases a
  exact aR eV1
 refine Ac<|e _ _ ?_
 refine Aa<|rm 2 [0] rfl<|rL (Rd.shp hx_3) rfl<|rn 1 rfl<|kB a fun h b a=>rc _ (cF AI) (Ap N ((x_3.length:Int)==0) 4 _ b)<|rz rfl ?_
 cases a
 exact aR eV1
def CV(N:Nat)(x_0:Int)(_:Int)(_:List (Int×Int×Int×Int×BitVec 128))(_:List (Int×BitVec 128))(x_4:Int)(x_5:Int)(at':Int)(end':Int):Option Int:=ck (R64 (at'+1)) ((Au N x_4 (at'+1) end').bind fun r5=>(Al N r5 12).bind fun r7=>if x_0=2 then(Al N (x_5==0) 4).bind fun r13=>(Ay N ([r13,r7])).bind fun r18=>some r18 else ck (R64 (at'+1)) ((Au N x_5 (at'+1) end').bind fun r22=>(Al N r22 12).bind fun r24=>(Ay N ([r7,r24])).bind fun r29=>some r29))
theorem Mh(N x_0 x_1 x_2 x_3 x_4 x_5 at' end' r)(a:CV N x_0 x_1 x_2 x_3 x_4 x_5 at' end'=some r)(ro:Ro)(x_2v:Value)(_hx_2:Rd Dz ro x_2v x_2)(x_3v:Value)(_hx_3:Rd Fl ro x_3v x_3):Does prog 153 #[vA #[vI x_0,vI x_1,x_2v,x_3v,vI x_4,vI x_5],vI at',vI end'] ro [] (pV (vI r)):=by
 unfold CV at a
 refine Ag follows func153 rfl 35 rfl _ fz3 (fun l=> ?_)
 refine Aa<|rA rfl fun m=>rz rfl<|Aa<|rm 3 [0] rfl<|kC a fun p a=>rX p rfl<|rn 1 rfl<|kB a fun C q a=>rc _ (cF BI) (Ax N x_4 (at'+1) end' _ q)<|kB a fun n s a=>rc _ (cF AI) (Ap N C 12 _ s)<|rz rfl<|Ae fun F t=>AY [0] rfl<|aE a rfl (fun b a=> ?_) (fun b a=> ?_)
 ·refine Aa<|rm 3 [0] rfl<|kB a fun c d a=>rc _ (cF AI) (Ap N (x_5==0) 4 _ d)<|rn 1 rfl<|gB (Ls:=[(GS m x_0 x_1 x_2v x_3v x_4 x_5)]) 44 AX [c,n] (fun u v x=> ?_)
  refine kB a fun D e a=>gV _ (cF Bx) (fun o w z_=>Bc N ([c,n]) _ e z_.view u ((Ar x (Af (Ls:=[(GS m x_0 x_1 x_2v x_3v x_4 x_5),v]) (k:=1) rfl rfl)) o w z_))<|rz rfl ?_
  cases a
  exact aR eV1
 refine Ac<|t _ _ ?_
 refine Aa<|rm 4 [0] rfl<|kC a fun f a=>rX f rfl<|rn 1 rfl<|kB a fun y g a=>rc _ (cF BI) (Ax N x_5 (at'+1) end' _ g)<|kB a fun h i a=>rc _ (cF AI) (Ap N y 12 _ i)<|gB (Ls:=[(GS m x_0 x_1 x_2v x_3v x_4 x_5)]) 44 AX [n,h] (fun z A B=> ?_)
 refine kB a fun E j a=>gV _ (cF Bx) (fun o w z_=>Bc N ([n,h]) _ j z_.view z ((Ar B (Af (Ls:=[(GS m x_0 x_1 x_2v x_3v x_4 x_5),A]) (k:=1) rfl rfl)) o w z_))<|rz rfl ?_
 cases a
 exact aR eV1
def He(N:Nat)(i:Int)(x_0:Int)(x_1:Int)(x_2:List (Int×Int×Int×Int×BitVec 128))(x_3:List (Int×BitVec 128))(x_4:Int)(x_5:Int)(c2_:AF)(c3_:List (Int×Int×(List (Int×Int×Int×Int×BitVec 128))×(List (Int×BitVec 128))×Int×Int)):Option Int:=(CY N c2_ x_0 x_1 x_2 x_3 x_4 x_5).bind fun r4=>(Dr N c2_ x_0 x_1 x_2 x_3 x_4 x_5).bind fun r6=>(Ds N c2_ x_0 x_1 x_2 x_3 x_4 x_5).bind fun r8=>(CV N x_0 x_1 x_2 x_3 x_4 x_5 i (c3_.length:Int)).bind fun r10=>(Ay N ([r4,r6,r8,r10])).bind fun r15=>some r15
theorem NY(N i x_0 x_1 x_2 x_3 x_4 x_5 a h r)(g:He N i x_0 x_1 x_2 x_3 x_4 x_5 a h=some r)(ro x_2v)(hx_2:Rd Dz ro x_2v x_2)(x_3v)(hx_3:Rd Fl ro x_3v x_3)(q:Nat)(b:AE)(j:Bun59R ro b a)(d:Blk ro q (Ca a b))(s:Nat)(e)(v:RdN CM ro e h)(t:Blk ro s [e]):DoesI prog 149 #[vI i,vA #[vI x_0,vI x_1,x_2v,x_3v,vI x_4,vI x_5],vP q 0,vP s 0] CR ro [] (pV (vI r)):=by
 unfold He at g
 refine AC follows func149 rfl 23 rfl _ fz4 AG (fun B=> ?_)
 refine Aa<|rA rfl fun J=>rz rfl<|Ae fun L C=> ?_
 refine Bt [(some 9,false),(some 12,false),(some 15,false),(some 20,false),(some 21,false),(some 22,false)] (conG prog [(9,cV (CY N a x_0 x_1 x_2 x_3 x_4 x_5) fun c=>vI c),(12,cV (Dr N a x_0 x_1 x_2 x_3 x_4 x_5) fun c=>vI c),(15,cV (Ds N a x_0 x_1 x_2 x_3 x_4 x_5) fun c=>vI c),(20,cV (CV N x_0 x_1 x_2 x_3 x_4 x_5 i (h.length:Int)) fun c=>vI c),(22,fun _ _ v_ L_ U_=> ∀c,CY N a x_0 x_1 x_2 x_3 x_4 x_5=some c→ ∀x,Dr N a x_0 x_1 x_2 x_3 x_4 x_5=some x→ ∀y,Ds N a x_0 x_1 x_2 x_3 x_4 x_5=some y→ ∀z,CV N x_0 x_1 x_2 x_3 x_4 x_5 i (h.length:Int)=some z→ ∀A,Ay N ([c,x,y,z])=some A→(pV (vI A)) v_ L_ U_)]) [] (by decide+kernel) (fun M=>AW) ?_
 refine Cz (vA (Ab a b)) (vs:=(Ca a b)) (o:=0) rfl rfl (Az d) rfl<|rm 1 [0] rfl<|kB g fun D m g=>rg _ (cF Xe) (fun o w z_=>(Does.inv (Ml N a x_0 x_1 x_2 x_3 x_4 x_5 _ m z_.view b (Bun59R.mono z_.ro_cell j) x_2v (z_.r hx_2) x_3v (z_.r hx_3)) _)) (DA m)<|Cz (vA (Ab a b)) (vs:=(Ca a b)) (o:=0) rfl rfl (Az d) rfl<|rm 1 [0] rfl<|kB g fun E n g=>rg _ (cF Xd) (fun o w z_=>MU N a x_0 x_1 x_2 x_3 x_4 x_5 _ n z_.view b (Bun59R.mono z_.ro_cell j) x_2v (z_.r hx_2) x_3v (z_.r hx_3)) (DA n)<|Cz (vA (Ab a b)) (vs:=(Ca a b)) (o:=0) rfl rfl (Az d) rfl<|rm 1 [0] rfl<|kB g fun F p g=>rg _ (cF Xc) (fun o w z_=>(Does.inv (MV N a x_0 x_1 x_2 x_3 x_4 x_5 _ p z_.view b (Bun59R.mono z_.ro_cell j) x_2v (z_.r hx_2) x_3v (z_.r hx_3)) _)) (DA p)<|rm 2 [0] rfl<|Cz e (vs:=[e]) (o:=0) rfl rfl (Az t) rfl<|rL (RdN.shp v) rfl<|kB g fun u f g=>rg _ (cF Xb) (fun o w z_=>(Does.inv (Mh N x_0 x_1 x_2 x_3 x_4 x_5 i (h.length:Int) _ f z_.view x_2v (z_.r hx_2) x_3v (z_.r hx_3)) _)) (DA f) ?_
 refine FY (Ls:=[(GS J x_0 x_1 x_2v x_3v x_4 x_5)]) 44 AX [D,E,F,u] [vI D,vI E,vI F,vI u] [vI 0,vI 0,vI 0,vI 0] rfl rfl rfl rfl rfl rfl rfl (by kernel_rfl) (by kernel_rfl) rfl rfl rfl (fun G H I=> ?_)
 refine kB g fun K l g=>rg _ (cF Bx) (fun o w z_=>(Does.inv (Bc N ([D,E,F,u]) _ l z_.view G ((Ar I (Af (Ls:=[(GS J x_0 x_1 x_2v x_3v x_4 x_5),H]) (k:=1) rfl rfl)) o w z_)) _)) (fun _ _ v_ L_ U_=>⟨fun h_=>h_ _ m _ n _ p _ f _ l,fun h_=>by intro _ e_;cases Option.some.inj (e_.symm.trans m);intro _ e_;cases Option.some.inj (e_.symm.trans n);intro _ e_;cases Option.some.inj (e_.symm.trans p);intro _ e_;cases Option.some.inj (e_.symm.trans f);intro _ e_;cases Option.some.inj (e_.symm.trans l);exact h_⟩) ?_
 refine rz rfl<|C _ _ ?_
 cases g
 exact aR eV1
def Ep(N:Nat)(l':List (Int×Int×(List (Int×Int×Int×Int×BitVec 128))×(List (Int×BitVec 128))×Int×Int))(ask0_:AF)(ask1_:List (Int×Int×(List (Int×Int×Int×Int×BitVec 128))×(List (Int×BitVec 128))×Int×Int)):Nat→Int→Option (Int×Int)
  |0,_=>none
  |n8+1,x1_=>if x1_<(l'.length:Int)then ck (0≤x1_∧x1_<(l'.length:Int)) ((He N x1_ (l'[x1_.toNat]!.1) (l'[x1_.toNat]!.2.1) (l'[x1_.toNat]!.2.2.1) (l'[x1_.toNat]!.2.2.2.1) (l'[x1_.toNat]!.2.2.2.2.1) (l'[x1_.toNat]!.2.2.2.2.2) ask0_ ask1_).bind fun r22=>if(r22:Int)≠0 then some (x1_,r22)else ck (R64 (x1_+1)) ((Ep N l' ask0_ ask1_ n8) (x1_+1)))else some (0,0)
def IY(N:Nat)(l':List (Int×Int×(List (Int×Int×Int×Int×BitVec 128))×(List (Int×BitVec 128))×Int×Int))(most:Int)(ask0_:AF)(ask1_:List (Int×Int×(List (Int×Int×Int×Int×BitVec 128))×(List (Int×BitVec 128))×Int×Int)):Option (Int×Int):=if(l'.length:Int)>most then some (0,2)else Ep N l' ask0_ ask1_ N 0
theorem QC(N l' most e f r)(d:IY N l' most e f=some r)(ro l'v)(hl':RdN CM ro l'v l')(b:Nat)(g:AE)(n:Bun59R ro g e)(i:Blk ro b (Ca e g))(c:Nat)(h)(p:RdN CM ro h f)(j:Blk ro c [h]):DoesI prog 148 #[l'v,vI most,vF 149 #[] #[vP b 0,vP c 0]] CR ro [] (pV (vT #[vI r.1,vI r.2])):=by
 unfold IY at d
 refine AC follows func148 rfl 31 rfl _ fz3 AG (fun D=> ?_)
 refine AZ rfl<|Ae fun M F=>Aa<|rn 1 rfl<|rL (RdN.shp hl') rfl<|rz rfl<|aD d rfl (fun G d=> ?_) (fun G d=> ?_)
 ·refine AZ rfl ?_
  cases d
  exact aR eV2
 refine Ac<|F _ _ ?_
 refine Ae fun O H=>Aa<|rn 1 rfl<|rL (RdN.shp hl') rfl<|rz rfl<|Am<|AS (fun tt ll nn=> ∃(v:Nat) (a:Int),(Ep N l' e f v a=some r)∧Is [(2,vF 149 #[] #[vP b 0,vP c 0]),(15,l'v),(16,vI (l'.length:Int)),(17,vI a)] [] tt ll∧nn=v+1) (N+1) ?_ ?_
 ·exact⟨N,0,d,Aj rfl rfl,rfl⟩
 clear d;rintro t l _ ⟨v,a,d,⟨⟨T,rfl⟩,rfl⟩,rfl⟩
 rcases v with _|v
 ·exact absurd d (by simp [Ep])
 rw [Ep] at d
 refine AZ rfl<|Ae fun J x=>aD d rfl (fun y d=> ?_) (fun y d=> ?_)
 ·refine Ac<|x _ _ ?_
  refine Ae fun K z=>Am<|Aa<|rn 1 rfl<|kC d fun q d=> ?_
  obtain⟨_,⟨k,m,s,u,rfl⟩,hat19⟩:=RdN.at (E:=CM) hl' (Cs q)
  refine rI (RdN.shp hl') q rfl<|Nt (vA #[vI (l'[a.toNat]!.1),vI (l'[a.toNat]!.2.1),k,m,vI (l'[a.toNat]!.2.2.2.2.1),vI (l'[a.toNat]!.2.2.2.2.2)]) (vs:=[vI (l'[a.toNat]!.1),vI (l'[a.toNat]!.2.1),k,m,vI (l'[a.toNat]!.2.2.2.2.1),vI (l'[a.toNat]!.2.2.2.2.2)]) (a.toNat*6) 0 rfl rfl (fun o w z_=>At.mono z_.ro_cell hat19) rfl<|rA rfl fun I=>rn 1 rfl<|r_s (GS I (l'[a.toNat]!.1) (l'[a.toNat]!.2.1) k m (l'[a.toNat]!.2.2.2.2.1) (l'[a.toNat]!.2.2.2.2.2)) 0 _ _ _ _ _ (#[vI (l'[a.toNat]!.1),vI (l'[a.toNat]!.2.1),k,m,vI (l'[a.toNat]!.2.2.2.2.1),vI (l'[a.toNat]!.2.2.2.2.2)]) rfl rfl rfl rfl (.ofS rfl rfl (Ad rfl (Ad rfl (Ad (Shp.one (Rd.shp s)) (Ad (Shp.one (Rd.shp u)) (Ad rfl (Ad rfl Bf))))))) rfl rfl<|Ah<|Aa<|rn 2 rfl ?_
  refine rm 1 [0] rfl<|kB d fun L A d=>gV _ (AV (caps:=[vP b 0,vP c 0]) rfl Xf rfl) (fun o w z_=>NY N a (l'[a.toNat]!.1) (l'[a.toNat]!.2.1) (l'[a.toNat]!.2.2.1) (l'[a.toNat]!.2.2.2.1) (l'[a.toNat]!.2.2.2.2.1) (l'[a.toNat]!.2.2.2.2.2) e f _ A z_.view k (z_.r s) m (z_.r u) b g (Bun59R.mono z_.ro_cell n) (Az i o w z_) c h (RdN.mono z_.ro_cell p) (Az j o w z_))<|rz rfl<|AZ rfl ?_
  refine aN d rfl (fun B d=> ?_) (fun B d=> ?_)
  ·refine AZ rfl ?_
   cases d
   exact aR eV2
  refine Ac<|z _ _ ?_
  refine An<|kC d fun C d=>rX C rfl<|rz rfl<|fg _ (Sub.of (suC _ suN)) ?_
  exact⟨v+1,by omega,v,(a+1),d,Aj rfl rfl,rfl⟩
 refine AT<|H _ _ ?_
 refine AZ rfl ?_
 cases d
 exact aR eV2
end Go.Proofs.YtajdpjdejpcgnaaGreatDoor
