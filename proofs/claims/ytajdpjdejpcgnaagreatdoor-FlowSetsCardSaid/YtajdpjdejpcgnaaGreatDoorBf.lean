import Derived.Test.YtajdpjdejpcgnaaGreatDoorBe
namespace Go.Proofs.YtajdpjdejpcgnaaGreatDoor
open Go Go.RowKit Go.Eng _root_.Go.Proofs.Tryz
set_option maxRecDepth 100000
set_option maxHeartbeats 80000000
abbrev GQ(b:Nat)(x0:Int)(x1:Int):List Bl:=[(b,261, #[vI x0,vI x1])]
abbrev Ku(b:Nat)(x0:List UInt8)(x1:Value)(x2:Int)(x3:Int)(x4:Int)(x5:Int):List Bl:=[(b,80, #[vS x0,x1,vI x2,vI x3,vI x4,vI x5])]
abbrev Iz(b:Nat)(x0:List UInt8)(x1:Int)(x2:Int):List Bl:=[(b,122, #[vS x0,vI x1,vI x2])]
abbrev NE(b:Nat)(x0:Value):List Bl:=[(b,184, #[x0])]
abbrev Iy(b:Nat)(x0:Value):List Bl:=[(b,149, #[x0])]
abbrev Lx(b:Nat)(x0:List UInt8)(x1:Int):List Bl:=[(b,125, #[vS x0,vI x1])]
abbrev ND(b:Nat)(x0:Value):List Bl:=[(b,187, #[x0])]
abbrev GR(b:Nat)(x0:List UInt8)(x1:Int)(x2:Int)(x3:Int):List Bl:=[(b,128, #[vS x0,vI x1,vI x2,vI x3])]
abbrev NC(b:Nat)(x0:Value):List Bl:=[(b,190, #[x0])]
abbrev Bo(b:Nat)(x0:Int)(x1:Int)(x2:Int):List Bl:=[(b,96, #[vI x0,vI x1,vI x2])]
def Gz(N:Nat)(c:AF)(l':List (Int×Int×(List (Int×Int×Int×Int×BitVec 128))×(List (Int×BitVec 128))×Int×Int)):Option (Int×Int):=(IY N l' 32 c l').bind fun r5=>some (r5.1,r5.2)
theorem LF(N c l' r)(a:Gz N c l'=some r)(ro)(cv:AE)(hc:Bun59R ro cv c)(l'v)(hl':RdN CM ro l'v l'):DoesI prog 88 #[vA (Ab c cv),l'v] CR ro [] (pV (vT #[vI r.1,vI r.2])):=by
 unfold Gz at a
 refine AC follows func88 rfl 11 rfl _ fz2 AG (fun b=> ?_)
 refine Aa<|rA rfl fun e=>r_a (53, #[l'v]) rfl rfl (Hp rfl (RdN.shp hl')) (fun f=> ?_) (.inr rfl)
 refine rz rfl<|Aa<|rm 1 [0] rfl<|r_W (vF 149 #[] #[vP e 0,vP f 0]) rfl (Db rfl)<|kB a fun g d a=>gV _ (cF Xg) (fun o w z_=>QC N l' 32 c l' _ d z_.view l'v (RdN.mono z_.ro_cell hl') e cv (Bun59R.mono z_.ro_cell hc) (Bi 1 rfl rfl o w z_) f l'v (RdN.mono z_.ro_cell hl') (Bi 0 rfl rfl o w z_))<|rz rfl ?_
 cases a
 exact aR eV2
def Hf(N:Nat)(c:AF):Option (Int×Int):=(Gz N c c.2.2.2.2.2.2.2.1).bind fun r4=>some (r4.1,r4.2)
theorem Ob(N c r)(a:Hf N c=some r)(ro)(cv:AE)(hc:Bun59R ro cv c):DoesI prog 41 #[vA (Ab c cv)] CR ro [] (pV (vT #[vI r.1,vI r.2])):=by
 unfold Hf at a
 refine AC follows func41 rfl 11 rfl _ fz1 AG (fun b=> ?_)
 refine Aa<|rA rfl fun e=>rz rfl<|Aa<|rm 4 [0,0] rfl<|kB a fun f d a=>gV _ (cF Uu) (fun o w z_=>LF N c c.2.2.2.2.2.2.2.1 _ d z_.view cv (Bun59R.mono z_.ro_cell hc) cv.2.2.2.2.2.2.1 (RdN.mono z_.ro_cell hc.2.2.2.2.2.2.1))<|rz rfl ?_
 cases a
 exact aR eV2
def Ik(N:Nat)(c:AF):Option (Int×Int):=(Gz N c c.2.2.2.2.2.2.2.2.1).bind fun r4=>some (r4.1,r4.2)
theorem Pu(N c r)(a:Ik N c=some r)(ro)(cv:AE)(hc:Bun59R ro cv c):DoesI prog 42 #[vA (Ab c cv)] CR ro [] (pV (vT #[vI r.1,vI r.2])):=by
 unfold Ik at a
 refine AC follows func42 rfl 11 rfl _ fz1 AG (fun b=> ?_)
 refine Aa<|rA rfl fun e=>rz rfl<|Aa<|rm 4 [0,0] rfl<|kB a fun f d a=>gV _ (cF Uu) (fun o w z_=>LF N c c.2.2.2.2.2.2.2.2.1 _ d z_.view cv (Bun59R.mono z_.ro_cell hc) cv.2.2.2.2.2.2.2.1 (RdN.mono z_.ro_cell hc.2.2.2.2.2.2.2.1))<|rz rfl ?_
 cases a
 exact aR eV2
def FE(N:Nat)(i:Int)(slot:Int)(c2_:AF):Option Int:=(CQ N c2_ slot).bind fun r3=>(Al N r3 5).bind fun r5=>ck (0≤i∧i≤(c2_.2.2.2.2.2.2.2.2.2.1.length:Int)) ((AU N (((c2_.2.2.2.2.2.2.2.2.2.1).take (i.toNat)).drop 0) slot).bind fun r8=>(Al N (!(r8)) 6).bind fun r10=>(Ay N ([r5,r10])).bind fun r15=>some r15)
theorem Mo(N i slot b r)(c:FE N i slot b=some r)(ro)(m:Nat)(a:AE)(e:Bun59R ro a b)(f:Blk ro m (Ca b a)):Does prog 90 #[vI i,vI slot,vP m 0] ro [] (pV (vI r)):=by
 unfold FE at c
 refine Ag follows func90 rfl 22 rfl _ fz3 (fun x=> ?_)
 refine AZ rfl<|Ae fun G y=> ?_
 refine Bt [(some 9,false),(some 17,false),(some 20,false),(some 21,false)] (conG prog [(9,cV (CQ N b slot) fun d=>vB d),(17,cV (AU N (((b.2.2.2.2.2.2.2.2.2.1).take (i.toNat)).drop 0) slot) fun d=>vB d),(21,fun _ _ v_ L_ U_=> ∀d,CQ N b slot=some d→ ∀q,Al N d 5=some q→ ∀s,AU N (((b.2.2.2.2.2.2.2.2.2.1).take (i.toNat)).drop 0) slot=some s→ ∀t,Al N (!(s)) 6=some t→ ∀u,Ay N ([q,t])=some u→(pV (vI u)) v_ L_ U_)]) [] (by decide+kernel) (fun H=>AW) ?_
 refine rn 1 rfl<|Cz (vA (Ab b a)) (vs:=(Ca b a)) (o:=0) rfl rfl (Az f) rfl<|rn 1 rfl<|kB c fun D j c=>rg _ (cF Rz) (fun o w z_=>HO N b slot _ j z_.view a (Bun59R.mono z_.ro_cell e)) (DA j)<|kB c fun z n c=>rc _ (cF AI) (Ap N D 5 _ n)<|rn 2 rfl<|Cz a.2.2.2.2.2.2.2.2.1 (vs:=(Ca b a)) (o:=9) rfl rfl (Az f) rfl<|rn 1 rfl<|kC c fun v c=>r_W (Ch a.2.2.2.2.2.2.2.2.1 0 (i.toNat) 1) rfl (Cf (EI rfl rfl rfl rfl (Rd.shp e.2.2.2.2.2.2.2.2.1) v))<|rn 1 rfl<|kB c fun E l c=>rg _ (cF Ru) (fun o w z_=>CT N (((b.2.2.2.2.2.2.2.2.2.1).take (i.toNat)).drop 0) slot _ l z_.view (Ch a.2.2.2.2.2.2.2.2.1 0 (i.toNat) 1) ((KX (AA e.2.2.2.2.2.2.2.2.1) (Nat.zero_le _) (Ee v.2)) o w z_)) (DA l)<|rn 1 rfl<|kB c fun p g c=>rc _ (cF AI) (Ap N (!(E)) 6 _ g) ?_
 refine FY (Ls:=[]) 44 AX [z,p] [vI z,vI p] [vI 0,vI 0] rfl rfl rfl rfl rfl rfl rfl (by kernel_rfl) (by kernel_rfl) rfl rfl rfl (fun A B C=> ?_)
 refine kB c fun F h c=>rg _ (cF Bx) (fun o w z_=>Bc N ([z,p]) _ h z_.view A ((Ar C (Af (Ls:=[B]) (k:=0) rfl rfl)) o w z_)) (fun _ _ v_ L_ U_=>⟨fun h_=>h_ _ j _ n _ l _ g _ h,fun h_=>by intro _ e_;cases Option.some.inj (e_.symm.trans j);intro _ e_;cases Option.some.inj (e_.symm.trans n);intro _ e_;cases Option.some.inj (e_.symm.trans l);intro _ e_;cases Option.some.inj (e_.symm.trans g);intro _ e_;cases Option.some.inj (e_.symm.trans h);exact h_⟩) ?_
 refine rz rfl<|y _ _ ?_
 cases c
 exact aR eV1
def EQ(N:Nat)(l':List Int)(ask0_:AF):Nat→Int→Option (Int×Int)
  |0,_=>none
  |n8+1,x1_=>if x1_<(l'.length:Int)then ck (0≤x1_∧x1_<(l'.length:Int)) ((FE N x1_ (l'[x1_.toNat]!) ask0_).bind fun r16=>if(r16:Int)≠0 then some (x1_,r16)else ck (R64 (x1_+1)) ((EQ N l' ask0_ n8) (x1_+1)))else some (0,0)
def JP(N:Nat)(l':List Int)(most:Int)(ask0_:AF):Option (Int×Int):=if(l'.length:Int)>most then some (0,2)else EQ N l' ask0_ N 0
theorem RY(N l' most c r)(b:JP N l' most c=some r)(ro l'v)(hl':Rd AX ro l'v l')(a:Nat)(d:AE)(g:Bun59R ro d c)(f:Blk ro a (Ca c d)):Does prog 89 #[l'v,vI most,vF 90 #[] #[vP a 0]] ro [] (pV (vT #[vI r.1,vI r.2])):=by
 unfold JP at b
 refine Ag follows func89 rfl 31 rfl _ fz3 (fun s=> ?_)
 refine AZ rfl<|Ae fun B u=>Aa<|rn 1 rfl<|rL (Rd.shp hl') rfl<|rz rfl<|aD b rfl (fun v b=> ?_) (fun v b=> ?_)
 ·refine AZ rfl ?_
  cases b
  exact aR eV2
 refine Ac<|u _ _ ?_
 refine Ae fun C x=>Aa<|rn 1 rfl<|rL (Rd.shp hl') rfl<|rz rfl<|Am<|AS (fun tt ll nn=> ∃(i:Nat) (e:Int),(EQ N l' c i e=some r)∧Is [(2,vF 90 #[] #[vP a 0]),(15,l'v),(16,vI (l'.length:Int)),(17,vI e)] [] tt ll∧nn=i+1) (N+1) ?_ ?_
 ·exact⟨N,0,b,Aj rfl rfl,rfl⟩
 clear b;rintro t l _ ⟨i,e,b,⟨⟨T,rfl⟩,rfl⟩,rfl⟩
 rcases i with _|i
 ·exact absurd b (by simp [EQ])
 rw [EQ] at b
 refine AZ rfl<|Ae fun y j=>aD b rfl (fun k b=> ?_) (fun k b=> ?_)
 ·refine Ac<|j _ _ ?_
  refine Ae fun z m=>Am<|Aa<|rn 1 rfl<|kC b fun h b=>rI (Rd.shp hl') h rfl<|rE (AA hl') h 0 rfl<|rz rfl<|Aa<|rn 3 rfl<|kB b fun A n b=>gV _ (AV (caps:=[vP a 0]) rfl YJ rfl) (fun o w z_=>Mo N e (l'[e.toNat]!) c _ n z_.view a d (Bun59R.mono z_.ro_cell g) (Az f o w z_))<|rz rfl<|AZ rfl<|aN b rfl (fun p b=> ?_) (fun p b=> ?_)
  ·refine AZ rfl ?_
   cases b
   exact aR eV2
  refine Ac<|m _ _ ?_
  refine An<|kC b fun q b=>rX q rfl<|rz rfl<|fg _ (Sub.of suN) ?_
  exact⟨i+1,by omega,i,(e+1),b,Aj rfl rfl,rfl⟩
 refine AT<|x _ _ ?_
 refine AZ rfl ?_
 cases b
 exact aR eV2
def Hh(N:Nat)(c:AF):Option (Int×Int):=(JP N c.2.2.2.2.2.2.2.2.2.1 32 c).bind fun r4=>some (r4.1,r4.2)
theorem Od(N c r)(a:Hh N c=some r)(ro)(cv:AE)(hc:Bun59R ro cv c):Does prog 43 #[vA (Ab c cv)] ro [] (pV (vT #[vI r.1,vI r.2])):=by
 unfold Hh at a
 refine Ag follows func43 rfl 11 rfl _ fz1 (fun b=> ?_)
 refine Aa<|rA rfl fun e=>rz rfl<|Aa<|rm 3 [0] rfl<|r_W (vF 90 #[] #[vP e 0]) rfl (Db rfl)<|kB a fun f d a=>gV _ (cF Nj) (fun o w z_=>RY N c.2.2.2.2.2.2.2.2.2.1 32 c _ d z_.view cv.2.2.2.2.2.2.2.2.1 ((AA hc.2.2.2.2.2.2.2.2.1) o w z_) e cv (Bun59R.mono z_.ro_cell hc) (Bi 0 rfl rfl o w z_))<|rz rfl ?_
 cases a
 exact aR eV2
def HL(N:Nat)(_:List UInt8)(h_1:List (List UInt8×Int))(_:Int)(_:Int)(_:Int)(_:Int)(f:Int):Option (Int×Bool):=ck ((R64 ((h_1.length:Int) - 1))) ((Cp N f 0 ((h_1.length:Int) - 1)).bind fun r6=>if r6=true then ck (0≤f∧f≤(h_1.length:Int)) ((Ko N (((h_1).take (f.toNat)).drop 0)).bind fun r12=>some (r12,true))else some (0,false))
theorem OY(N h_0 h_1 h_2 h_3 h_4 h_5 f r)(a:HL N h_0 h_1 h_2 h_3 h_4 h_5 f=some r)(ro h_1v)(hh_1:Rd BG ro h_1v h_1):Does prog 157 #[vA #[vS h_0,h_1v,vI h_2,vI h_3,vI h_4,vI h_5],vI f] ro [] (pV (vT #[vI r.1,vB r.2])):=by
 unfold HL at a
 refine Ag follows func157 rfl 18 rfl _ fz2 (fun e=> ?_)
 refine Aa<|rA rfl fun k=>rz rfl<|Ae fun l g=>Aa<|rm 3 [0] rfl<|rL (Rd.shp hh_1) rfl<|kC a fun h a=>rX h rfl<|kB a fun m i a=>rc _ (cF Ev) (CP N f 0 ((h_1.length:Int) - 1) _ i)<|rz rfl<|Ai _ rfl (fun c=> ?_) (fun c=> ?_)
 ·replace a:=ifn (Bool.eq_false_iff.1 (Cd c)) a
  refine AZ rfl ?_
  cases a
  exact aR eV2
 replace a:=ifp (Ce c) a
 refine Ac<|g _ _ ?_
 refine Aa<|rm 3 [0] rfl<|kC a fun b a=>r_W (Ch h_1v 0 (f.toNat) 2) rfl (Cf (EI rfl rfl rfl rfl (Rd.shp hh_1) b))<|kB a fun j d a=>gV _ (cF Te) (fun o w z_=>PF N (((h_1).take (f.toNat)).drop 0) _ d z_.view (Ch h_1v 0 (f.toNat) 2) ((KX (AA hh_1) (Nat.zero_le _) (Ee b.2)) o w z_))<|rz rfl ?_
 cases a
 exact aR eV2
def Ih(N:Nat)(_:Int)(x_0:Int)(x_1:Int)(c2_:AF):Option Int:=(Hu N c2_ x_0).bind fun r4=>(HL N r4.1 r4.2.1 r4.2.2.1 r4.2.2.2.1 r4.2.2.2.2.1 r4.2.2.2.2.2.1 x_1).bind fun r11=>(EP N c2_ x_0 x_1).bind fun r14=>(Al N r14.2 5).bind fun r17=>if r14.1=16 then ck (0≤r11.1∧r11.1≤9223372036854775807) ((Al N ((r11.1%16:Int)==0) 9).bind fun r28=>(Ay N ([r17,r28])).bind fun r33=>some r33)else(Al N false 9).bind fun r20=>(Ay N ([r17,r20])).bind fun r25=>some r25
theorem Pr(N x x_0 x_1 d r)(c:Ih N x x_0 x_1 d=some r)(ro)(h:Nat)(b:AE)(i:Bun59R ro b d)(e:Blk ro h (Ca d b)):Does prog 156 #[vI x,vA #[vI x_0,vI x_1],vP h 0] ro [] (pV (vI r)):=by
 unfold Ih at c
 refine Ag follows func156 rfl 49 rfl _ fz3 (fun F=> ?_)
 refine Aa<|rA rfl fun n=>rz rfl<|Aa<|rn 1 rfl<|Cz (vA (Ab d b)) (vs:=(Ca d b)) (o:=0) rfl rfl (Az e) rfl<|rm 2 [0] rfl<|kB c fun a G c=>gS (Ls:=[(GQ n x_0 x_1)]) (cF Th) (fun o w z_=>MC N d x_0 _ G z_.view b (Bun59R.mono z_.ro_cell i)) (fun j q O=> ?_)
 refine rn 3 rfl<|rA rfl fun s=>r_s (List.flatten [(Ku s a.1 j a.2.2.1 a.2.2.2.1 a.2.2.2.2.1 a.2.2.2.2.2.1),(GQ n x_0 x_1),q]) 0 _ _ _ _ _ (#[vS a.1,j,vI a.2.2.1,vI a.2.2.2.1,vI a.2.2.2.2.1,vI a.2.2.2.2.2.1]) rfl rfl rfl rfl (.ofS rfl rfl (Ad rfl (Ad (Shp.one (Sl.shp O)) (Ad rfl (Ad rfl (Ad rfl (Ad rfl Bf))))))) rfl rfl<|rz rfl<|Aa<|rm 3 [0,1] rfl<|kB c fun p t c=>gV _ (cF WX) (fun o w z_=>OY N a.1 a.2.1 a.2.2.1 a.2.2.2.1 a.2.2.2.2.1 a.2.2.2.2.2.1 x_1 _ t z_.view j ((Ar O (Af (Ls:=[(Ku s a.1 j a.2.2.1 a.2.2.2.1 a.2.2.2.2.1 a.2.2.2.2.2.1),(GQ n x_0 x_1),q]) (k:=2) rfl rfl)) o w z_))<|rz rfl<|Aa<|rn 1 rfl<|Cz (vA (Ab d b)) (vs:=(Ca d b)) (o:=0) rfl rfl (Az e) rfl<|rn 1 rfl ?_
 refine rm 3 [1,1] rfl<|kB c fun f u c=>gV _ (cF RA) (fun o w z_=>IW N d x_0 x_1 _ u z_.view b (Bun59R.mono z_.ro_cell i))<|rz rfl<|Cx [(8,vI p.1),(10,vI f.1),(11,vB f.2)] rfl (fun T=> ?_)
 refine Ae fun P l=>An<|rn 1 rfl<|kB c fun g v c=>rc _ (cF AI) (Ap N f.2 5 _ v)<|rn 3 rfl ?_
 rcases m:(f.1==16)with _|_
 ·replace c:=iG m c
  refine rn 4 rfl<|kB c fun y z c=>rc _ (cF AI) (Ap N false 9 _ z)<|gB (Ls:=[(Ku s a.1 j a.2.2.1 a.2.2.2.1 a.2.2.2.2.1 a.2.2.2.2.2.1),(GQ n x_0 x_1),q]) 44 AX [g,y] (fun H I J=> ?_)
  refine kB c fun Q A c=>gV _ (cF Bx) (fun o w z_=>Bc N ([g,y]) _ A z_.view H ((Ar J (Af (Ls:=[(Ku s a.1 j a.2.2.1 a.2.2.2.1 a.2.2.2.2.1 a.2.2.2.2.2.1),(GQ n x_0 x_1),q,I]) (k:=3) rfl rfl)) o w z_))<|rz rfl<|l _ _ ?_
  cases c
  exact aR eV1
 replace c:=iE m c
 refine rn 1 rfl<|r_y rfl<|kC c fun B c=>r_X (vI (p.1%16)) rfl (Ua B.1) rfl<|rn 2 rfl<|kB c fun C D c=>rc _ (cF AI) (Ap N ((p.1%16:Int)==0) 9 _ D)<|gB (Ls:=[(Ku s a.1 j a.2.2.1 a.2.2.2.1 a.2.2.2.2.1 a.2.2.2.2.2.1),(GQ n x_0 x_1),q]) 44 AX [g,C] (fun K L M=> ?_)
 refine kB c fun R E c=>gV _ (cF Bx) (fun o w z_=>Bc N ([g,C]) _ E z_.view K ((Ar M (Af (Ls:=[(Ku s a.1 j a.2.2.1 a.2.2.2.1 a.2.2.2.2.1 a.2.2.2.2.2.1),(GQ n x_0 x_1),q,L]) (k:=3) rfl rfl)) o w z_))<|rz rfl<|l _ _ ?_
 cases c
 exact aR eV1
def EY(N:Nat)(l':List (Int×Int))(ask0_:AF):Nat→Int→Option (Int×Int)
  |0,_=>none
  |n8+1,x1_=>if x1_<(l'.length:Int)then ck (0≤x1_∧x1_<(l'.length:Int)) ((Ih N x1_ ((l'[x1_.toNat]!).1) ((l'[x1_.toNat]!).2) ask0_).bind fun r17=>if(r17:Int)≠0 then some (x1_,r17)else ck (R64 (x1_+1)) ((EY N l' ask0_ n8) (x1_+1)))else some (0,0)
def JW(N:Nat)(l':List (Int×Int))(most:Int)(ask0_:AF):Option (Int×Int):=if(l'.length:Int)>most then some (0,2)else EY N l' ask0_ N 0
theorem Sh(N l' most c r)(b:JW N l' most c=some r)(ro l'v)(hl':Rd FO ro l'v l')(a:Nat)(d:AE)(g:Bun59R ro d c)(f:Blk ro a (Ca c d)):Does prog 155 #[l'v,vI most,vF 156 #[] #[vP a 0]] ro [] (pV (vT #[vI r.1,vI r.2])):=by
 unfold JW at b
 refine Ag follows func155 rfl 31 rfl _ fz3 (fun s=> ?_)
 refine AZ rfl<|Ae fun C u=>Aa<|rn 1 rfl<|rL (Rd.shp hl') rfl<|rz rfl<|aD b rfl (fun v b=> ?_) (fun v b=> ?_)
 ·refine AZ rfl ?_
  cases b
  exact aR eV2
 refine Ac<|u _ _ ?_
 refine Ae fun D x=>Aa<|rn 1 rfl<|rL (Rd.shp hl') rfl<|rz rfl<|Am<|AS (fun tt ll nn=> ∃(i:Nat) (e:Int),(EY N l' c i e=some r)∧Is [(2,vF 156 #[] #[vP a 0]),(15,l'v),(16,vI (l'.length:Int)),(17,vI e)] [] tt ll∧nn=i+1) (N+1) ?_ ?_
 ·exact⟨N,0,b,Aj rfl rfl,rfl⟩
 clear b;rintro t l _ ⟨i,e,b,⟨⟨T,rfl⟩,rfl⟩,rfl⟩
 rcases i with _|i
 ·exact absurd b (by simp [EY])
 rw [EY] at b
 refine AZ rfl<|Ae fun y j=>aD b rfl (fun k b=> ?_) (fun k b=> ?_)
 ·refine Ac<|j _ _ ?_
  refine Ae fun z m=>Am<|Aa<|rn 1 rfl<|kC b fun h b=>rI (Rd.shp hl') h rfl<|rE (AA hl') h 0 rfl<|rA rfl fun A=>ry [0] rfl<|Aa<|rm 3 [0] rfl<|kB b fun B n b=>gV _ (AV (caps:=[vP a 0]) rfl WY rfl) (fun o w z_=>Pr N e ((l'[e.toNat]!).1) ((l'[e.toNat]!).2) c _ n z_.view a d (Bun59R.mono z_.ro_cell g) (Az f o w z_))<|rz rfl<|AZ rfl<|aN b rfl (fun p b=> ?_) (fun p b=> ?_)
  ·refine AZ rfl ?_
   cases b
   exact aR eV2
  refine Ac<|m _ _ ?_
  refine An<|kC b fun q b=>rX q rfl<|rz rfl<|fg _ (Sub.of (suC _ suN)) ?_
  exact⟨i+1,by omega,i,(e+1),b,Aj rfl rfl,rfl⟩
 refine AT<|x _ _ ?_
 refine AZ rfl ?_
 cases b
 exact aR eV2
def Hw(N:Nat)(c:AF)(l':List (Int×Int)):Option (Int×Int):=(JW N l' 4 c).bind fun r4=>some (r4.1,r4.2)
theorem ME(N c l' r)(a:Hw N c l'=some r)(ro)(cv:AE)(hc:Bun59R ro cv c)(l'v)(hl':Rd FO ro l'v l'):Does prog 92 #[vA (Ab c cv),l'v] ro [] (pV (vT #[vI r.1,vI r.2])):=by
 unfold Hw at a
 refine Ag follows func92 rfl 11 rfl _ fz2 (fun b=> ?_)
 refine Aa<|rA rfl fun e=>rz rfl<|Aa<|rn 1 rfl<|r_W (vF 156 #[] #[vP e 0]) rfl (Db rfl)<|kB a fun f d a=>gV _ (cF WZ) (fun o w z_=>Sh N l' 4 c _ d z_.view l'v ((AA hl') o w z_) e cv (Bun59R.mono z_.ro_cell hc) (Bi 0 rfl rfl o w z_))<|rz rfl ?_
 cases a
 exact aR eV2
def Il(N:Nat)(c:AF):Option (Int×Int):=(Hw N c c.2.2.2.2.2.2.2.2.2.2.1).bind fun r4=>some (r4.1,r4.2)
theorem Pw(N c r)(a:Il N c=some r)(ro)(cv:AE)(hc:Bun59R ro cv c):Does prog 44 #[vA (Ab c cv)] ro [] (pV (vT #[vI r.1,vI r.2])):=by
 unfold Il at a
 refine Ag follows func44 rfl 11 rfl _ fz1 (fun b=> ?_)
 refine Aa<|rA rfl fun e=>rz rfl<|Aa<|rm 4 [0,0] rfl<|kB a fun f d a=>gV _ (cF Ut) (fun o w z_=>ME N c c.2.2.2.2.2.2.2.2.2.2.1 _ d z_.view cv (Bun59R.mono z_.ro_cell hc) cv.2.2.2.2.2.2.2.2.2.1 ((AA hc.2.2.2.2.2.2.2.2.2.1) o w z_))<|rz rfl ?_
 cases a
 exact aR eV2
def Hd(N:Nat)(c:AF):Option (Int×Int):=(Hw N c c.2.2.2.2.2.2.2.2.2.2.2.1).bind fun r4=>some (r4.1,r4.2)
theorem NX(N c r)(a:Hd N c=some r)(ro)(cv:AE)(hc:Bun59R ro cv c):Does prog 45 #[vA (Ab c cv)] ro [] (pV (vT #[vI r.1,vI r.2])):=by
 unfold Hd at a
 refine Ag follows func45 rfl 11 rfl _ fz1 (fun b=> ?_)
 refine Aa<|rA rfl fun e=>rz rfl<|Aa<|rm 4 [0,0] rfl<|kB a fun f d a=>gV _ (cF Ut) (fun o w z_=>ME N c c.2.2.2.2.2.2.2.2.2.2.2.1 _ d z_.view cv (Bun59R.mono z_.ro_cell hc) cv.2.2.2.2.2.2.2.2.2.2.1 ((AA hc.2.2.2.2.2.2.2.2.2.2.1) o w z_))<|rz rfl ?_
 cases a
 exact aR eV2
def Lc(_:Nat)(x_0:List UInt8)(_:Int)(_:Int):Option (List UInt8):=some x_0
theorem TD(N x_0 x_1 x_2 r)(b:Lc N x_0 x_1 x_2=some r):Gives prog 94 #[vA #[vS x_0,vI x_1,vI x_2]] (vS r):=by
 unfold Lc at b
 refine Ao follows func94 rfl 5 rfl _ fz1 (fun a=> ?_)
 refine Aa<|rA rfl fun c=>rz rfl<|AY [0] rfl ?_
 cases b
 exact aR eE1
def EW(N:Nat)(l':List (List UInt8×Int×Int)):Nat→List (List UInt8)→Int→Option (List (List UInt8))
  |0,_,_=>none
  |n9+1,s1_,x2_=>if x2_<(l'.length:Int)then ck (0≤x2_∧x2_<(l'.length:Int)) ((Lc N ((l'[x2_.toNat]!).1) ((l'[x2_.toNat]!).2.1) ((l'[x2_.toNat]!).2.2)).bind fun r17=>ck (0≤x2_∧x2_<(s1_.length:Int)) (ck (R64 (x2_+1)) ((EW N l' n9) ((s1_).set (x2_.toNat) r17) (x2_+1))))else some s1_
def JU(N:Nat)(l':List (List UInt8×Int×Int)):Option (List (List UInt8)):=ck (0≤(l'.length:Int)∧(l'.length:Int)≤8796093022208) (EW N l' N ((List.replicate ((l'.length:Int)).toNat ([]))) 0)
theorem Sf(N l' r)(b:JU N l'=some r)(ro l'v)(hl':Rd HD ro l'v l'):Does prog 158 #[l'v,vF 94 #[] #[]] ro [] (p1 (fun s_=>s_) 9 By r):=by
 unfold JU at b
 refine Ag follows func158 rfl 26 rfl _ fz2 (fun s=> ?_)
 refine AZ rfl<|Aa<|rn 1 rfl<|rL (Rd.shp hl') rfl<|kC b fun u b=>cB 10<|LX (Ls:=[]) 9 By ([]) (l'.length:Int) rfl rfl rfl rfl rfl rfl rfl rfl rfl rfl 8796093022208 rfl u (fun _ _ _ _ _=>Iff.rfl) (fun v y z=> ?_)
 refine rz rfl<|Ae fun C w=>Aa<|rn 1 rfl<|rL (Rd.shp hl') rfl<|rz rfl<|Am<|BH _ (Sub.pick [y] [0] rfl)<|AS (fun tt ll nn=> ∃(h:Nat) (d:List (List UInt8)) (a:Int),(EW N l' h d a=some r)∧ ∃(c:List Bl),Sl 9 By v d c∧Is [(1,vF 94 #[] #[]),(5,v),(11,l'v),(12,vI (l'.length:Int)),(13,vI a)] (List.flatten [c]) tt ll∧nn=h+1) (N+1) ?_ ?_
 ·exact⟨N,(List.replicate ((l'.length:Int)).toNat ([])),0,b,y,z,Aj rfl rfl,rfl⟩
 clear b;rintro t l _ ⟨h,d,a,b,c,e,⟨⟨T,rfl⟩,rfl⟩,rfl⟩
 rcases h with _|h
 ·exact absurd b (by simp [EW])
 rw [EW] at b
 refine AZ rfl<|Ae fun A i=>aD b rfl (fun j b=> ?_) (fun j b=> ?_)
 ·refine Ac<|i _ _ ?_
  refine Ae fun B k=>Am<|Aa<|rn 1 rfl<|kC b fun f b=>rI (Rd.shp hl') f rfl<|rE (AA hl') f 0 rfl<|rA rfl fun m=>ry [0] rfl<|An<|rm 4 [0] rfl<|kB b fun n o b=>rc _ (AV (caps:=[]) rfl YH rfl) (TD N ((l'[a.toNat]!).1) ((l'[a.toNat]!).2.1) ((l'[a.toNat]!).2.2) _ o)<|kC b fun g b=>rI (Sl.shp e) g rfl<|MI (Ls:=[(Iz m ((l'[a.toNat]!).1) ((l'[a.toNat]!).2.1) ((l'[a.toNat]!).2.2)),c]) 1 (En:=By) (d[a.toNat]!) n (a.toNat) 0 rfl rfl rfl e (Cs g) rfl rfl rfl (Ew rfl) rfl (fun p x=> ?_)
  refine Ah<|k _ _ ?_
  refine An<|kC b fun q b=>rX q rfl<|rz rfl<|fg _ (Sub.pick [(Iz m ((l'[a.toNat]!).1) ((l'[a.toNat]!).2.1) ((l'[a.toNat]!).2.2)),p] [1] rfl) ?_
  exact⟨h+1,by omega,h,(d).set (a.toNat) n,(a+1),b,p,x,Aj rfl rfl,rfl⟩
 refine AT<|w _ _ ?_
 refine AZ rfl ?_
 cases b
 refine AO (fun D=>De (v0:=v) e (Cb (Sub.pick [c] [0] rfl)) rfl (BP rfl))
def Fz(N:Nat)(n:Int):Option Int:=(Au N n 1 8).bind fun r3=>(Al N r3 7).bind fun r5=>some r5
theorem Lb(N n r)(a:Fz N n=some r):Gives prog 96 #[vI n] (vI r):=by
 unfold Fz at a
 refine Ao follows func96 rfl 6 rfl _ fz1 (fun b=> ?_)
 refine AZ rfl<|Aa<|rn 1 rfl<|kB a fun e c a=>rc _ (cF BI) (Ax N n 1 8 _ c)<|kB a fun f d a=>rc _ (cF AI) (Ap N e 7 _ d)<|rz rfl ?_
 cases a
 exact aR eE1
def IZ(N:Nat)(_:List UInt8)(x_1:Int)(x_2:Int):Option Int:=(Ej N x_1).bind fun r4=>(Fz N x_2).bind fun r6=>(Ay N ([r4,r6])).bind fun r11=>some r11
theorem TC(N x_0 x_1 x_2 r)(b:IZ N x_0 x_1 x_2=some r):Gives prog 95 #[vA #[vS x_0,vI x_1,vI x_2]] (vI r):=by
 unfold IZ at b
 refine Ao follows func95 rfl 11 rfl _ fz1 (fun h=> ?_)
 refine Aa<|rA rfl fun n=>rz rfl<|Ae fun t i=>Bt [(some 9,false),(some 10,false)] (conG prog [(10,fun _ _ v_ L_ U_=> ∀e,Ej N x_1=some e→ ∀f,Fz N x_2=some f→ ∀g,Ay N ([e,f])=some g→(pV (vI g)) v_ L_ U_)]) [] (by decide+kernel) (fun u=>AW)<|rm 2 [0] rfl<|kB b fun j c b=>rc _ (cF Rw) (IU N x_1 _ c)<|rm 2 [0] rfl<|kB b fun l d b=>rc _ (cF Rt) (Lb N x_2 _ d)<|FY (Ls:=[(Iz n x_0 x_1 x_2)]) 44 AX [j,l] [vI j,vI l] [vI 0,vI 0] rfl rfl rfl rfl rfl rfl rfl (by kernel_rfl) (by kernel_rfl) rfl rfl rfl (fun p q m=> ?_)
 refine kB b fun s a b=>rg _ (cF Bx) (fun o w z_=>Bc N ([j,l]) _ a z_.view p ((Ar m (Af (Ls:=[(Iz n x_0 x_1 x_2),q]) (k:=1) rfl rfl)) o w z_)) (fun _ _ v_ L_ U_=>⟨fun h_=>h_ _ c _ d _ a,fun h_=>by intro _ e_;cases Option.some.inj (e_.symm.trans c);intro _ e_;cases Option.some.inj (e_.symm.trans d);intro _ e_;cases Option.some.inj (e_.symm.trans a);exact h_⟩) ?_
 refine rz rfl<|i _ _ ?_
 cases b
 exact aR eE1
def HU(N:Nat)(i:Int)(x_0:List UInt8)(x_1:Int)(x_2:Int)(c2_:List (List UInt8)):Option Int:=ck (0≤i∧i<(c2_.length:Int)) ((BT N (c2_[i.toNat]!)).bind fun r5=>(Al N r5 4).bind fun r7=>(AH N c2_ i).bind fun r9=>(IZ N x_0 x_1 x_2).bind fun r11=>(Ay N ([r7,r9,r11])).bind fun r16=>some r16)
theorem Pf(N i x_0 x_1 x_2 b r)(c:HU N i x_0 x_1 x_2 b=some r)(ro)(l:Nat)(a)(e:Rd By ro a b)(f:Blk ro l [a])(m:Nat)(n:Blk ro m [vF 95 #[] #[]]):Does prog 160 #[vI i,vA #[vS x_0,vI x_1,vI x_2],vP l 0,vP m 0] ro [] (pV (vI r)):=by
 unfold HU at c
 refine Ag follows func160 rfl 21 rfl _ fz4 (fun z=> ?_)
 refine Aa<|rA rfl fun G=>rz rfl<|Ae fun J A=>Bt [(some 15,false),(some 19,false),(some 20,false)] (conG prog [(15,cV (AH N b i) fun j=>vI j),(20,fun _ _ v_ L_ U_=> ∀j,BT N (b[i.toNat]!)=some j→ ∀t,Al N j 4=some t→ ∀u,AH N b i=some u→ ∀v,IZ N x_0 x_1 x_2=some v→ ∀x,Ay N ([t,u,v])=some x→(pV (vI x)) v_ L_ U_)]) [] (by decide+kernel) (fun K=>AW)<|Cz a (vs:=[a]) (o:=0) rfl rfl (Az f) rfl<|rn 1 rfl<|kC c fun y c=>rI (Rd.shp e) y rfl<|rE (AA e) y 0 rfl<|kB c fun H p c=>rc _ (cF Ho) (Fy N (b[i.toNat]!) _ p)<|kB c fun B q c=>rc _ (cF AI) (Ap N H 4 _ q)<|Cz a (vs:=[a]) (o:=0) rfl rfl (Az f) rfl<|rn 1 rfl<|kB c fun C d c=>rg _ (cF HF) (fun o w z_=>CL N b i _ d z_.view a (z_.r e)) (DA d)<|Cz (vF 95 #[] #[]) (vs:=[vF 95 #[] #[]]) (o:=0) rfl rfl (Az n) rfl<|rm 1 [0] rfl<|kB c fun s g c=>rc _ (AV (caps:=[]) rfl YG rfl) (TC N x_0 x_1 x_2 _ g) ?_
 refine FY (Ls:=[(Iz G x_0 x_1 x_2)]) 44 AX [B,C,s] [vI B,vI C,vI s] [vI 0,vI 0,vI 0] rfl rfl rfl rfl rfl rfl rfl (by kernel_rfl) (by kernel_rfl) rfl rfl rfl (fun D E F=> ?_)
 refine kB c fun I h c=>rg _ (cF Bx) (fun o w z_=>Bc N ([B,C,s]) _ h z_.view D ((Ar F (Af (Ls:=[(Iz G x_0 x_1 x_2),E]) (k:=1) rfl rfl)) o w z_)) (fun _ _ v_ L_ U_=>⟨fun h_=>h_ _ p _ q _ d _ g _ h,fun h_=>by intro _ e_;cases Option.some.inj (e_.symm.trans p);intro _ e_;cases Option.some.inj (e_.symm.trans q);intro _ e_;cases Option.some.inj (e_.symm.trans d);intro _ e_;cases Option.some.inj (e_.symm.trans g);intro _ e_;cases Option.some.inj (e_.symm.trans h);exact h_⟩) ?_
 refine rz rfl<|A _ _ ?_
 cases c
 exact aR eV1
def EZ(N:Nat)(l':List (List UInt8×Int×Int))(ask0_:List (List UInt8)):Nat→Int→Option (Int×Int)
  |0,_=>none
  |n8+1,x1_=>if x1_<(l'.length:Int)then ck (0≤x1_∧x1_<(l'.length:Int)) ((HU N x1_ ((l'[x1_.toNat]!).1) ((l'[x1_.toNat]!).2.1) ((l'[x1_.toNat]!).2.2) ask0_).bind fun r17=>if(r17:Int)≠0 then some (x1_,r17)else ck (R64 (x1_+1)) ((EZ N l' ask0_ n8) (x1_+1)))else some (0,0)
def JX(N:Nat)(l':List (List UInt8×Int×Int))(most:Int)(ask0_:List (List UInt8)):Option (Int×Int):=if(l'.length:Int)>most then some (0,2)else EZ N l' ask0_ N 0
theorem Sj(N l' most d r)(c:JX N l' most d=some r)(ro l'v)(hl':Rd HD ro l'v l')(a:Nat)(e)(i:Rd By ro e d)(g:Blk ro a [e])(b:Nat)(h:Blk ro b [vF 95 #[] #[]]):Does prog 159 #[l'v,vI most,vF 160 #[] #[vP a 0,vP b 0]] ro [] (pV (vT #[vI r.1,vI r.2])):=by
 unfold JX at c
 refine Ag follows func159 rfl 31 rfl _ fz3 (fun v=> ?_)
 refine AZ rfl<|Ae fun E x=>Aa<|rn 1 rfl<|rL (Rd.shp hl') rfl<|rz rfl<|aD c rfl (fun y c=> ?_) (fun y c=> ?_)
 ·refine AZ rfl ?_
  cases c
  exact aR eV2
 refine Ac<|x _ _ ?_
 refine Ae fun F z=>Aa<|rn 1 rfl<|rL (Rd.shp hl') rfl<|rz rfl<|Am<|AS (fun tt ll nn=> ∃(k:Nat) (f:Int),(EZ N l' d k f=some r)∧Is [(2,vF 160 #[] #[vP a 0,vP b 0]),(15,l'v),(16,vI (l'.length:Int)),(17,vI f)] [] tt ll∧nn=k+1) (N+1) ?_ ?_
 ·exact⟨N,0,c,Aj rfl rfl,rfl⟩
 clear c;rintro t l _ ⟨k,f,c,⟨⟨T,rfl⟩,rfl⟩,rfl⟩
 rcases k with _|k
 ·exact absurd c (by simp [EZ])
 rw [EZ] at c
 refine AZ rfl<|Ae fun A m=>aD c rfl (fun n c=> ?_) (fun n c=> ?_)
 ·refine Ac<|m _ _ ?_
  refine Ae fun B p=>Am<|Aa<|rn 1 rfl<|kC c fun j c=>rI (Rd.shp hl') j rfl<|rE (AA hl') j 0 rfl<|rA rfl fun C=>ry [0] rfl<|Aa<|rm 3 [0] rfl<|kB c fun D q c=>gV _ (AV (caps:=[vP a 0,vP b 0]) rfl WU rfl) (fun o w z_=>Pf N f ((l'[f.toNat]!).1) ((l'[f.toNat]!).2.1) ((l'[f.toNat]!).2.2) d _ q z_.view a e (z_.r i) (Az g o w z_) b (Az h o w z_))<|rz rfl<|AZ rfl<|aN c rfl (fun s c=> ?_) (fun s c=> ?_)
  ·refine AZ rfl ?_
   cases c
   exact aR eV2
  refine Ac<|p _ _ ?_
  refine An<|kC c fun u c=>rX u rfl<|rz rfl<|fg _ (Sub.of (suC _ suN)) ?_
  exact⟨k+1,by omega,k,(f+1),c,Aj rfl rfl,rfl⟩
 refine AT<|z _ _ ?_
 refine AZ rfl ?_
 cases c
 exact aR eV2
def JT(N:Nat)(l':List (List UInt8×Int×Int))(most:Int):Option (Int×Int):=(JU N l').bind fun r4=>(JX N l' most r4).bind fun r11=>some (r11.1,r11.2)
theorem Se(N l' most r)(a:JT N l' most=some r)(ro l'v)(hl':Rd HD ro l'v l'):Does prog 93 #[l'v,vI most,vF 94 #[] #[],vF 95 #[] #[]] ro [] (pV (vT #[vI r.1,vI r.2])):=by
 unfold JT at a
 refine Ag follows func93 rfl 20 rfl _ fz4 (fun d=> ?_)
 refine Aa<|rA rfl fun b=>rz rfl<|Aa<|rn 2 rfl<|kB a fun j g a=>gS (Ls:=[(NE b (vF 95 #[] #[]))]) (cF WW) (fun o w z_=>Sf N l' _ g z_.view l'v ((AA hl') o w z_)) (fun e i h=> ?_)
 refine rA rfl fun f=>r_s (List.flatten [(Iy f e),(NE b (vF 95 #[] #[])),i]) 0 _ _ _ _ _ (#[e]) rfl rfl rfl (BZ rfl (Sl.shp h)) (.ofS rfl rfl (Ad (Shp.one (Sl.shp h)) Bf)) rfl rfl<|Ah<|Aa<|rn 2 rfl<|r_W (vF 160 #[] #[vP f 0,vP b 0]) rfl (Db rfl)<|kB a fun l c a=>gV _ (cF WV) (fun o w z_=>Sj N l' most j _ c z_.view l'v ((AA hl') o w z_) f e ((Ar h (Af (Ls:=[(Iy f e),(NE b (vF 95 #[] #[])),i]) (k:=2) rfl rfl)) o w z_) (Bi 0 rfl rfl o w z_) b (Bi 1 rfl rfl o w z_))<|rz rfl ?_
 cases a
 exact aR eV2
def Ka(N:Nat)(c:AF):Option (Int×Int):=(JT N c.2.2.2.2.2.2.2.2.2.2.2.2.1 8).bind fun r4=>some (r4.1,r4.2)
theorem Sn(N c r)(a:Ka N c=some r)(ro)(cv:AE)(hc:Bun59R ro cv c):Does prog 46 #[vA (Ab c cv)] ro [] (pV (vT #[vI r.1,vI r.2])):=by
 unfold Ka at a
 refine Ag follows func46 rfl 10 rfl _ fz1 (fun b=> ?_)
 refine Aa<|rA rfl fun e=>rz rfl<|Aa<|rm 3 [0] rfl<|kB a fun f d a=>gV _ (cF YI) (fun o w z_=>Se N c.2.2.2.2.2.2.2.2.2.2.2.2.1 8 _ d z_.view cv.2.2.2.2.2.2.2.2.2.2.2.1 ((AA hc.2.2.2.2.2.2.2.2.2.2.2.1) o w z_))<|rz rfl ?_
 cases a
 exact aR eV2
def Hi(_:Nat)(x_0:List UInt8)(_:Int):Option (List UInt8):=some x_0
theorem Of(N x_0 x_1 r)(b:Hi N x_0 x_1=some r):Gives prog 98 #[vA #[vS x_0,vI x_1]] (vS r):=by
 unfold Hi at b
 refine Ao follows func98 rfl 5 rfl _ fz1 (fun a=> ?_)
 refine Aa<|rA rfl fun c=>rz rfl<|AY [0] rfl ?_
 cases b
 exact aR eE1
def CW(N:Nat)(l':List (List UInt8×Int)):Nat→List (List UInt8)→Int→Option (List (List UInt8))
  |0,_,_=>none
  |n9+1,s1_,x2_=>if x2_<(l'.length:Int)then ck (0≤x2_∧x2_<(l'.length:Int)) ((Hi N ((l'[x2_.toNat]!).1) ((l'[x2_.toNat]!).2)).bind fun r17=>ck (0≤x2_∧x2_<(s1_.length:Int)) (ck (R64 (x2_+1)) ((CW N l' n9) ((s1_).set (x2_.toNat) r17) (x2_+1))))else some s1_
def Gi(N:Nat)(l':List (List UInt8×Int)):Option (List (List UInt8)):=ck (0≤(l'.length:Int)∧(l'.length:Int)≤8796093022208) (CW N l' N ((List.replicate ((l'.length:Int)).toNat ([]))) 0)
theorem MQ(N l' r)(b:Gi N l'=some r)(ro l'v)(hl':Rd HC ro l'v l'):Does prog 161 #[l'v,vF 98 #[] #[]] ro [] (p1 (fun s_=>s_) 9 By r):=by
 unfold Gi at b
 refine Ag follows func161 rfl 26 rfl _ fz2 (fun s=> ?_)
 refine AZ rfl<|Aa<|rn 1 rfl<|rL (Rd.shp hl') rfl<|kC b fun u b=>cB 10<|LX (Ls:=[]) 9 By ([]) (l'.length:Int) rfl rfl rfl rfl rfl rfl rfl rfl rfl rfl 8796093022208 rfl u (fun _ _ _ _ _=>Iff.rfl) (fun v y z=> ?_)
 refine rz rfl<|Ae fun C w=>Aa<|rn 1 rfl<|rL (Rd.shp hl') rfl<|rz rfl<|Am<|BH _ (Sub.pick [y] [0] rfl)<|AS (fun tt ll nn=> ∃(h:Nat) (d:List (List UInt8)) (a:Int),(CW N l' h d a=some r)∧ ∃(c:List Bl),Sl 9 By v d c∧Is [(1,vF 98 #[] #[]),(5,v),(11,l'v),(12,vI (l'.length:Int)),(13,vI a)] (List.flatten [c]) tt ll∧nn=h+1) (N+1) ?_ ?_
 ·exact⟨N,(List.replicate ((l'.length:Int)).toNat ([])),0,b,y,z,Aj rfl rfl,rfl⟩
 clear b;rintro t l _ ⟨h,d,a,b,c,e,⟨⟨T,rfl⟩,rfl⟩,rfl⟩
 rcases h with _|h
 ·exact absurd b (by simp [CW])
 rw [CW] at b
 refine AZ rfl<|Ae fun A i=>aD b rfl (fun j b=> ?_) (fun j b=> ?_)
 ·refine Ac<|i _ _ ?_
  refine Ae fun B k=>Am<|Aa<|rn 1 rfl<|kC b fun f b=>rI (Rd.shp hl') f rfl<|rE (AA hl') f 0 rfl<|rA rfl fun m=>ry [0] rfl<|An<|rm 4 [0] rfl<|kB b fun n o b=>rc _ (AV (caps:=[]) rfl YE rfl) (Of N ((l'[a.toNat]!).1) ((l'[a.toNat]!).2) _ o)<|kC b fun g b=>rI (Sl.shp e) g rfl<|MI (Ls:=[(Lx m ((l'[a.toNat]!).1) ((l'[a.toNat]!).2)),c]) 1 (En:=By) (d[a.toNat]!) n (a.toNat) 0 rfl rfl rfl e (Cs g) rfl rfl rfl (Ew rfl) rfl (fun p x=> ?_)
  refine Ah<|k _ _ ?_
  refine An<|kC b fun q b=>rX q rfl<|rz rfl<|fg _ (Sub.pick [(Lx m ((l'[a.toNat]!).1) ((l'[a.toNat]!).2)),p] [1] rfl) ?_
  exact⟨h+1,by omega,h,(d).set (a.toNat) n,(a+1),b,p,x,Aj rfl rfl,rfl⟩
 refine AT<|w _ _ ?_
 refine AZ rfl ?_
 cases b
 refine AO (fun D=>De (v0:=v) e (Cb (Sub.pick [c] [0] rfl)) rfl (BP rfl))
def Fe(N:Nat)(_:List UInt8)(x_1:Int):Option Int:=(Fz N x_1).bind fun r4=>some r4
theorem Oe(N x_0 x_1 r)(a:Fe N x_0 x_1=some r):Gives prog 99 #[vA #[vS x_0,vI x_1]] (vI r):=by
 unfold Fe at a
 refine Ao follows func99 rfl 6 rfl _ fz1 (fun b=> ?_)
 refine Aa<|rA rfl fun d=>rz rfl<|Aa<|rm 2 [0] rfl<|kB a fun e c a=>rc _ (cF Rt) (Lb N x_1 _ c)<|rz rfl ?_
 cases a
 exact aR eE1
def EV(N:Nat)(i:Int)(x_0:List UInt8)(x_1:Int)(c2_:List (List UInt8)):Option Int:=ck (0≤i∧i<(c2_.length:Int)) ((BT N (c2_[i.toNat]!)).bind fun r5=>(Al N r5 4).bind fun r7=>(AH N c2_ i).bind fun r9=>(Fe N x_0 x_1).bind fun r11=>(Ay N ([r7,r9,r11])).bind fun r16=>some r16)
theorem LE(N i x_0 x_1 b r)(c:EV N i x_0 x_1 b=some r)(ro)(l:Nat)(a)(e:Rd By ro a b)(f:Blk ro l [a])(m:Nat)(n:Blk ro m [vF 99 #[] #[]]):Does prog 163 #[vI i,vA #[vS x_0,vI x_1],vP l 0,vP m 0] ro [] (pV (vI r)):=by
 unfold EV at c
 refine Ag follows func163 rfl 21 rfl _ fz4 (fun z=> ?_)
 refine Aa<|rA rfl fun G=>rz rfl<|Ae fun J A=>Bt [(some 15,false),(some 19,false),(some 20,false)] (conG prog [(15,cV (AH N b i) fun j=>vI j),(20,fun _ _ v_ L_ U_=> ∀j,BT N (b[i.toNat]!)=some j→ ∀t,Al N j 4=some t→ ∀u,AH N b i=some u→ ∀v,Fe N x_0 x_1=some v→ ∀x,Ay N ([t,u,v])=some x→(pV (vI x)) v_ L_ U_)]) [] (by decide+kernel) (fun K=>AW)<|Cz a (vs:=[a]) (o:=0) rfl rfl (Az f) rfl<|rn 1 rfl<|kC c fun y c=>rI (Rd.shp e) y rfl<|rE (AA e) y 0 rfl<|kB c fun H p c=>rc _ (cF Ho) (Fy N (b[i.toNat]!) _ p)<|kB c fun B q c=>rc _ (cF AI) (Ap N H 4 _ q)<|Cz a (vs:=[a]) (o:=0) rfl rfl (Az f) rfl<|rn 1 rfl<|kB c fun C d c=>rg _ (cF HF) (fun o w z_=>CL N b i _ d z_.view a (z_.r e)) (DA d)<|Cz (vF 99 #[] #[]) (vs:=[vF 99 #[] #[]]) (o:=0) rfl rfl (Az n) rfl<|rm 1 [0] rfl<|kB c fun s g c=>rc _ (AV (caps:=[]) rfl YD rfl) (Oe N x_0 x_1 _ g) ?_
 refine FY (Ls:=[(Lx G x_0 x_1)]) 44 AX [B,C,s] [vI B,vI C,vI s] [vI 0,vI 0,vI 0] rfl rfl rfl rfl rfl rfl rfl (by kernel_rfl) (by kernel_rfl) rfl rfl rfl (fun D E F=> ?_)
 refine kB c fun I h c=>rg _ (cF Bx) (fun o w z_=>Bc N ([B,C,s]) _ h z_.view D ((Ar F (Af (Ls:=[(Lx G x_0 x_1),E]) (k:=1) rfl rfl)) o w z_)) (fun _ _ v_ L_ U_=>⟨fun h_=>h_ _ p _ q _ d _ g _ h,fun h_=>by intro _ e_;cases Option.some.inj (e_.symm.trans p);intro _ e_;cases Option.some.inj (e_.symm.trans q);intro _ e_;cases Option.some.inj (e_.symm.trans d);intro _ e_;cases Option.some.inj (e_.symm.trans g);intro _ e_;cases Option.some.inj (e_.symm.trans h);exact h_⟩) ?_
 refine rz rfl<|A _ _ ?_
 cases c
 exact aR eV1
def CX(N:Nat)(l':List (List UInt8×Int))(ask0_:List (List UInt8)):Nat→Int→Option (Int×Int)
  |0,_=>none
  |n8+1,x1_=>if x1_<(l'.length:Int)then ck (0≤x1_∧x1_<(l'.length:Int)) ((EV N x1_ ((l'[x1_.toNat]!).1) ((l'[x1_.toNat]!).2) ask0_).bind fun r17=>if(r17:Int)≠0 then some (x1_,r17)else ck (R64 (x1_+1)) ((CX N l' ask0_ n8) (x1_+1)))else some (0,0)
def Gj(N:Nat)(l':List (List UInt8×Int))(most:Int)(ask0_:List (List UInt8)):Option (Int×Int):=if(l'.length:Int)>most then some (0,2)else CX N l' ask0_ N 0
theorem MR(N l' most d r)(c:Gj N l' most d=some r)(ro l'v)(hl':Rd HC ro l'v l')(a:Nat)(e)(i:Rd By ro e d)(g:Blk ro a [e])(b:Nat)(h:Blk ro b [vF 99 #[] #[]]):Does prog 162 #[l'v,vI most,vF 163 #[] #[vP a 0,vP b 0]] ro [] (pV (vT #[vI r.1,vI r.2])):=by
 unfold Gj at c
 refine Ag follows func162 rfl 31 rfl _ fz3 (fun v=> ?_)
 refine AZ rfl<|Ae fun E x=>Aa<|rn 1 rfl<|rL (Rd.shp hl') rfl<|rz rfl<|aD c rfl (fun y c=> ?_) (fun y c=> ?_)
 ·refine AZ rfl ?_
  cases c
  exact aR eV2
 refine Ac<|x _ _ ?_
 refine Ae fun F z=>Aa<|rn 1 rfl<|rL (Rd.shp hl') rfl<|rz rfl<|Am<|AS (fun tt ll nn=> ∃(k:Nat) (f:Int),(CX N l' d k f=some r)∧Is [(2,vF 163 #[] #[vP a 0,vP b 0]),(15,l'v),(16,vI (l'.length:Int)),(17,vI f)] [] tt ll∧nn=k+1) (N+1) ?_ ?_
 ·exact⟨N,0,c,Aj rfl rfl,rfl⟩
 clear c;rintro t l _ ⟨k,f,c,⟨⟨T,rfl⟩,rfl⟩,rfl⟩
 rcases k with _|k
 ·exact absurd c (by simp [CX])
 rw [CX] at c
 refine AZ rfl<|Ae fun A m=>aD c rfl (fun n c=> ?_) (fun n c=> ?_)
 ·refine Ac<|m _ _ ?_
  refine Ae fun B p=>Am<|Aa<|rn 1 rfl<|kC c fun j c=>rI (Rd.shp hl') j rfl<|rE (AA hl') j 0 rfl<|rA rfl fun C=>ry [0] rfl<|Aa<|rm 3 [0] rfl<|kB c fun D q c=>gV _ (AV (caps:=[vP a 0,vP b 0]) rfl WR rfl) (fun o w z_=>LE N f ((l'[f.toNat]!).1) ((l'[f.toNat]!).2) d _ q z_.view a e (z_.r i) (Az g o w z_) b (Az h o w z_))<|rz rfl<|AZ rfl<|aN c rfl (fun s c=> ?_) (fun s c=> ?_)
  ·refine AZ rfl ?_
   cases c
   exact aR eV2
  refine Ac<|p _ _ ?_
  refine An<|kC c fun u c=>rX u rfl<|rz rfl<|fg _ (Sub.of (suC _ suN)) ?_
  exact⟨k+1,by omega,k,(f+1),c,Aj rfl rfl,rfl⟩
 refine AT<|z _ _ ?_
 refine AZ rfl ?_
 cases c
 exact aR eV2
def Gh(N:Nat)(l':List (List UInt8×Int))(most:Int):Option (Int×Int):=(Gi N l').bind fun r4=>(Gj N l' most r4).bind fun r11=>some (r11.1,r11.2)
theorem MP(N l' most r)(a:Gh N l' most=some r)(ro l'v)(hl':Rd HC ro l'v l'):Does prog 97 #[l'v,vI most,vF 98 #[] #[],vF 99 #[] #[]] ro [] (pV (vT #[vI r.1,vI r.2])):=by
 unfold Gh at a
 refine Ag follows func97 rfl 20 rfl _ fz4 (fun d=> ?_)
 refine Aa<|rA rfl fun b=>rz rfl<|Aa<|rn 2 rfl<|kB a fun j g a=>gS (Ls:=[(ND b (vF 99 #[] #[]))]) (cF WT) (fun o w z_=>MQ N l' _ g z_.view l'v ((AA hl') o w z_)) (fun e i h=> ?_)
 refine rA rfl fun f=>r_s (List.flatten [(Iy f e),(ND b (vF 99 #[] #[])),i]) 0 _ _ _ _ _ (#[e]) rfl rfl rfl (BZ rfl (Sl.shp h)) (.ofS rfl rfl (Ad (Shp.one (Sl.shp h)) Bf)) rfl rfl<|Ah<|Aa<|rn 2 rfl<|r_W (vF 163 #[] #[vP f 0,vP b 0]) rfl (Db rfl)<|kB a fun l c a=>gV _ (cF WS) (fun o w z_=>MR N l' most j _ c z_.view l'v ((AA hl') o w z_) f e ((Ar h (Af (Ls:=[(Iy f e),(ND b (vF 99 #[] #[])),i]) (k:=2) rfl rfl)) o w z_) (Bi 0 rfl rfl o w z_) b (Bi 1 rfl rfl o w z_))<|rz rfl ?_
 cases a
 exact aR eV2
def Gm(N:Nat)(c:AF):Option (Int×Int):=(Gh N c.2.2.2.2.2.2.2.2.2.2.2.2.2.1 8).bind fun r4=>some (r4.1,r4.2)
theorem MW(N c r)(a:Gm N c=some r)(ro)(cv:AE)(hc:Bun59R ro cv c):Does prog 47 #[vA (Ab c cv)] ro [] (pV (vT #[vI r.1,vI r.2])):=by
 unfold Gm at a
 refine Ag follows func47 rfl 10 rfl _ fz1 (fun b=> ?_)
 refine Aa<|rA rfl fun e=>rz rfl<|Aa<|rm 3 [0] rfl<|kB a fun f d a=>gV _ (cF YF) (fun o w z_=>MP N c.2.2.2.2.2.2.2.2.2.2.2.2.2.1 8 _ d z_.view cv.2.2.2.2.2.2.2.2.2.2.2.2.1 ((AA hc.2.2.2.2.2.2.2.2.2.2.2.2.1) o w z_))<|rz rfl ?_
 cases a
 exact aR eV2
def Jb(_:Nat)(x_0:List UInt8)(_:Int)(_:Int)(_:Int):Option (List UInt8):=some x_0
theorem QI(N x_0 x_1 x_2 x_3 r)(b:Jb N x_0 x_1 x_2 x_3=some r):Gives prog 101 #[vA #[vS x_0,vI x_1,vI x_2,vI x_3]] (vS r):=by
 unfold Jb at b
 refine Ao follows func101 rfl 5 rfl _ fz1 (fun a=> ?_)
 refine Aa<|rA rfl fun c=>rz rfl<|AY [0] rfl ?_
 cases b
 exact aR eE1
def DO(N:Nat)(l':List (List UInt8×Int×Int×Int)):Nat→List (List UInt8)→Int→Option (List (List UInt8))
  |0,_,_=>none
  |n9+1,s1_,x2_=>if x2_<(l'.length:Int)then ck (0≤x2_∧x2_<(l'.length:Int)) ((Jb N ((l'[x2_.toNat]!).1) ((l'[x2_.toNat]!).2.1) ((l'[x2_.toNat]!).2.2.1) ((l'[x2_.toNat]!).2.2.2)).bind fun r17=>ck (0≤x2_∧x2_<(s1_.length:Int)) (ck (R64 (x2_+1)) ((DO N l' n9) ((s1_).set (x2_.toNat) r17) (x2_+1))))else some s1_
def HZ(N:Nat)(l':List (List UInt8×Int×Int×Int)):Option (List (List UInt8)):=ck (0≤(l'.length:Int)∧(l'.length:Int)≤8796093022208) (DO N l' N ((List.replicate ((l'.length:Int)).toNat ([]))) 0)
theorem Pk(N l' r)(b:HZ N l'=some r)(ro l'v)(hl':Rd HB ro l'v l'):Does prog 164 #[l'v,vF 101 #[] #[]] ro [] (p1 (fun s_=>s_) 9 By r):=by
 unfold HZ at b
 refine Ag follows func164 rfl 26 rfl _ fz2 (fun s=> ?_)
 refine AZ rfl<|Aa<|rn 1 rfl<|rL (Rd.shp hl') rfl<|kC b fun u b=>cB 10<|LX (Ls:=[]) 9 By ([]) (l'.length:Int) rfl rfl rfl rfl rfl rfl rfl rfl rfl rfl 8796093022208 rfl u (fun _ _ _ _ _=>Iff.rfl) (fun v y z=> ?_)
 refine rz rfl<|Ae fun C w=>Aa<|rn 1 rfl<|rL (Rd.shp hl') rfl<|rz rfl<|Am<|BH _ (Sub.pick [y] [0] rfl)<|AS (fun tt ll nn=> ∃(h:Nat) (d:List (List UInt8)) (a:Int),(DO N l' h d a=some r)∧ ∃(c:List Bl),Sl 9 By v d c∧Is [(1,vF 101 #[] #[]),(5,v),(11,l'v),(12,vI (l'.length:Int)),(13,vI a)] (List.flatten [c]) tt ll∧nn=h+1) (N+1) ?_ ?_
 ·exact⟨N,(List.replicate ((l'.length:Int)).toNat ([])),0,b,y,z,Aj rfl rfl,rfl⟩
 clear b;rintro t l _ ⟨h,d,a,b,c,e,⟨⟨T,rfl⟩,rfl⟩,rfl⟩
 rcases h with _|h
 ·exact absurd b (by simp [DO])
 rw [DO] at b
 refine AZ rfl<|Ae fun A i=>aD b rfl (fun j b=> ?_) (fun j b=> ?_)
 ·refine Ac<|i _ _ ?_
  refine Ae fun B k=>Am<|Aa<|rn 1 rfl<|kC b fun f b=>rI (Rd.shp hl') f rfl<|rE (AA hl') f 0 rfl<|rA rfl fun m=>ry [0] rfl<|An<|rm 4 [0] rfl<|kB b fun n o b=>rc _ (AV (caps:=[]) rfl XM rfl) (QI N ((l'[a.toNat]!).1) ((l'[a.toNat]!).2.1) ((l'[a.toNat]!).2.2.1) ((l'[a.toNat]!).2.2.2) _ o)<|kC b fun g b=>rI (Sl.shp e) g rfl<|MI (Ls:=[(GR m ((l'[a.toNat]!).1) ((l'[a.toNat]!).2.1) ((l'[a.toNat]!).2.2.1) ((l'[a.toNat]!).2.2.2)),c]) 1 (En:=By) (d[a.toNat]!) n (a.toNat) 0 rfl rfl rfl e (Cs g) rfl rfl rfl (Ew rfl) rfl (fun p x=> ?_)
  refine Ah<|k _ _ ?_
  refine An<|kC b fun q b=>rX q rfl<|rz rfl<|fg _ (Sub.pick [(GR m ((l'[a.toNat]!).1) ((l'[a.toNat]!).2.1) ((l'[a.toNat]!).2.2.1) ((l'[a.toNat]!).2.2.2)),p] [1] rfl) ?_
  exact⟨h+1,by omega,h,(d).set (a.toNat) n,(a+1),b,p,x,Aj rfl rfl,rfl⟩
 refine AT<|w _ _ ?_
 refine AZ rfl ?_
 cases b
 refine AO (fun D=>De (v0:=v) e (Cb (Sub.pick [c] [0] rfl)) rfl (BP rfl))
def FN(N:Nat)(x_1:Int)(inRange1_:Bool):Option Int:=(Fz N x_1).bind fun r4=>(Al N inRange1_ 7).bind fun r6=>(Ay N ([r4,r6])).bind fun r11=>some r11
def GA(N:Nat)(_:List UInt8)(x_1:Int)(x_2:Int)(x_3:Int):Option Int:=(Au N x_2 0 65535).bind fun r13=>if r13=true then(Au N x_3 1 1048576).bind fun r16=>FN N x_1 r16 else FN N x_1 false
theorem QH(N x_0 x_1 x_2 x_3 r)(b:GA N x_0 x_1 x_2 x_3=some r):Gives prog 102 #[vA #[vS x_0,vI x_1,vI x_2,vI x_3]] (vI r):=by
 unfold GA at b
 refine Ao follows func102 rfl 19 rfl _ fz1 (fun g=> ?_)
 refine Aa<|rA rfl fun h=>rz rfl<|BW (fun tt ll=> ∃(a:Bool),(FN N x_1 a=some r)∧Is [(1,vP h 0),(3,vB a)] (GR h x_0 x_1 x_2 x_3) tt ll) ?_ ?_
 ·refine An<|rm 2 [0] rfl<|kB b fun i d b=>rc _ (cF BI) (Ax N x_2 0 65535 _ d)<|rn 1 rfl ?_
  rcases c:i with _|_
  ·replace b:=iB c b
   refine rz rfl<|fg _ (Sub.of (suK _ suN)) ?_
   exact⟨false,b,Aj (by first|rfl|(simp only [c];done)|(simp only [c];rfl)|(simp only [CC];rfl)) rfl⟩
  replace b:=ifp c b
  refine rn 1 rfl<|r_y rfl<|rm 1 [0] rfl<|r_y rfl<|kB b fun j e b=>rc _ (cF BI) (Ax N x_3 1 1048576 _ e)<|rz rfl<|fg _ (Sub.of (suK _ suN)) ?_
  exact⟨j,b,Aj (by first|rfl|(simp only [c];done)|(simp only [c];rfl)|(simp only [CC];rfl)) rfl⟩
 clear b;rintro t l ⟨a,b,⟨T,rfl⟩,rfl⟩
 unfold FN at b
 refine Aa<|rm 2 [0] rfl<|kB b fun q m b=>rc _ (cF Rt) (Lb N x_1 _ m)<|rn 1 rfl<|kB b fun s n b=>rc _ (cF AI) (Ap N a 7 _ n)<|gB (Ls:=[(GR h x_0 x_1 x_2 x_3)]) 44 AX [q,s] (fun u v p=> ?_)
 refine kB b fun x f b=>gV _ (cF Bx) (fun o w z_=>Bc N ([q,s]) _ f z_.view u ((Ar p (Af (Ls:=[(GR h x_0 x_1 x_2 x_3),v]) (k:=1) rfl rfl)) o w z_))<|rz rfl ?_
 cases b
 exact aR eE1
def Gf(N:Nat)(i:Int)(x_0:List UInt8)(x_1:Int)(x_2:Int)(x_3:Int)(c2_:List (List UInt8)):Option Int:=ck (0≤i∧i<(c2_.length:Int)) ((BT N (c2_[i.toNat]!)).bind fun r5=>(Al N r5 4).bind fun r7=>(AH N c2_ i).bind fun r9=>(GA N x_0 x_1 x_2 x_3).bind fun r11=>(Ay N ([r7,r9,r11])).bind fun r16=>some r16)
theorem MN(N i x_0 x_1 x_2 x_3 b r)(c:Gf N i x_0 x_1 x_2 x_3 b=some r)(ro)(l:Nat)(a)(e:Rd By ro a b)(f:Blk ro l [a])(m:Nat)(n:Blk ro m [vF 102 #[] #[]]):Does prog 166 #[vI i,vA #[vS x_0,vI x_1,vI x_2,vI x_3],vP l 0,vP m 0] ro [] (pV (vI r)):=by
 unfold Gf at c
 refine Ag follows func166 rfl 21 rfl _ fz4 (fun z=> ?_)
 refine Aa<|rA rfl fun G=>rz rfl<|Ae fun J A=>Bt [(some 15,false),(some 19,false),(some 20,false)] (conG prog [(15,cV (AH N b i) fun j=>vI j),(20,fun _ _ v_ L_ U_=> ∀j,BT N (b[i.toNat]!)=some j→ ∀t,Al N j 4=some t→ ∀u,AH N b i=some u→ ∀v,GA N x_0 x_1 x_2 x_3=some v→ ∀x,Ay N ([t,u,v])=some x→(pV (vI x)) v_ L_ U_)]) [] (by decide+kernel) (fun K=>AW)<|Cz a (vs:=[a]) (o:=0) rfl rfl (Az f) rfl<|rn 1 rfl<|kC c fun y c=>rI (Rd.shp e) y rfl<|rE (AA e) y 0 rfl<|kB c fun H p c=>rc _ (cF Ho) (Fy N (b[i.toNat]!) _ p)<|kB c fun B q c=>rc _ (cF AI) (Ap N H 4 _ q)<|Cz a (vs:=[a]) (o:=0) rfl rfl (Az f) rfl<|rn 1 rfl<|kB c fun C d c=>rg _ (cF HF) (fun o w z_=>CL N b i _ d z_.view a (z_.r e)) (DA d)<|Cz (vF 102 #[] #[]) (vs:=[vF 102 #[] #[]]) (o:=0) rfl rfl (Az n) rfl<|rm 1 [0] rfl<|kB c fun s g c=>rc _ (AV (caps:=[]) rfl XL rfl) (QH N x_0 x_1 x_2 x_3 _ g) ?_
 refine FY (Ls:=[(GR G x_0 x_1 x_2 x_3)]) 44 AX [B,C,s] [vI B,vI C,vI s] [vI 0,vI 0,vI 0] rfl rfl rfl rfl rfl rfl rfl (by kernel_rfl) (by kernel_rfl) rfl rfl rfl (fun D E F=> ?_)
 refine kB c fun I h c=>rg _ (cF Bx) (fun o w z_=>Bc N ([B,C,s]) _ h z_.view D ((Ar F (Af (Ls:=[(GR G x_0 x_1 x_2 x_3),E]) (k:=1) rfl rfl)) o w z_)) (fun _ _ v_ L_ U_=>⟨fun h_=>h_ _ p _ q _ d _ g _ h,fun h_=>by intro _ e_;cases Option.some.inj (e_.symm.trans p);intro _ e_;cases Option.some.inj (e_.symm.trans q);intro _ e_;cases Option.some.inj (e_.symm.trans d);intro _ e_;cases Option.some.inj (e_.symm.trans g);intro _ e_;cases Option.some.inj (e_.symm.trans h);exact h_⟩) ?_
 refine rz rfl<|A _ _ ?_
 cases c
 exact aR eV1
def DS(N:Nat)(l':List (List UInt8×Int×Int×Int))(ask0_:List (List UInt8)):Nat→Int→Option (Int×Int)
  |0,_=>none
  |n8+1,x1_=>if x1_<(l'.length:Int)then ck (0≤x1_∧x1_<(l'.length:Int)) ((Gf N x1_ ((l'[x1_.toNat]!).1) ((l'[x1_.toNat]!).2.1) ((l'[x1_.toNat]!).2.2.1) ((l'[x1_.toNat]!).2.2.2) ask0_).bind fun r17=>if(r17:Int)≠0 then some (x1_,r17)else ck (R64 (x1_+1)) ((DS N l' ask0_ n8) (x1_+1)))else some (0,0)
def Ie(N:Nat)(l':List (List UInt8×Int×Int×Int))(most:Int)(ask0_:List (List UInt8)):Option (Int×Int):=if(l'.length:Int)>most then some (0,2)else DS N l' ask0_ N 0
theorem Po(N l' most d r)(c:Ie N l' most d=some r)(ro l'v)(hl':Rd HB ro l'v l')(a:Nat)(e)(i:Rd By ro e d)(g:Blk ro a [e])(b:Nat)(h:Blk ro b [vF 102 #[] #[]]):Does prog 165 #[l'v,vI most,vF 166 #[] #[vP a 0,vP b 0]] ro [] (pV (vT #[vI r.1,vI r.2])):=by
 unfold Ie at c
 refine Ag follows func165 rfl 31 rfl _ fz3 (fun v=> ?_)
 refine AZ rfl<|Ae fun E x=>Aa<|rn 1 rfl<|rL (Rd.shp hl') rfl<|rz rfl<|aD c rfl (fun y c=> ?_) (fun y c=> ?_)
 ·refine AZ rfl ?_
  cases c
  exact aR eV2
 refine Ac<|x _ _ ?_
 refine Ae fun F z=>Aa<|rn 1 rfl<|rL (Rd.shp hl') rfl<|rz rfl<|Am<|AS (fun tt ll nn=> ∃(k:Nat) (f:Int),(DS N l' d k f=some r)∧Is [(2,vF 166 #[] #[vP a 0,vP b 0]),(15,l'v),(16,vI (l'.length:Int)),(17,vI f)] [] tt ll∧nn=k+1) (N+1) ?_ ?_
 ·exact⟨N,0,c,Aj rfl rfl,rfl⟩
 clear c;rintro t l _ ⟨k,f,c,⟨⟨T,rfl⟩,rfl⟩,rfl⟩
 rcases k with _|k
 ·exact absurd c (by simp [DS])
 rw [DS] at c
 refine AZ rfl<|Ae fun A m=>aD c rfl (fun n c=> ?_) (fun n c=> ?_)
 ·refine Ac<|m _ _ ?_
  refine Ae fun B p=>Am<|Aa<|rn 1 rfl<|kC c fun j c=>rI (Rd.shp hl') j rfl<|rE (AA hl') j 0 rfl<|rA rfl fun C=>ry [0] rfl<|Aa<|rm 3 [0] rfl<|kB c fun D q c=>gV _ (AV (caps:=[vP a 0,vP b 0]) rfl WO rfl) (fun o w z_=>MN N f ((l'[f.toNat]!).1) ((l'[f.toNat]!).2.1) ((l'[f.toNat]!).2.2.1) ((l'[f.toNat]!).2.2.2) d _ q z_.view a e (z_.r i) (Az g o w z_) b (Az h o w z_))<|rz rfl<|AZ rfl<|aN c rfl (fun s c=> ?_) (fun s c=> ?_)
  ·refine AZ rfl ?_
   cases c
   exact aR eV2
  refine Ac<|p _ _ ?_
  refine An<|kC c fun u c=>rX u rfl<|rz rfl<|fg _ (Sub.of (suC _ suN)) ?_
  exact⟨k+1,by omega,k,(f+1),c,Aj rfl rfl,rfl⟩
 refine AT<|z _ _ ?_
 refine AZ rfl ?_
 cases c
 exact aR eV2
def HV(N:Nat)(l':List (List UInt8×Int×Int×Int))(most:Int):Option (Int×Int):=(HZ N l').bind fun r4=>(Ie N l' most r4).bind fun r11=>some (r11.1,r11.2)
theorem Pg(N l' most r)(a:HV N l' most=some r)(ro l'v)(hl':Rd HB ro l'v l'):Does prog 100 #[l'v,vI most,vF 101 #[] #[],vF 102 #[] #[]] ro [] (pV (vT #[vI r.1,vI r.2])):=by
 unfold HV at a
 refine Ag follows func100 rfl 20 rfl _ fz4 (fun d=> ?_)
 refine Aa<|rA rfl fun b=>rz rfl<|Aa<|rn 2 rfl<|kB a fun j g a=>gS (Ls:=[(NC b (vF 102 #[] #[]))]) (cF WQ) (fun o w z_=>Pk N l' _ g z_.view l'v ((AA hl') o w z_)) (fun e i h=> ?_)
 refine rA rfl fun f=>r_s (List.flatten [(Iy f e),(NC b (vF 102 #[] #[])),i]) 0 _ _ _ _ _ (#[e]) rfl rfl rfl (BZ rfl (Sl.shp h)) (.ofS rfl rfl (Ad (Shp.one (Sl.shp h)) Bf)) rfl rfl<|Ah<|Aa<|rn 2 rfl<|r_W (vF 166 #[] #[vP f 0,vP b 0]) rfl (Db rfl)<|kB a fun l c a=>gV _ (cF WP) (fun o w z_=>Po N l' most j _ c z_.view l'v ((AA hl') o w z_) f e ((Ar h (Af (Ls:=[(Iy f e),(NC b (vF 102 #[] #[])),i]) (k:=2) rfl rfl)) o w z_) (Bi 0 rfl rfl o w z_) b (Bi 1 rfl rfl o w z_))<|rz rfl ?_
 cases a
 exact aR eV2
def Ij(N:Nat)(c:AF):Option (Int×Int):=(HV N c.2.2.2.2.2.2.2.2.2.2.2.2.2.2.1 8).bind fun r4=>some (r4.1,r4.2)
theorem Pt(N c r)(a:Ij N c=some r)(ro)(cv:AE)(hc:Bun59R ro cv c):Does prog 48 #[vA (Ab c cv)] ro [] (pV (vT #[vI r.1,vI r.2])):=by
 unfold Ij at a
 refine Ag follows func48 rfl 10 rfl _ fz1 (fun b=> ?_)
 refine Aa<|rA rfl fun e=>rz rfl<|Aa<|rm 3 [0] rfl<|kB a fun f d a=>gV _ (cF XN) (fun o w z_=>Pg N c.2.2.2.2.2.2.2.2.2.2.2.2.2.2.1 8 _ d z_.view cv.2.2.2.2.2.2.2.2.2.2.2.2.2 ((AA hc.2.2.2.2.2.2.2.2.2.2.2.2.2) o w z_))<|rz rfl ?_
 cases a
 exact aR eV2
inductive Sum62 where
  |nil
  |t94 (x0:Int) (x1:Int) (x2:Int)
  deriving Inhabited
def Sum62.on{β:Type}(x:Sum62)(a:β)(f94:Int→Int→Int→β):β:=match x with| .nil=>a| .t94 x0 x1 x2=>f94 x0 x1 x2
theorem Sum62.on_nil {β:Type}{x:Sum62}{a r:β}{f94:Int→Int→Int→β}(h:x= .nil)(e:Sum62.on x a f94=r):a=r:=by subst h;exact e
theorem Sum62.on_t94 {β:Type}{x:Sum62}{a r:β}{f94:Int→Int→Int→β}{b:Int}{c:Int}{d:Int}(h:x= .t94 b c d)(e:Sum62.on x a f94=r):f94 b c d=r:=by subst h;exact e
def Sum62.onP(x:Sum62)(a:PO)(f94:Int→Int→Int→PO):PO:=match x with| .nil=>a| .t94 x0 x1 x2=>f94 x0 x1 x2
theorem Sum62.onP_nil {x:Sum62}{a:PO}{f94:Int→Int→Int→PO}{v:Value}{O:List (List Bl)}(h:x= .nil)(e:Sum62.onP x a f94 v O):a v O:=by subst h;exact e
theorem Sum62.onP_t94 {x:Sum62}{a:PO}{f94:Int→Int→Int→PO}{b:Int}{c:Int}{d:Int}{v:Value}{O:List (List Bl)}(h:x= .t94 b c d)(e:Sum62.onP x a f94 v O):f94 b c d v O:=by subst h;exact e
theorem Sum62.niceP {x:Sum62}{a:PO}{f94:Int→Int→Int→PO}{R:List Bl}(h:NiceO a R)(b: ∀c d e,NiceO (f94 c d e) R):NiceO (Sum62.onP x a f94) R:=by cases x with|nil=>exact h|t94=>exact b _ _ _
theorem Sum62.cases(x:Sum62):x= .nil∨(∃a b c,x= .t94 a b c):=by cases x<;>simp
def AQ(N:Nat)(m:AF):Nat→Int→Option Sum62
  |0,_=>none
  |n10+1,x1_=>if x1_<15 then ck (0≤x1_∧x1_<(15:Int)) (if x1_=0 then(Jf N m).bind fun r19=>if(r19.2:Int)≠0 then some (.t94 x1_ r19.1 r19.2)else ck (R64 (x1_+1)) ((AQ N m n10) (x1_+1))else if x1_=1 then(Hg N m).bind fun r28=>if(r28.2:Int)≠0 then some (.t94 x1_ r28.1 r28.2)else ck (R64 (x1_+1)) ((AQ N m n10) (x1_+1))else if x1_=2 then(Je N m).bind fun r37=>if(r37.2:Int)≠0 then some (.t94 x1_ r37.1 r37.2)else ck (R64 (x1_+1)) ((AQ N m n10) (x1_+1))else if x1_=3 then(Jc N m).bind fun r46=>if(r46.2:Int)≠0 then some (.t94 x1_ r46.1 r46.2)else ck (R64 (x1_+1)) ((AQ N m n10) (x1_+1))else if x1_=4 then(Ii N m).bind fun r55=>if(r55.2:Int)≠0 then some (.t94 x1_ r55.1 r55.2)else ck (R64 (x1_+1)) ((AQ N m n10) (x1_+1))else if x1_=5 then(Hj N m).bind fun r64=>if(r64.2:Int)≠0 then some (.t94 x1_ r64.1 r64.2)else ck (R64 (x1_+1)) ((AQ N m n10) (x1_+1))else if x1_=6 then(Ig N m).bind fun r73=>if(r73.2:Int)≠0 then some (.t94 x1_ r73.1 r73.2)else ck (R64 (x1_+1)) ((AQ N m n10) (x1_+1))else if x1_=7 then(Hf N m).bind fun r82=>if(r82.2:Int)≠0 then some (.t94 x1_ r82.1 r82.2)else ck (R64 (x1_+1)) ((AQ N m n10) (x1_+1))else if x1_=8 then(Ik N m).bind fun r91=>if(r91.2:Int)≠0 then some (.t94 x1_ r91.1 r91.2)else ck (R64 (x1_+1)) ((AQ N m n10) (x1_+1))else if x1_=9 then(Hh N m).bind fun r100=>if(r100.2:Int)≠0 then some (.t94 x1_ r100.1 r100.2)else ck (R64 (x1_+1)) ((AQ N m n10) (x1_+1))else if x1_=10 then(Il N m).bind fun r109=>if(r109.2:Int)≠0 then some (.t94 x1_ r109.1 r109.2)else ck (R64 (x1_+1)) ((AQ N m n10) (x1_+1))else if x1_=11 then(Hd N m).bind fun r118=>if(r118.2:Int)≠0 then some (.t94 x1_ r118.1 r118.2)else ck (R64 (x1_+1)) ((AQ N m n10) (x1_+1))else if x1_=12 then(Ka N m).bind fun r127=>if(r127.2:Int)≠0 then some (.t94 x1_ r127.1 r127.2)else ck (R64 (x1_+1)) ((AQ N m n10) (x1_+1))else if x1_=13 then(Gm N m).bind fun r136=>if(r136.2:Int)≠0 then some (.t94 x1_ r136.1 r136.2)else ck (R64 (x1_+1)) ((AQ N m n10) (x1_+1))else(Ij N m).bind fun r145=>if(r145.2:Int)≠0 then some (.t94 x1_ r145.1 r145.2)else ck (R64 (x1_+1)) ((AQ N m n10) (x1_+1)))else some (.nil)
def Gx(N:Nat)(m:AF):Option Sum62:=(Ja N m).bind fun r5=>AQ N m N 0
theorem QA(N m r)(b:Gx N m=some r)(ro)(mv:AE)(hm:Bun59R ro mv m):DoesI prog 18 #[vA (Ab m mv)] CR ro [] (pO [] (Sum62.onP r (oE Value.nilIface []) (fun y0_0 y0_1 y0_2=>(oB 96 #[vI y0_0,vI y0_1,vI y0_2] fun bs_0=>(oE (Value.iface 94 (vP bs_0 0)) []))))):=by
 unfold Gx at b
 refine BA follows func18 rfl 30 rfl _ fz1 AG (fun cp=> ?_)
 refine Aa<|r_a (59,(Ab m mv)) rfl rfl rfl (fun b2=> ?_) (.inr rfl)
 refine r_V Value.nilIface rfl<|Ah<|Ae fun K3 cq=>Aa<|rl (vA (Ab m mv)) 0<|r_W (vA (Ab m mv)) rfl (Ji rfl rfl rfl (DC (c:=(Ab m mv)) rfl KZ) (by kernel_rfl)) ?_
 obtain⟨r5,cr,b⟩:=CO b
 refine gS (Ls:=[[(b2,59,(Ab m mv))]]) (cF ZL) (fun o w z_=>QG N m _ cr z_.view mv (Bun59R.mono z_.ro_cell hm)) (fun U s G=> ?_)
 refine r_W (vI 15) rfl (SI (n:=15) rfl rfl rfl (Sl.shp G))<|r_V (vI 0) rfl<|Ah<|Am<|BH _ (Sub.pick [[(b2,59,(Ab m mv))],s] [1] rfl)<|AS (fun tt ll nn=> ∃(d:Nat) (a:Int),(AQ N m d a=some r)∧Is [(9,U),(10,vI 15),(11,vI a)] (List.flatten [s]) tt ll∧nn=d+1) (N+1) ?_ ?_
 ·exact⟨N,0,b,Aj rfl rfl,rfl⟩
 clear b;rintro t l _ ⟨d,a,b,⟨⟨T,rfl⟩,rfl⟩,rfl⟩
 rcases d with _|d
 ·exact absurd b (by simp [AQ])
 rw [AQ] at b
 refine Aa<|r_V (vB (decide (a<15))) rfl<|Ah<|Ae fun ct cf=>Ai _ rfl (fun ax=> ?_) (fun ax=> ?_)
 ·replace b:=iD ax b
  refine Ac<|cf _ _ ?_
  refine Ae fun cu u=>Am<|Ae fun cv v=>An<|r_V (vI a) rfl ?_
  obtain⟨q,b⟩:=CG b
  rcases Decidable.em (a=0)with ac|ac
  ·replace b:=ifp ac b
   refine r_W (elA U (a.toNat*1)) rfl (Cf (Cr rfl rfl rfl (Sl.shp G) (Hk (n:=15) rfl q)))<|KF (vF 34 #[vA (Ab m mv)] #[]) (En:=FX) (⟨vF 34 #[vA (Ab m mv)] #[],rfl⟩) (a.toNat) 0 rfl rfl (Ar G (Af (Ls:=[s]) (k:=0) rfl rfl)) (Hl (i:=0) ac rfl) rfl<|r_R [vI a,vF 34 #[vA (Ab m mv)] #[]] rfl<|Ah<|v _ _ ?_
   refine Aa<|r_V (vF 34 #[vA (Ab m mv)] #[]) rfl ?_
   obtain⟨x,cg,b⟩:=CO b
   refine gV (vT #[vI x.1,vI x.2]) (BS (bd:=[vA (Ab m mv)]) (caps:=[]) rfl ZD rfl) (fun o w z_=>(Does.inv (QN N m _ cg z_.view mv (Bun59R.mono z_.ro_cell hm)) _))<|r_R [vT #[vI x.1,vI x.2],vI x.1,vI x.2,vI x.1,vI x.2] rfl<|Ah<|Aa<|r_R [vI x.2,vB (x.2 !=0)] rfl<|Ah<|Ai _ rfl (fun ay=> ?_) (fun ay=> ?_)
   ·replace b:=iN ay b
    refine Aa<|r_R [vI a,vI x.1,vI x.2] rfl<|r_W (vA #[vI a,vI x.1,vI x.2]) rfl (Aq rfl rfl rfl rfl)<|r_a (96, #[vI a,vI x.1,vI x.2]) rfl rfl rfl (fun am=> ?_) (.inr rfl)
    refine r_R [Value.iface 94 (vP am 0),Value.iface 94 (vP am 0)] rfl<|Ah ?_
    cases b
    refine AO (fun V=>Cw (v0:=Value.iface 94 (vP am 0)) (O:=[(Bo am a x.1 x.2)]) (BP rfl) (Sub.pick [(Bo am a x.1 x.2),s] [0] rfl) ⟨am,_,⟨rfl,rfl⟩,rfl⟩)
   replace b:=iM ay b
   refine Ac<|u _ _ ?_
   refine An ?_
   obtain⟨bo,b⟩:=CG b
   refine r_X (vI (a+1)) rfl (IJ rfl bo.1 bo.2) rfl<|r_V (vI (a+1)) rfl<|Ah<|fg _ (Sub.pick [s] [0] rfl) ?_
   exact⟨d+1,by omega,d,(a+1),b,Aj rfl rfl,rfl⟩
  replace b:=ifn ac b
  rcases Decidable.em (a=1)with ad|ad
  ·replace b:=ifp ad b
   refine r_W (elA U (a.toNat*1)) rfl (Cf (Cr rfl rfl rfl (Sl.shp G) (Hk (n:=15) rfl q)))<|KF (vF 35 #[vA (Ab m mv)] #[]) (En:=FX) (⟨vF 35 #[vA (Ab m mv)] #[],rfl⟩) (a.toNat) 0 rfl rfl (Ar G (Af (Ls:=[s]) (k:=0) rfl rfl)) (Hl (i:=1) ad rfl) rfl<|r_R [vI a,vF 35 #[vA (Ab m mv)] #[]] rfl<|Ah<|v _ _ ?_
   refine Aa<|r_V (vF 35 #[vA (Ab m mv)] #[]) rfl ?_
   obtain⟨y,ch,b⟩:=CO b
   refine gV (vT #[vI y.1,vI y.2]) (BS (bd:=[vA (Ab m mv)]) (caps:=[]) rfl ZC rfl) (fun o w z_=>(Does.inv (Oc N m _ ch z_.view mv (Bun59R.mono z_.ro_cell hm)) _))<|r_R [vT #[vI y.1,vI y.2],vI y.1,vI y.2,vI y.1,vI y.2] rfl<|Ah<|Aa<|r_R [vI y.2,vB (y.2 !=0)] rfl<|Ah<|Ai _ rfl (fun az=> ?_) (fun az=> ?_)
   ·replace b:=iN az b
    refine Aa<|r_R [vI a,vI y.1,vI y.2] rfl<|r_W (vA #[vI a,vI y.1,vI y.2]) rfl (Aq rfl rfl rfl rfl)<|r_a (96, #[vI a,vI y.1,vI y.2]) rfl rfl rfl (fun an=> ?_) (.inr rfl)
    refine r_R [Value.iface 94 (vP an 0),Value.iface 94 (vP an 0)] rfl<|Ah ?_
    cases b
    refine AO (fun V=>Cw (v0:=Value.iface 94 (vP an 0)) (O:=[(Bo an a y.1 y.2)]) (BP rfl) (Sub.pick [(Bo an a y.1 y.2),s] [0] rfl) ⟨an,_,⟨rfl,rfl⟩,rfl⟩)
   replace b:=iM az b
   refine Ac<|u _ _ ?_
   refine An ?_
   obtain⟨bp,b⟩:=CG b
   refine r_X (vI (a+1)) rfl (IJ rfl bp.1 bp.2) rfl<|r_V (vI (a+1)) rfl<|Ah<|fg _ (Sub.pick [s] [0] rfl) ?_
   exact⟨d+1,by omega,d,(a+1),b,Aj rfl rfl,rfl⟩
  replace b:=ifn ad b
  rcases Decidable.em (a=2)with ae|ae
  ·replace b:=ifp ae b
   refine r_W (elA U (a.toNat*1)) rfl (Cf (Cr rfl rfl rfl (Sl.shp G) (Hk (n:=15) rfl q)))<|KF (vF 36 #[vA (Ab m mv)] #[]) (En:=FX) (⟨vF 36 #[vA (Ab m mv)] #[],rfl⟩) (a.toNat) 0 rfl rfl (Ar G (Af (Ls:=[s]) (k:=0) rfl rfl)) (Hl (i:=2) ae rfl) rfl<|r_R [vI a,vF 36 #[vA (Ab m mv)] #[]] rfl<|Ah<|v _ _ ?_
   refine Aa<|r_V (vF 36 #[vA (Ab m mv)] #[]) rfl ?_
   obtain⟨z,ci,b⟩:=CO b
   refine gV (vT #[vI z.1,vI z.2]) (BS (bd:=[vA (Ab m mv)]) (caps:=[]) rfl ZB rfl) (fun o w z_=>(Does.inv (QM N m _ ci z_.view mv (Bun59R.mono z_.ro_cell hm)) _))<|r_R [vT #[vI z.1,vI z.2],vI z.1,vI z.2,vI z.1,vI z.2] rfl<|Ah<|Aa<|r_R [vI z.2,vB (z.2 !=0)] rfl<|Ah<|Ai _ rfl (fun ba=> ?_) (fun ba=> ?_)
   ·replace b:=iN ba b
    refine Aa<|r_R [vI a,vI z.1,vI z.2] rfl<|r_W (vA #[vI a,vI z.1,vI z.2]) rfl (Aq rfl rfl rfl rfl)<|r_a (96, #[vI a,vI z.1,vI z.2]) rfl rfl rfl (fun ao=> ?_) (.inr rfl)
    refine r_R [Value.iface 94 (vP ao 0),Value.iface 94 (vP ao 0)] rfl<|Ah ?_
    cases b
    refine AO (fun V=>Cw (v0:=Value.iface 94 (vP ao 0)) (O:=[(Bo ao a z.1 z.2)]) (BP rfl) (Sub.pick [(Bo ao a z.1 z.2),s] [0] rfl) ⟨ao,_,⟨rfl,rfl⟩,rfl⟩)
   replace b:=iM ba b
   refine Ac<|u _ _ ?_
   refine An ?_
   obtain⟨bq,b⟩:=CG b
   refine r_X (vI (a+1)) rfl (IJ rfl bq.1 bq.2) rfl<|r_V (vI (a+1)) rfl<|Ah<|fg _ (Sub.pick [s] [0] rfl) ?_
   exact⟨d+1,by omega,d,(a+1),b,Aj rfl rfl,rfl⟩
  replace b:=ifn ae b
  rcases Decidable.em (a=3)with af|af
  ·replace b:=ifp af b
   refine r_W (elA U (a.toNat*1)) rfl (Cf (Cr rfl rfl rfl (Sl.shp G) (Hk (n:=15) rfl q)))<|KF (vF 37 #[vA (Ab m mv)] #[]) (En:=FX) (⟨vF 37 #[vA (Ab m mv)] #[],rfl⟩) (a.toNat) 0 rfl rfl (Ar G (Af (Ls:=[s]) (k:=0) rfl rfl)) (Hl (i:=3) af rfl) rfl<|r_R [vI a,vF 37 #[vA (Ab m mv)] #[]] rfl<|Ah<|v _ _ ?_
   refine Aa<|r_V (vF 37 #[vA (Ab m mv)] #[]) rfl ?_
   obtain⟨A,cj,b⟩:=CO b
   refine gV (vT #[vI A.1,vI A.2]) (BS (bd:=[vA (Ab m mv)]) (caps:=[]) rfl ZA rfl) (fun o w z_=>(Does.inv (QJ N m _ cj z_.view mv (Bun59R.mono z_.ro_cell hm)) _))<|r_R [vT #[vI A.1,vI A.2],vI A.1,vI A.2,vI A.1,vI A.2] rfl<|Ah<|Aa<|r_R [vI A.2,vB (A.2 !=0)] rfl<|Ah<|Ai _ rfl (fun bb=> ?_) (fun bb=> ?_)
   ·replace b:=iN bb b
    refine Aa<|r_R [vI a,vI A.1,vI A.2] rfl<|r_W (vA #[vI a,vI A.1,vI A.2]) rfl (Aq rfl rfl rfl rfl)<|r_a (96, #[vI a,vI A.1,vI A.2]) rfl rfl rfl (fun ap=> ?_) (.inr rfl)
    refine r_R [Value.iface 94 (vP ap 0),Value.iface 94 (vP ap 0)] rfl<|Ah ?_
    cases b
    refine AO (fun V=>Cw (v0:=Value.iface 94 (vP ap 0)) (O:=[(Bo ap a A.1 A.2)]) (BP rfl) (Sub.pick [(Bo ap a A.1 A.2),s] [0] rfl) ⟨ap,_,⟨rfl,rfl⟩,rfl⟩)
   replace b:=iM bb b
   refine Ac<|u _ _ ?_
   refine An ?_
   obtain⟨br,b⟩:=CG b
   refine r_X (vI (a+1)) rfl (IJ rfl br.1 br.2) rfl<|r_V (vI (a+1)) rfl<|Ah<|fg _ (Sub.pick [s] [0] rfl) ?_
   exact⟨d+1,by omega,d,(a+1),b,Aj rfl rfl,rfl⟩
  replace b:=ifn af b
  rcases Decidable.em (a=4)with ag|ag
  ·replace b:=ifp ag b
   refine r_W (elA U (a.toNat*1)) rfl (Cf (Cr rfl rfl rfl (Sl.shp G) (Hk (n:=15) rfl q)))<|KF (vF 38 #[vA (Ab m mv)] #[]) (En:=FX) (⟨vF 38 #[vA (Ab m mv)] #[],rfl⟩) (a.toNat) 0 rfl rfl (Ar G (Af (Ls:=[s]) (k:=0) rfl rfl)) (Hl (i:=4) ag rfl) rfl<|r_R [vI a,vF 38 #[vA (Ab m mv)] #[]] rfl<|Ah<|v _ _ ?_
   refine Aa<|r_V (vF 38 #[vA (Ab m mv)] #[]) rfl ?_
   obtain⟨B,ck,b⟩:=CO b
   refine gV (vT #[vI B.1,vI B.2]) (BS (bd:=[vA (Ab m mv)]) (caps:=[]) rfl Zz rfl) (fun o w z_=>Ps N m _ ck z_.view mv (Bun59R.mono z_.ro_cell hm))<|r_R [vT #[vI B.1,vI B.2],vI B.1,vI B.2,vI B.1,vI B.2] rfl<|Ah<|Aa<|r_R [vI B.2,vB (B.2 !=0)] rfl<|Ah<|Ai _ rfl (fun bc=> ?_) (fun bc=> ?_)
   ·replace b:=iN bc b
    refine Aa<|r_R [vI a,vI B.1,vI B.2] rfl<|r_W (vA #[vI a,vI B.1,vI B.2]) rfl (Aq rfl rfl rfl rfl)<|r_a (96, #[vI a,vI B.1,vI B.2]) rfl rfl rfl (fun aq=> ?_) (.inr rfl)
    refine r_R [Value.iface 94 (vP aq 0),Value.iface 94 (vP aq 0)] rfl<|Ah ?_
    cases b
    refine AO (fun V=>Cw (v0:=Value.iface 94 (vP aq 0)) (O:=[(Bo aq a B.1 B.2)]) (BP rfl) (Sub.pick [(Bo aq a B.1 B.2),s] [0] rfl) ⟨aq,_,⟨rfl,rfl⟩,rfl⟩)
   replace b:=iM bc b
   refine Ac<|u _ _ ?_
   refine An ?_
   obtain⟨bs,b⟩:=CG b
   refine r_X (vI (a+1)) rfl (IJ rfl bs.1 bs.2) rfl<|r_V (vI (a+1)) rfl<|Ah<|fg _ (Sub.pick [s] [0] rfl) ?_
   exact⟨d+1,by omega,d,(a+1),b,Aj rfl rfl,rfl⟩
  replace b:=ifn ag b
  rcases Decidable.em (a=5)with ah|ah
  ·replace b:=ifp ah b
   refine r_W (elA U (a.toNat*1)) rfl (Cf (Cr rfl rfl rfl (Sl.shp G) (Hk (n:=15) rfl q)))<|KF (vF 39 #[vA (Ab m mv)] #[]) (En:=FX) (⟨vF 39 #[vA (Ab m mv)] #[],rfl⟩) (a.toNat) 0 rfl rfl (Ar G (Af (Ls:=[s]) (k:=0) rfl rfl)) (Hl (i:=5) ah rfl) rfl<|r_R [vI a,vF 39 #[vA (Ab m mv)] #[]] rfl<|Ah<|v _ _ ?_
   refine Aa<|r_V (vF 39 #[vA (Ab m mv)] #[]) rfl ?_
   obtain⟨C,cl,b⟩:=CO b
   refine gV (vT #[vI C.1,vI C.2]) (BS (bd:=[vA (Ab m mv)]) (caps:=[]) rfl Zy rfl) (fun o w z_=>Og N m _ cl z_.view mv (Bun59R.mono z_.ro_cell hm))<|r_R [vT #[vI C.1,vI C.2],vI C.1,vI C.2,vI C.1,vI C.2] rfl<|Ah<|Aa<|r_R [vI C.2,vB (C.2 !=0)] rfl<|Ah<|Ai _ rfl (fun be=> ?_) (fun be=> ?_)
   ·replace b:=iN be b
    refine Aa<|r_R [vI a,vI C.1,vI C.2] rfl<|r_W (vA #[vI a,vI C.1,vI C.2]) rfl (Aq rfl rfl rfl rfl)<|r_a (96, #[vI a,vI C.1,vI C.2]) rfl rfl rfl (fun ar=> ?_) (.inr rfl)
    refine r_R [Value.iface 94 (vP ar 0),Value.iface 94 (vP ar 0)] rfl<|Ah ?_
    cases b
    refine AO (fun V=>Cw (v0:=Value.iface 94 (vP ar 0)) (O:=[(Bo ar a C.1 C.2)]) (BP rfl) (Sub.pick [(Bo ar a C.1 C.2),s] [0] rfl) ⟨ar,_,⟨rfl,rfl⟩,rfl⟩)
   replace b:=iM be b
   refine Ac<|u _ _ ?_
   refine An ?_
   obtain⟨bt,b⟩:=CG b
   refine r_X (vI (a+1)) rfl (IJ rfl bt.1 bt.2) rfl<|r_V (vI (a+1)) rfl<|Ah<|fg _ (Sub.pick [s] [0] rfl) ?_
   exact⟨d+1,by omega,d,(a+1),b,Aj rfl rfl,rfl⟩
  replace b:=ifn ah b
  rcases Decidable.em (a=6)with ai|ai
  ·replace b:=ifp ai b
   refine r_W (elA U (a.toNat*1)) rfl (Cf (Cr rfl rfl rfl (Sl.shp G) (Hk (n:=15) rfl q)))<|KF (vF 40 #[vA (Ab m mv)] #[]) (En:=FX) (⟨vF 40 #[vA (Ab m mv)] #[],rfl⟩) (a.toNat) 0 rfl rfl (Ar G (Af (Ls:=[s]) (k:=0) rfl rfl)) (Hl (i:=6) ai rfl) rfl<|r_R [vI a,vF 40 #[vA (Ab m mv)] #[]] rfl<|Ah<|v _ _ ?_
   refine Aa<|r_V (vF 40 #[vA (Ab m mv)] #[]) rfl ?_
   obtain⟨D,cm,b⟩:=CO b
   refine gV (vT #[vI D.1,vI D.2]) (BS (bd:=[vA (Ab m mv)]) (caps:=[]) rfl Zx rfl) (fun o w z_=>Pq N m _ cm z_.view mv (Bun59R.mono z_.ro_cell hm))<|r_R [vT #[vI D.1,vI D.2],vI D.1,vI D.2,vI D.1,vI D.2] rfl<|Ah<|Aa<|r_R [vI D.2,vB (D.2 !=0)] rfl<|Ah<|Ai _ rfl (fun bf=> ?_) (fun bf=> ?_)
   ·replace b:=iN bf b
    refine Aa<|r_R [vI a,vI D.1,vI D.2] rfl<|r_W (vA #[vI a,vI D.1,vI D.2]) rfl (Aq rfl rfl rfl rfl)<|r_a (96, #[vI a,vI D.1,vI D.2]) rfl rfl rfl (fun au=> ?_) (.inr rfl)
    refine r_R [Value.iface 94 (vP au 0),Value.iface 94 (vP au 0)] rfl<|Ah ?_
    cases b
    refine AO (fun V=>Cw (v0:=Value.iface 94 (vP au 0)) (O:=[(Bo au a D.1 D.2)]) (BP rfl) (Sub.pick [(Bo au a D.1 D.2),s] [0] rfl) ⟨au,_,⟨rfl,rfl⟩,rfl⟩)
   replace b:=iM bf b
   refine Ac<|u _ _ ?_
   refine An ?_
   obtain⟨bu,b⟩:=CG b
   refine r_X (vI (a+1)) rfl (IJ rfl bu.1 bu.2) rfl<|r_V (vI (a+1)) rfl<|Ah<|fg _ (Sub.pick [s] [0] rfl) ?_
   exact⟨d+1,by omega,d,(a+1),b,Aj rfl rfl,rfl⟩
  replace b:=ifn ai b
  rcases Decidable.em (a=7)with aj|aj
  ·replace b:=ifp aj b
   refine r_W (elA U (a.toNat*1)) rfl (Cf (Cr rfl rfl rfl (Sl.shp G) (Hk (n:=15) rfl q)))<|KF (vF 41 #[vA (Ab m mv)] #[]) (En:=FX) (⟨vF 41 #[vA (Ab m mv)] #[],rfl⟩) (a.toNat) 0 rfl rfl (Ar G (Af (Ls:=[s]) (k:=0) rfl rfl)) (Hl (i:=7) aj rfl) rfl<|r_R [vI a,vF 41 #[vA (Ab m mv)] #[]] rfl<|Ah<|v _ _ ?_
   refine Aa<|r_V (vF 41 #[vA (Ab m mv)] #[]) rfl ?_
   obtain⟨E,cn,b⟩:=CO b
   refine gV (vT #[vI E.1,vI E.2]) (BS (bd:=[vA (Ab m mv)]) (caps:=[]) rfl Zw rfl) (fun o w z_=>Ob N m _ cn z_.view mv (Bun59R.mono z_.ro_cell hm))<|r_R [vT #[vI E.1,vI E.2],vI E.1,vI E.2,vI E.1,vI E.2] rfl<|Ah<|Aa<|r_R [vI E.2,vB (E.2 !=0)] rfl<|Ah<|Ai _ rfl (fun bg=> ?_) (fun bg=> ?_)
   ·replace b:=iN bg b
    refine Aa<|r_R [vI a,vI E.1,vI E.2] rfl<|r_W (vA #[vI a,vI E.1,vI E.2]) rfl (Aq rfl rfl rfl rfl)<|r_a (96, #[vI a,vI E.1,vI E.2]) rfl rfl rfl (fun av=> ?_) (.inr rfl)
    refine r_R [Value.iface 94 (vP av 0),Value.iface 94 (vP av 0)] rfl<|Ah ?_
    cases b
    refine AO (fun V=>Cw (v0:=Value.iface 94 (vP av 0)) (O:=[(Bo av a E.1 E.2)]) (BP rfl) (Sub.pick [(Bo av a E.1 E.2),s] [0] rfl) ⟨av,_,⟨rfl,rfl⟩,rfl⟩)
   replace b:=iM bg b
   refine Ac<|u _ _ ?_
   refine An ?_
   obtain⟨bv,b⟩:=CG b
   refine r_X (vI (a+1)) rfl (IJ rfl bv.1 bv.2) rfl<|r_V (vI (a+1)) rfl<|Ah<|fg _ (Sub.pick [s] [0] rfl) ?_
   exact⟨d+1,by omega,d,(a+1),b,Aj rfl rfl,rfl⟩
  replace b:=ifn aj b
  rcases Decidable.em (a=8)with ak|ak
  ·replace b:=ifp ak b
   refine r_W (elA U (a.toNat*1)) rfl (Cf (Cr rfl rfl rfl (Sl.shp G) (Hk (n:=15) rfl q)))<|KF (vF 42 #[vA (Ab m mv)] #[]) (En:=FX) (⟨vF 42 #[vA (Ab m mv)] #[],rfl⟩) (a.toNat) 0 rfl rfl (Ar G (Af (Ls:=[s]) (k:=0) rfl rfl)) (Hl (i:=8) ak rfl) rfl<|r_R [vI a,vF 42 #[vA (Ab m mv)] #[]] rfl<|Ah<|v _ _ ?_
   refine Aa<|r_V (vF 42 #[vA (Ab m mv)] #[]) rfl ?_
   obtain⟨F,co,b⟩:=CO b
   refine gV (vT #[vI F.1,vI F.2]) (BS (bd:=[vA (Ab m mv)]) (caps:=[]) rfl Zv rfl) (fun o w z_=>Pu N m _ co z_.view mv (Bun59R.mono z_.ro_cell hm))<|r_R [vT #[vI F.1,vI F.2],vI F.1,vI F.2,vI F.1,vI F.2] rfl<|Ah<|Aa<|r_R [vI F.2,vB (F.2 !=0)] rfl<|Ah<|Ai _ rfl (fun bh=> ?_) (fun bh=> ?_)
   ·replace b:=iN bh b
    refine Aa<|r_R [vI a,vI F.1,vI F.2] rfl<|r_W (vA #[vI a,vI F.1,vI F.2]) rfl (Aq rfl rfl rfl rfl)<|r_a (96, #[vI a,vI F.1,vI F.2]) rfl rfl rfl (fun aw=> ?_) (.inr rfl)
    refine r_R [Value.iface 94 (vP aw 0),Value.iface 94 (vP aw 0)] rfl<|Ah ?_
    cases b
    refine AO (fun V=>Cw (v0:=Value.iface 94 (vP aw 0)) (O:=[(Bo aw a F.1 F.2)]) (BP rfl) (Sub.pick [(Bo aw a F.1 F.2),s] [0] rfl) ⟨aw,_,⟨rfl,rfl⟩,rfl⟩)
   replace b:=iM bh b
   refine Ac<|u _ _ ?_
   refine An ?_
   obtain⟨bw,b⟩:=CG b
   refine r_X (vI (a+1)) rfl (IJ rfl bw.1 bw.2) rfl<|r_V (vI (a+1)) rfl<|Ah<|fg _ (Sub.pick [s] [0] rfl) ?_
   exact⟨d+1,by omega,d,(a+1),b,Aj rfl rfl,rfl⟩
  replace b:=ifn ak b
  rcases Decidable.em (a=9)with al|al
  ·replace b:=ifp al b
   refine r_W (elA U (a.toNat*1)) rfl (Cf (Cr rfl rfl rfl (Sl.shp G) (Hk (n:=15) rfl q)))<|KF (vF 43 #[vA (Ab m mv)] #[]) (En:=FX) (⟨vF 43 #[vA (Ab m mv)] #[],rfl⟩) (a.toNat) 0 rfl rfl (Ar G (Af (Ls:=[s]) (k:=0) rfl rfl)) (Hl (i:=9) al rfl) rfl<|r_R [vI a,vF 43 #[vA (Ab m mv)] #[]] rfl<|Ah<|v _ _ ?_
   refine Aa<|r_V (vF 43 #[vA (Ab m mv)] #[]) rfl ?_
   obtain⟨e,bx,b⟩:=CO b
   refine gV (vT #[vI e.1,vI e.2]) (BS (bd:=[vA (Ab m mv)]) (caps:=[]) rfl Zu rfl) (fun o w z_=>(Does.inv (Od N m _ bx z_.view mv (Bun59R.mono z_.ro_cell hm)) _))<|r_R [vT #[vI e.1,vI e.2],vI e.1,vI e.2,vI e.1,vI e.2] rfl<|Ah<|Aa<|r_R [vI e.2,vB (e.2 !=0)] rfl<|Ah<|Ai _ rfl (fun W=> ?_) (fun W=> ?_)
   ·replace b:=iN W b
    refine Aa<|r_R [vI a,vI e.1,vI e.2] rfl<|r_W (vA #[vI a,vI e.1,vI e.2]) rfl (Aq rfl rfl rfl rfl)<|r_a (96, #[vI a,vI e.1,vI e.2]) rfl rfl rfl (fun H=> ?_) (.inr rfl)
    refine r_R [Value.iface 94 (vP H 0),Value.iface 94 (vP H 0)] rfl<|Ah ?_
    cases b
    refine AO (fun V=>Cw (v0:=Value.iface 94 (vP H 0)) (O:=[(Bo H a e.1 e.2)]) (BP rfl) (Sub.pick [(Bo H a e.1 e.2),s] [0] rfl) ⟨H,_,⟨rfl,rfl⟩,rfl⟩)
   replace b:=iM W b
   refine Ac<|u _ _ ?_
   refine An ?_
   obtain⟨bi,b⟩:=CG b
   refine r_X (vI (a+1)) rfl (IJ rfl bi.1 bi.2) rfl<|r_V (vI (a+1)) rfl<|Ah<|fg _ (Sub.pick [s] [0] rfl) ?_
   exact⟨d+1,by omega,d,(a+1),b,Aj rfl rfl,rfl⟩
  replace b:=ifn al b
  rcases Decidable.em (a=10)with P|P
  ·replace b:=ifp P b
   refine r_W (elA U (a.toNat*1)) rfl (Cf (Cr rfl rfl rfl (Sl.shp G) (Hk (n:=15) rfl q)))<|KF (vF 44 #[vA (Ab m mv)] #[]) (En:=FX) (⟨vF 44 #[vA (Ab m mv)] #[],rfl⟩) (a.toNat) 0 rfl rfl (Ar G (Af (Ls:=[s]) (k:=0) rfl rfl)) (Hl (i:=10) P rfl) rfl<|r_R [vI a,vF 44 #[vA (Ab m mv)] #[]] rfl<|Ah<|v _ _ ?_
   refine Aa<|r_V (vF 44 #[vA (Ab m mv)] #[]) rfl ?_
   obtain⟨f,bz,b⟩:=CO b
   refine gV (vT #[vI f.1,vI f.2]) (BS (bd:=[vA (Ab m mv)]) (caps:=[]) rfl Zt rfl) (fun o w z_=>(Does.inv (Pw N m _ bz z_.view mv (Bun59R.mono z_.ro_cell hm)) _))<|r_R [vT #[vI f.1,vI f.2],vI f.1,vI f.2,vI f.1,vI f.2] rfl<|Ah<|Aa<|r_R [vI f.2,vB (f.2 !=0)] rfl<|Ah<|Ai _ rfl (fun X=> ?_) (fun X=> ?_)
   ·replace b:=iN X b
    refine Aa<|r_R [vI a,vI f.1,vI f.2] rfl<|r_W (vA #[vI a,vI f.1,vI f.2]) rfl (Aq rfl rfl rfl rfl)<|r_a (96, #[vI a,vI f.1,vI f.2]) rfl rfl rfl (fun I=> ?_) (.inr rfl)
    refine r_R [Value.iface 94 (vP I 0),Value.iface 94 (vP I 0)] rfl<|Ah ?_
    cases b
    refine AO (fun V=>Cw (v0:=Value.iface 94 (vP I 0)) (O:=[(Bo I a f.1 f.2)]) (BP rfl) (Sub.pick [(Bo I a f.1 f.2),s] [0] rfl) ⟨I,_,⟨rfl,rfl⟩,rfl⟩)
   replace b:=iM X b
   refine Ac<|u _ _ ?_
   refine An ?_
   obtain⟨bj,b⟩:=CG b
   refine r_X (vI (a+1)) rfl (IJ rfl bj.1 bj.2) rfl<|r_V (vI (a+1)) rfl<|Ah<|fg _ (Sub.pick [s] [0] rfl) ?_
   exact⟨d+1,by omega,d,(a+1),b,Aj rfl rfl,rfl⟩
  replace b:=ifn P b
  rcases Decidable.em (a=11)with Q|Q
  ·replace b:=ifp Q b
   refine r_W (elA U (a.toNat*1)) rfl (Cf (Cr rfl rfl rfl (Sl.shp G) (Hk (n:=15) rfl q)))<|KF (vF 45 #[vA (Ab m mv)] #[]) (En:=FX) (⟨vF 45 #[vA (Ab m mv)] #[],rfl⟩) (a.toNat) 0 rfl rfl (Ar G (Af (Ls:=[s]) (k:=0) rfl rfl)) (Hl (i:=11) Q rfl) rfl<|r_R [vI a,vF 45 #[vA (Ab m mv)] #[]] rfl<|Ah<|v _ _ ?_
   refine Aa<|r_V (vF 45 #[vA (Ab m mv)] #[]) rfl ?_
   obtain⟨g,ca,b⟩:=CO b
   refine gV (vT #[vI g.1,vI g.2]) (BS (bd:=[vA (Ab m mv)]) (caps:=[]) rfl Zs rfl) (fun o w z_=>(Does.inv (NX N m _ ca z_.view mv (Bun59R.mono z_.ro_cell hm)) _))<|r_R [vT #[vI g.1,vI g.2],vI g.1,vI g.2,vI g.1,vI g.2] rfl<|Ah<|Aa<|r_R [vI g.2,vB (g.2 !=0)] rfl<|Ah<|Ai _ rfl (fun Y=> ?_) (fun Y=> ?_)
   ·replace b:=iN Y b
    refine Aa<|r_R [vI a,vI g.1,vI g.2] rfl<|r_W (vA #[vI a,vI g.1,vI g.2]) rfl (Aq rfl rfl rfl rfl)<|r_a (96, #[vI a,vI g.1,vI g.2]) rfl rfl rfl (fun J=> ?_) (.inr rfl)
    refine r_R [Value.iface 94 (vP J 0),Value.iface 94 (vP J 0)] rfl<|Ah ?_
    cases b
    refine AO (fun V=>Cw (v0:=Value.iface 94 (vP J 0)) (O:=[(Bo J a g.1 g.2)]) (BP rfl) (Sub.pick [(Bo J a g.1 g.2),s] [0] rfl) ⟨J,_,⟨rfl,rfl⟩,rfl⟩)
   replace b:=iM Y b
   refine Ac<|u _ _ ?_
   refine An ?_
   obtain⟨bk,b⟩:=CG b
   refine r_X (vI (a+1)) rfl (IJ rfl bk.1 bk.2) rfl<|r_V (vI (a+1)) rfl<|Ah<|fg _ (Sub.pick [s] [0] rfl) ?_
   exact⟨d+1,by omega,d,(a+1),b,Aj rfl rfl,rfl⟩
  replace b:=ifn Q b
  rcases Decidable.em (a=12)with R|R
  ·replace b:=ifp R b
   refine r_W (elA U (a.toNat*1)) rfl (Cf (Cr rfl rfl rfl (Sl.shp G) (Hk (n:=15) rfl q)))<|KF (vF 46 #[vA (Ab m mv)] #[]) (En:=FX) (⟨vF 46 #[vA (Ab m mv)] #[],rfl⟩) (a.toNat) 0 rfl rfl (Ar G (Af (Ls:=[s]) (k:=0) rfl rfl)) (Hl (i:=12) R rfl) rfl<|r_R [vI a,vF 46 #[vA (Ab m mv)] #[]] rfl<|Ah<|v _ _ ?_
   refine Aa<|r_V (vF 46 #[vA (Ab m mv)] #[]) rfl ?_
   obtain⟨h,cb,b⟩:=CO b
   refine gV (vT #[vI h.1,vI h.2]) (BS (bd:=[vA (Ab m mv)]) (caps:=[]) rfl Zr rfl) (fun o w z_=>(Does.inv (Sn N m _ cb z_.view mv (Bun59R.mono z_.ro_cell hm)) _))<|r_R [vT #[vI h.1,vI h.2],vI h.1,vI h.2,vI h.1,vI h.2] rfl<|Ah<|Aa<|r_R [vI h.2,vB (h.2 !=0)] rfl<|Ah<|Ai _ rfl (fun Z=> ?_) (fun Z=> ?_)
   ·replace b:=iN Z b
    refine Aa<|r_R [vI a,vI h.1,vI h.2] rfl<|r_W (vA #[vI a,vI h.1,vI h.2]) rfl (Aq rfl rfl rfl rfl)<|r_a (96, #[vI a,vI h.1,vI h.2]) rfl rfl rfl (fun K=> ?_) (.inr rfl)
    refine r_R [Value.iface 94 (vP K 0),Value.iface 94 (vP K 0)] rfl<|Ah ?_
    cases b
    refine AO (fun V=>Cw (v0:=Value.iface 94 (vP K 0)) (O:=[(Bo K a h.1 h.2)]) (BP rfl) (Sub.pick [(Bo K a h.1 h.2),s] [0] rfl) ⟨K,_,⟨rfl,rfl⟩,rfl⟩)
   replace b:=iM Z b
   refine Ac<|u _ _ ?_
   refine An ?_
   obtain⟨bl,b⟩:=CG b
   refine r_X (vI (a+1)) rfl (IJ rfl bl.1 bl.2) rfl<|r_V (vI (a+1)) rfl<|Ah<|fg _ (Sub.pick [s] [0] rfl) ?_
   exact⟨d+1,by omega,d,(a+1),b,Aj rfl rfl,rfl⟩
  replace b:=ifn R b
  rcases Decidable.em (a=13)with S|S
  ·replace b:=ifp S b
   refine r_W (elA U (a.toNat*1)) rfl (Cf (Cr rfl rfl rfl (Sl.shp G) (Hk (n:=15) rfl q)))<|KF (vF 47 #[vA (Ab m mv)] #[]) (En:=FX) (⟨vF 47 #[vA (Ab m mv)] #[],rfl⟩) (a.toNat) 0 rfl rfl (Ar G (Af (Ls:=[s]) (k:=0) rfl rfl)) (Hl (i:=13) S rfl) rfl<|r_R [vI a,vF 47 #[vA (Ab m mv)] #[]] rfl<|Ah<|v _ _ ?_
   refine Aa<|r_V (vF 47 #[vA (Ab m mv)] #[]) rfl ?_
   obtain⟨j,cc,b⟩:=CO b
   refine gV (vT #[vI j.1,vI j.2]) (BS (bd:=[vA (Ab m mv)]) (caps:=[]) rfl Zq rfl) (fun o w z_=>(Does.inv (MW N m _ cc z_.view mv (Bun59R.mono z_.ro_cell hm)) _))<|r_R [vT #[vI j.1,vI j.2],vI j.1,vI j.2,vI j.1,vI j.2] rfl<|Ah<|Aa<|r_R [vI j.2,vB (j.2 !=0)] rfl<|Ah<|Ai _ rfl (fun aa=> ?_) (fun aa=> ?_)
   ·replace b:=iN aa b
    refine Aa<|r_R [vI a,vI j.1,vI j.2] rfl<|r_W (vA #[vI a,vI j.1,vI j.2]) rfl (Aq rfl rfl rfl rfl)<|r_a (96, #[vI a,vI j.1,vI j.2]) rfl rfl rfl (fun L=> ?_) (.inr rfl)
    refine r_R [Value.iface 94 (vP L 0),Value.iface 94 (vP L 0)] rfl<|Ah ?_
    cases b
    refine AO (fun V=>Cw (v0:=Value.iface 94 (vP L 0)) (O:=[(Bo L a j.1 j.2)]) (BP rfl) (Sub.pick [(Bo L a j.1 j.2),s] [0] rfl) ⟨L,_,⟨rfl,rfl⟩,rfl⟩)
   replace b:=iM aa b
   refine Ac<|u _ _ ?_
   refine An ?_
   obtain⟨bm,b⟩:=CG b
   refine r_X (vI (a+1)) rfl (IJ rfl bm.1 bm.2) rfl<|r_V (vI (a+1)) rfl<|Ah<|fg _ (Sub.pick [s] [0] rfl) ?_
   exact⟨d+1,by omega,d,(a+1),b,Aj rfl rfl,rfl⟩
  replace b:=ifn S b
  have cd:a=14:=Yu q (by omega)
  refine r_W (elA U (a.toNat*1)) rfl (Cf (Cr rfl rfl rfl (Sl.shp G) (Hk (n:=15) rfl q)))<|KF (vF 48 #[vA (Ab m mv)] #[]) (En:=FX) (⟨vF 48 #[vA (Ab m mv)] #[],rfl⟩) (a.toNat) 0 rfl rfl (Ar G (Af (Ls:=[s]) (k:=0) rfl rfl)) (Hl (i:=14) cd rfl) rfl<|r_R [vI a,vF 48 #[vA (Ab m mv)] #[]] rfl<|Ah<|v _ _ ?_
  refine Aa<|r_V (vF 48 #[vA (Ab m mv)] #[]) rfl ?_
  obtain⟨p,ce,b⟩:=CO b
  refine gV (vT #[vI p.1,vI p.2]) (BS (bd:=[vA (Ab m mv)]) (caps:=[]) rfl Zp rfl) (fun o w z_=>(Does.inv (Pt N m _ ce z_.view mv (Bun59R.mono z_.ro_cell hm)) _))<|r_R [vT #[vI p.1,vI p.2],vI p.1,vI p.2,vI p.1,vI p.2] rfl<|Ah<|Aa<|r_R [vI p.2,vB (p.2 !=0)] rfl<|Ah<|Ai _ rfl (fun ab=> ?_) (fun ab=> ?_)
  ·replace b:=iN ab b
   refine Aa<|r_R [vI a,vI p.1,vI p.2] rfl<|r_W (vA #[vI a,vI p.1,vI p.2]) rfl (Aq rfl rfl rfl rfl)<|r_a (96, #[vI a,vI p.1,vI p.2]) rfl rfl rfl (fun M=> ?_) (.inr rfl)
   refine r_R [Value.iface 94 (vP M 0),Value.iface 94 (vP M 0)] rfl<|Ah ?_
   cases b
   refine AO (fun V=>Cw (v0:=Value.iface 94 (vP M 0)) (O:=[(Bo M a p.1 p.2)]) (BP rfl) (Sub.pick [(Bo M a p.1 p.2),s] [0] rfl) ⟨M,_,⟨rfl,rfl⟩,rfl⟩)
  replace b:=iM ab b
  refine Ac<|u _ _ ?_
  refine An ?_
  obtain⟨bn,b⟩:=CG b
  refine r_X (vI (a+1)) rfl (IJ rfl bn.1 bn.2) rfl<|r_V (vI (a+1)) rfl<|Ah<|fg _ (Sub.pick [s] [0] rfl) ?_
  exact⟨d+1,by omega,d,(a+1),b,Aj rfl rfl,rfl⟩
 replace b:=iF ax b
 refine AT<|cq _ _ ?_
 refine Aa<|r_V Value.nilIface rfl<|Ah ?_
 cases b
 refine AO (fun V=>Cw (v0:=Value.nilIface) (O:=[]) (BP rfl) (Sub.nil _) ⟨rfl,rfl⟩)
end Go.Proofs.YtajdpjdejpcgnaaGreatDoor
