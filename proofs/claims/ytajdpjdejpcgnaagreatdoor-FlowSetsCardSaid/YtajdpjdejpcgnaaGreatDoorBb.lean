import Derived.Test.YtajdpjdejpcgnaaGreatDoorBa
namespace Go.Proofs.YtajdpjdejpcgnaaGreatDoor
open Go Go.RowKit Go.Eng _root_.Go.Proofs.Tryz
set_option maxRecDepth 100000
set_option maxHeartbeats 80000000
abbrev AL(b:Nat)(x0:Value)(x1:Value):List Bl:=[(b,311, #[x0,x1])]
abbrev Kw(b:Nat)(x0:List UInt8)(x1:Int):List Bl:=[(b,78, #[vS x0,vI x1])]
abbrev Qy(b:Nat)(x0:List UInt8)(x1:Value)(x2:Int)(x3:Int)(x4:Int)(x5:Int):List Bl:=[(b,80, #[vS x0,x1,vI x2,vI x3,vI x4,vI x5])]
abbrev LB(b:Nat)(x0:Value):List Bl:=[(b,149, #[x0])]
abbrev Uk(b:Nat)(x0:Value):List Bl:=[(b,48, #[x0])]
abbrev Uj(b:Nat)(x0:List UInt8)(x1:Int)(x2:Int):List Bl:=[(b,82, #[vS x0,vI x1,vI x2])]
abbrev NJ(b:Nat)(x0:Value):List Bl:=[(b,160, #[x0])]
abbrev Qx(b:Nat)(x0:List UInt8)(x1:Value)(x2:Value)(x3:Value)(x4:Int):List Bl:=[(b,87, #[vS x0,x1,x2,x3,vI x4])]
def Fs(_:Nat)(b:List UInt8):Option (List UInt8):=some b
theorem LS(N b r)(c:Fs N b=some r)(ro:Ro)(bb:Nat)(bv:Value)(Sb:List Bl)(hb:Sl 5 encYs bv b Sb):Does prog 212 #[vP bb 0] ro (List.flatten [(AL bb (vP bb 0) bv),Sb]) (pO (List.flatten [(AL bb (vP bb 0) bv),Sb]) (oI 5 encYs bv r (oE (vT #[]) [(AL bb (vP bb 0) bv)]))):=by
 unfold Fs at c
 refine BA follows func212 rfl 20 rfl _ fz1 (fun _ _ h_ _=>h_) (fun a=> ?_)
 refine AY [0] rfl<|Ai false rfl (fun h_=>nomatch h_) (fun _=> ?_)
 refine Aa<|rm 5 [0] rfl<|r_W (vB false) rfl (Yw rfl rfl rfl rfl rfl)<|Ah<|Ai false rfl (fun h_=>nomatch h_) (fun _=> ?_)
 refine Ac ?_
 cases c
 refine Oo (v0:=vT #[]) (O:=[Sb,(AL bb (vP bb 0) bv)]) rfl (Sub.pick [(AL bb (vP bb 0) bv),Sb] [1,0] rfl) ⟨Sb,_,hb,⟨rfl,rfl⟩,rfl⟩
def Fw(N:Nat)(b:List UInt8)(r':Int):Option (Int×(List UInt8)):=(Fs N b).bind fun r3=>ck ((r3).length=(b).length) ((Qk N r3 r').bind fun r10=>ck ((R64 ((r10.length:Int) - (r3.length:Int)))) (some (((r10.length:Int) - (r3.length:Int)),r10)))
theorem LV(N b r' r)(d:Fw N b r'=some r)(ro:Ro)(bb:Nat)(bv:Value)(Sb:List Bl)(hb:Sl 5 encYs bv b Sb):Does prog 204 #[vP bb 0,Value.int .i32 r'] ro (List.flatten [(AL bb (vP bb 0) bv),Sb]) (pO (List.flatten [(AL bb (vP bb 0) bv),Sb]) (oS 5 encYs r.2 fun s_0=>(oE (vT #[vI r.1,Value.nilIface]) [(AL bb (vP bb 0) s_0)]))):=by
 unfold Fw at d
 refine BA follows func204 rfl 30 rfl _ fz2 (fun _ _ h_ _=>h_) (fun j=> ?_)
 refine AZ rfl<|Aa<|rn 1 rfl<|kB d fun k l d=>kC d fun n d=>gM (Ls:=[(AL bb (vP bb 0) bv),Sb]) (FL:=[(AL bb (vP bb 0) bv),Sb]) [0,1] (cF OG) (fun o w hn_ z_=>LS N b _ l _ bb bv Sb hb) ?_
 rintro _ _ ⟨f,_,m,⟨rfl,rfl⟩,rfl⟩
 refine BC (Ls:=[f,(AL bb (vP bb 0) bv)]) (Ls':=[(AL bb (vP bb 0) bv),f]) [1,0] rfl rfl<|Ah<|Aa<|rm 4 [0] rfl<|rL (Sl.shp m) rfl<|rz rfl<|Aa<|rm 6 [0] rfl<|kB d fun g h d=>gM (Ls:=[(AL bb (vP bb 0) bv),f]) (FL:=[f]) [1] (cF SN) (fun o w hn_ z_=>Vl N k r' _ h _ bv f m) ?_
 rintro c _ ⟨_,a,_,e,⟨rfl,rfl⟩,rfl⟩
 refine BC (Ls:=[(AL bb (vP bb 0) bv),a]) (Ls':=[(AL bb (vP bb 0) bv),a]) [0,1] rfl rfl<|rn 2 rfl<|r_s (List.flatten [(AL bb (vP bb 0) c),a]) 0 _ _ _ _ _ (#[vP bb 0,c]) rfl rfl rfl (BZ rfl (Sl.shp e)) (.ofS rfl rfl (Ad (Shp.one (Sl.shp e)) Bf)) rfl rfl<|Ah<|Aa<|rm 4 [0] rfl<|rL (Sl.shp e) rfl<|rn 1 rfl<|kC d fun i d=>rX i rfl<|rz rfl<|Cx [(4,vI ((g.length:Int) - (k.length:Int))),(5,Value.nilIface)] rfl (fun T=> ?_)
 cases d
 refine AO (fun p=>Cw (v0:=vT #[vI ((g.length:Int) - (k.length:Int)),Value.nilIface]) (O:=[a,(AL bb (vP bb 0) c)]) (Iu rfl rfl) (Sub.pick [(AL bb (vP bb 0) c),a] [1,0] rfl) ⟨c,a,_,e,⟨rfl,rfl⟩,rfl⟩)
def Hr(N:Nat)(b:List UInt8)(r':Int):Option (Int×(List UInt8)):=Fw N b r'
set_option maxRecDepth 100000 in
theorem Lp(N b r' r)(d:Hr N b r'=some r)(ro:Ro)(vb_:Value)(Sb_:List Bl)(Hb_:Bd 311 5 vb_ b Sb_):Does prog 204 #[vb_,Value.int .i32 r'] ro (List.flatten [Sb_]) (pO (List.flatten [Sb_]) (oIB 311 5 vb_ r.2 (oE (vT #[vI r.1,Value.nilIface]) []))):=by
 rw [SE]
 obtain⟨b_,f_,s_,a,rfl,c,rfl⟩:=Hb_
 cases f_
 ·exact bE (f:=true) (LW N b r' r d ro b_ s_ a c)
 exact bE (f:=true) (LV N b r' r d ro b_ s_ a c)
def KJ(_:Nat)(b:List UInt8):Option (List UInt8):=ck ((b).length≤140737488355328) (some b)
theorem Pa(N b r)(a:KJ N b=some r)(ro:Ro)(bb:Nat)(bv:Value)(Sb:List Bl)(hb:Sl 5 encYs bv b Sb):Does prog 206 #[vP bb 0] ro (List.flatten [(AL bb (Value.pointer none) bv),Sb]) (pO (List.flatten [(AL bb (Value.pointer none) bv),Sb]) (oE (vS r) [])):=by
 unfold KJ at a
 refine BA follows func206 rfl 14 rfl _ fz1 (fun _ _ h_ _=>h_) (fun c=> ?_)
 refine AZ rfl<|Ae fun h d=>Bt [(some 7,false),(some 13,true)] (conG prog [(7,fun _ _ v_ L_ U_=>(fun v_ L_ U_=>Tm bv v_∧L_=[]∧U_=[]) v_ L_ U_),(13,fun _ _ v_ L_ U_=>(pUp (fun v_ U_=>v_= .string ⟨(b).toArray⟩∧U_=HE Sb)) v_ L_ U_)]) [] (by decide+kernel) (fun g=>AW)<|rm 4 [0] rfl<|ZX (Ls:=[(AL bb (Value.pointer none) bv),Sb]) 1 rfl rfl rfl rfl rfl hb rfl rfl (fun _ _ _ _ _=>Iff.rfl) (fun i e=> ?_)
 refine rm 4 [0] rfl<|rL (Sl.shp hb) rfl<|kC a fun f a=>Vx (Ls:=[(AL bb (Value.pointer none) bv),Sb]) 1 (xs:=b) rfl rfl rfl rfl rfl rfl hb e rfl (by kernel_rfl) rfl f (fun _ _ _ _ _=>Iff.rfl)<|BC (Ls:=[(AL bb (Value.pointer none) bv),HE Sb]) (Ls':=[(AL bb (Value.pointer none) bv)]) [0] rfl rfl<|rz rfl<|d _ _ ?_
 cases a
 refine AO (fun g=>Cw (v0:=vS b) (O:=[]) (BP rfl) (Sub.nil _) ⟨rfl,rfl⟩)
def HN(_:Nat)(b:List UInt8):Option (List UInt8):=ck ((b).length≤140737488355328) (some b)
theorem OZ(N b r)(a:HN N b=some r)(ro:Ro)(bb:Nat)(bv:Value)(Sb:List Bl)(hb:Sl 5 encYs bv b Sb):Does prog 206 #[vP bb 0] ro (List.flatten [(AL bb (vP bb 0) bv),Sb]) (pO (List.flatten [(AL bb (vP bb 0) bv),Sb]) (oE (vS r) [])):=by
 unfold HN at a
 refine BA follows func206 rfl 14 rfl _ fz1 (fun _ _ h_ _=>h_) (fun c=> ?_)
 refine AZ rfl<|Ae fun h d=>Bt [(some 7,false),(some 13,true)] (conG prog [(7,fun _ _ v_ L_ U_=>(fun v_ L_ U_=>Tm bv v_∧L_=[]∧U_=[]) v_ L_ U_),(13,fun _ _ v_ L_ U_=>(pUp (fun v_ U_=>v_= .string ⟨(b).toArray⟩∧U_=HE Sb)) v_ L_ U_)]) [] (by decide+kernel) (fun g=>AW)<|rm 4 [0] rfl<|ZX (Ls:=[(AL bb (vP bb 0) bv),Sb]) 1 rfl rfl rfl rfl rfl hb rfl rfl (fun _ _ _ _ _=>Iff.rfl) (fun i e=> ?_)
 refine rm 4 [0] rfl<|rL (Sl.shp hb) rfl<|kC a fun f a=>Vx (Ls:=[(AL bb (vP bb 0) bv),Sb]) 1 (xs:=b) rfl rfl rfl rfl rfl rfl hb e rfl (by kernel_rfl) rfl f (fun _ _ _ _ _=>Iff.rfl)<|BC (Ls:=[(AL bb (vP bb 0) bv),HE Sb]) (Ls':=[(AL bb (vP bb 0) bv)]) [0] rfl rfl<|rz rfl<|d _ _ ?_
 cases a
 refine AO (fun g=>Cw (v0:=vS b) (O:=[]) (BP rfl) (Sub.nil _) ⟨rfl,rfl⟩)
def JF(N:Nat)(b:List UInt8):Option (List UInt8):=HN N b
set_option maxRecDepth 100000 in
theorem Ns(N b r)(d:JF N b=some r)(ro:Ro)(vb_:Value)(Sb_:List Bl)(Hb_:Bd 311 5 vb_ b Sb_):Does prog 206 #[vb_] ro (List.flatten [Sb_]) (pO (List.flatten [Sb_]) (oE (vS r) [])):=by
 rw [SE]
 obtain⟨b_,f_,s_,a,rfl,c,rfl⟩:=Hb_
 cases f_
 ·exact Pa N b r d ro b_ s_ a c 
 exact OZ N b r d ro b_ s_ a c 
def FT(N:Nat)(s:List UInt8):Nat→List UInt8→Nat→Option (List UInt8)
  |0,_,_=>none
  |n15+1,Valuep1_,m2_=>if m2_<(s).length then ck (m2_<(s).length) ((JK N ((runeAt s m2_:Nat):Int)).bind fun r21=>(Hr N Valuep1_ r21).bind fun r23=>(FT N s n15) r23.2 (EL s m2_))else(JF N Valuep1_).bind fun r28=>some r28
def IS(N:Nat)(s:List UInt8):Option (List UInt8):=(JG N (s.length:Int)).bind fun r5=>FT N s N r5 0
theorem Nx(N s r)(g:IS N s=some r):Gives prog 175 #[vS s] (vS r):=by
 unfold IS at g
 refine Ao follows func175 rfl 18 rfl _ fz1 (fun A=> ?_)
 refine AZ rfl<|Aa<|rA rfl fun e=>Ah<|Aa<|rn 1 rfl<|r_W (vI (s.length:Int)) rfl (Rp rfl rfl rfl)<|kB g fun G B g=>gM (Ls:=[(AL e (Value.pointer none) nS)]) (FL:=[(AL e (Value.pointer none) nS)]) [0] (cF Wp) (fun o w hn_ z_=>RO N (s.length:Int) _ B _ e) ?_
 rintro _ _ ⟨k,m,_,H,⟨rfl,rfl⟩,rfl⟩
 refine BC (Ls:=[m,(AL e (vP e 0) k)]) (Ls':=[(AL e (vP e 0) k),m]) [1,0] rfl rfl<|BC (Ls:=[(AL e (vP e 0) k),m]) (Ls':=[(AL e (vP e 0) k),m]) [0,1] rfl rfl<|aa (Ls:=[(AL e (vP e 0) k),m]) (Ls':=[(List.flatten [(AL e (vP e 0) k),m])]) (by simp only [List.flatten_cons,List.flatten_nil,List.append_nil,List.append_assoc])<|Qs (Ls:=[(List.flatten [(AL e (vP e 0) k),m])]) (p:=fun S_=>Bd 311 5 (vP e 0) G S_) 0 rfl ⟨e,true,_,_,rfl,H,rfl⟩ (fun i C=> ?_)
 refine Ah<|Ae fun I n=>Aa<|rn 1 rfl<|cB 10 (p:=(pIt s))<|Ub s rfl rfl rfl rfl rfl (fun _ _ _ _ _=>Iff.rfl) (fun d=> ?_)
 refine Yo (Ls:=[i])<|BC (Ls:=[i,[(d,(itT s 0), #[])]]) (Ls':=[[(d,(itT s 0), #[])],i]) [1,0] rfl rfl<|Ah<|Am<|BH _ (Sub.pick [[(d,(itT s 0), #[])],i] [0,1] rfl)<|AS (fun tt ll nn=> ∃(h:Nat) (b:List UInt8) (c:Nat),(FT N s h b c=some r)∧ ∃(a:List Bl),Bd 311 5 (vP e 0) b a∧Is [(3,vP e 0),(10,vP d 0)] (List.flatten [[(d,(itT s c), #[])],a]) tt ll∧nn=h+1) (N+1) ?_ ?_
 ·exact⟨N,G,0,g,i,C,Aj rfl rfl,rfl⟩
 clear g;rintro t l _ ⟨h,b,c,g,a,f,⟨⟨T,rfl⟩,rfl⟩,rfl⟩
 rcases h with _|h
 ·exact absurd g (by simp [FT])
 rw [FT] at g
 refine Aa<|cA 11 (p:=(pNx d s c))<|Vy (lN:=(List.flatten [[(d,(itT s (EL s c)), #[])],a])) 0 d s c rfl rfl rfl rfl rfl rfl (fun _ _ _ _ _=>Iff.rfl) rfl<|r_W (vB (decide (c<(s).length))) rfl (Cf (SH s c))<|Ah<|Ae fun J q=>aD g rfl (fun u g=> ?_) (fun u g=> ?_)
 ·refine Ac<|q _ _ ?_
  refine Am<|Aa<|kC g fun v g=>r_W (Value.int .i32 ((runeAt s c:Nat):Int)) rfl (Cf (SG v))<|rz rfl<|An<|rn 1 rfl<|kB g fun D x g=>rc _ (cF Wn) (RR N ((runeAt s c:Nat):Int) _ x)<|kB g fun E y g=>gM (Ls:=[[(d,(itT s (EL s c)), #[])],a]) (FL:=[a]) [1] (cF Wo) (fun o w hn_ z_=>Lp N b D _ y _ (vP e 0) a f) ?_
  rintro _ _ ⟨j,_,F,⟨rfl,rfl⟩,rfl⟩
  refine BC (Ls:=[[(d,(itT s (EL s c)), #[])],j]) (Ls':=[[(d,(itT s (EL s c)), #[])],j]) [0,1] rfl rfl<|Ah<|fg _ (Sub.pick [[(d,(itT s (EL s c)), #[])],j] [0,1] rfl) ?_
  exact⟨h+1,by omega,h,E.2,EL s c,g,j,F,Aj rfl rfl,rfl⟩
 refine AT<|n _ _ ?_
 refine Aa<|kB g fun K z g=>gM (Ls:=[[(d,(itT s (EL s c)), #[])],a]) (FL:=[a]) [1] (cF Wm) (fun o w hn_ z_=>Ns N b _ z _ (vP e 0) a f) ?_
 rintro _ _ ⟨rfl,rfl⟩
 refine BC (Ls:=[[(d,(itT s (EL s c)), #[])]]) (Ls':=[[(d,(itT s (EL s c)), #[])]]) [0] rfl rfl<|rz rfl ?_
 cases g
 exact aR eE1
def EM(N:Nat)(other:List UInt8)(c1_:List UInt8):Option Bool:=(IS N other).bind fun r3=>some (r3==c1_)
theorem Lu(N other a r)(d:EM N other a=some r)(ro:Ro)(b:Nat)(c:Blk ro b [vS a]):Does prog 177 #[vS other,vP b 0] ro [] (pV (vB r)):=by
 unfold EM at d
 refine Ag follows func177 rfl 8 rfl _ fz2 (fun e=> ?_)
 refine AZ rfl<|Ae fun i f=>Js [] (by decide+kernel) (fun j=>AW)<|rn 1 rfl<|kB d fun h g d=>rc _ (cF ST) (Nx N other _ g)<|Cz (vS a) (vs:=[vS a]) (o:=0) rfl rfl (Az c) rfl<|r_W (vB (h==a)) rfl (aT rfl rfl)<|rz rfl<|f _ _ ?_
 cases d
 exact aR eV1
def Vq(N:Nat)(s:List (List UInt8))(f0_:List UInt8):Nat→Int→Option Int
  |0,_=>none
  |n4+1,x1_=>if x1_<(s.length:Int)then ck (0≤x1_∧x1_<(s.length:Int)) ((EM N (s[x1_.toNat]!) f0_).bind fun r12=>if r12=true then some x1_ else ck (R64 (x1_+1)) ((Vq N s f0_ n4) (x1_+1)))else some (-1)
def sfm(N:Nat)(s:List (List UInt8))(f0_:List UInt8):Option Int:=Vq N s f0_ N 0
theorem sfg(N s d r)(a:sfm N s d=some r)(ro sv)(hs:Rd By ro sv s)(b:Nat)(f:Blk ro b [vS d]):Does prog 176 #[sv,vF 177 #[] #[vP b 0]] ro [] (pV (vI r)):=by
 unfold sfm at a
 refine Ag follows func176 rfl 19 rfl _ fz2 (fun k=> ?_)
 refine AZ rfl<|Ae fun v m=>Aa<|rn 1 rfl<|rL (Rd.shp hs) rfl<|rz rfl<|Am<|AS (fun tt ll nn=> ∃(g:Nat) (c:Int),(Vq N s d g c=some r)∧Is [(0,sv),(1,vF 177 #[] #[vP b 0]),(7,vI (s.length:Int)),(8,vI c)] [] tt ll∧nn=g+1) (N+1) ?_ ?_
 ·exact⟨N,0,a,Aj rfl rfl,rfl⟩
 clear a;rintro t l _ ⟨g,c,a,⟨⟨T,rfl⟩,rfl⟩,rfl⟩
 rcases g with _|g
 ·exact absurd a (by simp [Vq])
 rw [Vq] at a
 refine AZ rfl<|Ae fun x n=>aD a rfl (fun p a=> ?_) (fun p a=> ?_)
 ·refine Ac<|n _ _ ?_
  refine Ae fun y q=>Am<|AZ rfl<|Aa<|rn 3 rfl<|kC a fun e a=>rI (Rd.shp hs) e rfl<|rE (AA hs) e 0 rfl<|kB a fun u h a=>gV _ (AV (caps:=[vP b 0]) rfl WJ rfl) (fun o w z_=>Lu N (s[c.toNat]!) d _ h z_.view b (Az f o w z_))<|Ah<|aB a rfl (fun i a=> ?_) (fun i a=> ?_)
  ·refine AZ rfl ?_
   cases a
   exact aR eV1
  refine Ac<|q _ _ ?_
  refine An<|kC a fun j a=>rX j rfl<|rz rfl<|fg _ (Sub.of suN) ?_
  exact⟨g+1,by omega,g,(c+1),a,Aj rfl rfl,rfl⟩
 refine AT<|m _ _ ?_
 refine AZ rfl ?_
 cases a
 exact aR eV1
def Ef(N:Nat)(l':List (List UInt8))(s:List UInt8):Option Int:=(IS N s).bind fun r3=>(sfm N l' r3).bind fun r7=>some r7
theorem Lt(N l' s r)(a:Ef N l' s=some r)(ro l'v)(hl':Rd By ro l'v l'):Does prog 119 #[l'v,vS s] ro [] (pV (vI r)):=by
 unfold Ef at a
 refine Ag follows func119 rfl 11 rfl _ fz2 (fun b=> ?_)
 refine AZ rfl<|Aa<|rn 1 rfl<|kB a fun f c a=>rc _ (cF ST) (Nx N s _ c)<|rA rfl fun e=>ry [0] rfl<|Aa<|rn 1 rfl<|r_W (vF 177 #[] #[vP e 0]) rfl (Db rfl)<|kB a fun g d a=>gV _ (cF WK) (fun o w z_=>sfg N l' f _ d z_.view l'v ((AA hl') o w z_) e (Bi 0 rfl rfl o w z_))<|rz rfl ?_
 cases a
 exact aR eV1
def Hq(N:Nat)(names:List (List UInt8))(i:Int):Option Int:=ck (0≤i∧i<(names.length:Int)) ((Kp N (names[i.toNat]!)).bind fun r5=>if r5=true then ck (0≤i∧i≤(names.length:Int)) (ck (0≤i∧i<(names.length:Int)) ((Ef N (((names).take (i.toNat)).drop 0) (names[i.toNat]!)).bind fun r12=>if r12≥0 then some 6 else some 0))else some 4)
theorem My(N names i r)(a:Hq N names i=some r)(ro namesv)(hnames:Rd By ro namesv names):Does prog 121 #[namesv,vI i] ro [] (pV (vI r)):=by
 unfold Hq at a
 refine Ag follows func121 rfl 22 rfl _ fz2 (fun h=> ?_)
 refine AZ rfl<|Ae fun p j=>Am<|Aa<|rn 2 rfl<|kC a fun f a=>rI (Rd.shp hnames) f rfl<|rE (AA hnames) f 0 rfl<|kB a fun q k a=>rc _ (cF Tf) (PG N (names[i.toNat]!) _ k)<|rz rfl<|Ai _ rfl (fun e=> ?_) (fun e=> ?_)
 ·replace a:=ifn (Bool.eq_false_iff.1 (Cd e)) a
  refine AZ rfl ?_
  cases a
  exact aR eV1
 replace a:=ifp (Ce e) a
 refine Ae fun s l=>Bt [(some 20,false)] (conG prog [(20,cV (Ef N (((names).take (i.toNat)).drop 0) (names[i.toNat]!)) fun m=>vI m)]) [] (by decide+kernel) (fun t=>AW)<|rn 2 rfl<|kC a fun b a=>r_W (Ch namesv 0 (i.toNat) 1) rfl (Cf (EI rfl rfl rfl rfl (Rd.shp hnames) b))<|rn 2 rfl<|kC a fun c a=>rI (Rd.shp hnames) c rfl<|rE (AA hnames) c 0 rfl<|kB a fun n d a=>rg _ (cF Td) (fun o w z_=>Lt N (((names).take (i.toNat)).drop 0) (names[i.toNat]!) _ d z_.view (Ch namesv 0 (i.toNat) 1) ((KX (AA hnames) (Nat.zero_le _) (Ee b.2)) o w z_)) (DA d)<|rz rfl<|l _ _ ?_
 refine aD a rfl (fun g a=> ?_) (fun g a=> ?_)
 ·refine AZ rfl ?_
  cases a
  exact aR eV1
 refine Ac<|j _ _ ?_
 refine AZ rfl ?_
 cases a
 exact aR eV1
def Cp(_:Nat)(n:Int)(least:Int)(most:Int):Option Bool:=if n≥least then some (decide (n≤most))else some false
theorem CP(N n least most r)(a:Cp N n least most=some r):Gives prog 122 #[vI n,vI least,vI most] (vB r):=by
 unfold Cp at a
 refine Ao follows func122 rfl 15 rfl _ fz3 (fun d=> ?_)
 refine AZ rfl<|Ae fun e b=>An<|rn 4 rfl ?_
 rcases c:(decide (n≥least))with _|_
 ·replace a:=iF c a
  refine rz rfl<|b _ _ ?_
  cases a
  exact aR eE1
 replace a:=iD c a
 refine rz rfl<|b _ _ ?_
 cases a
 exact aR eE1
def DG(N:Nat)(l':List (List UInt8×Int))(r3:List (List UInt8)):Nat→Int→Option Int
  |0,_=>none
  |n10+1,x1_=>if x1_<(l'.length:Int)then ck (0≤x1_∧x1_<(l'.length:Int)) ((Hq N r3 x1_).bind fun r20=>if(r20:Int)≠0 then some r20 else(Cp N ((l'[x1_.toNat]!).2) 1 128).bind fun r26=>if r26=true then ck (R64 (x1_+1)) ((DG N l' r3 n10) (x1_+1))else some 9)else some 0
def HG(N:Nat)(l':List (List UInt8×Int)):Option Int:=(GI N l').bind fun r3=>DG N l' r3 N 0
theorem OU(N l' r)(a:HG N l'=some r)(ro l'v)(hl':Rd BG ro l'v l'):Does prog 116 #[l'v] ro [] (pV (vI r)):=by
 unfold HG at a
 refine Ag follows func116 rfl 27 rfl _ fz1 (fun s=> ?_)
 refine AZ rfl<|Aa<|rn 1 rfl<|kB a fun y v a=>gS (Ls:=[]) (cF WL) (fun o w z_=>Np N l' _ v z_.view l'v ((AA hl') o w z_)) (fun z u A=> ?_)
 refine rz rfl<|Ae fun G x=>Aa<|rn 1 rfl<|rL (Rd.shp hl') rfl<|rz rfl<|Am<|BH _ (Sub.pick [u] [0] rfl)<|AS (fun tt ll nn=> ∃(c:Nat) (b:Int),(DG N l' y c b=some r)∧Is [(3,z),(9,l'v),(10,vI (l'.length:Int)),(11,vI b)] (List.flatten [u]) tt ll∧nn=c+1) (N+1) ?_ ?_
 ·exact⟨N,0,a,Aj rfl rfl,rfl⟩
 clear a;rintro t l _ ⟨c,b,a,⟨⟨T,rfl⟩,rfl⟩,rfl⟩
 rcases c with _|c
 ·exact absurd a (by simp [DG])
 rw [DG] at a
 refine AZ rfl<|Ae fun B f=>aD a rfl (fun g a=> ?_) (fun g a=> ?_)
 ·refine Ac<|f _ _ ?_
  refine Ae fun C h=>Am<|Aa<|rn 1 rfl<|kC a fun e a=>rI (Rd.shp hl') e rfl<|rE (AA hl') e 0 rfl<|rA rfl fun i=>ry [0] rfl<|Ae fun D j=>Aa<|rn 2 rfl<|kB a fun E m a=>gV _ (cF Tc) (fun o w z_=>My N y b _ m z_.view z ((Ar A (Af (Ls:=[(Kw i ((l'[b.toNat]!).1) ((l'[b.toNat]!).2)),u]) (k:=1) rfl rfl)) o w z_))<|rz rfl<|AZ rfl<|aN a rfl (fun n a=> ?_) (fun n a=> ?_)
  ·refine AZ rfl ?_
   cases a
   exact aR eV1
  refine Ac<|j _ _ ?_
  refine Aa<|rm 2 [0] rfl<|kB a fun F p a=>rc _ (cF Ev) (CP N ((l'[b.toNat]!).2) 1 128 _ p)<|rz rfl<|Ai _ rfl (fun d=> ?_) (fun d=> ?_)
  ·replace a:=ifn (Bool.eq_false_iff.1 (Cd d)) a
   refine AZ rfl ?_
   cases a
   exact aR eV1
  replace a:=ifp (Ce d) a
  refine Ac<|h _ _ ?_
  refine An<|kC a fun q a=>rX q rfl<|rz rfl<|fg _ (Sub.pick [(Kw i ((l'[b.toNat]!).1) ((l'[b.toNat]!).2)),u] [1] rfl) ?_
  exact⟨c+1,by omega,c,(b+1),a,Aj rfl rfl,rfl⟩
 refine AT<|x _ _ ?_
 refine AZ rfl ?_
 cases a
 exact aR eV1
def GG(l':List (List UInt8×Int)):Nat→Int→Int→Option Int
  |0,_,_=>none
  |n5+1,n1_,x2_=>if x2_<(l'.length:Int)then ck (0≤x2_∧x2_<(l'.length:Int)) (ck ((R64 (n1_+(l'[x2_.toNat]!).2))) (ck (R64 (x2_+1)) ((GG l' n5) (n1_+(l'[x2_.toNat]!).2) (x2_+1))))else some n1_
def Ko(N:Nat)(l':List (List UInt8×Int)):Option Int:=GG l' N 0 0
theorem PF(N l' r)(a:Ko N l'=some r)(ro l'v)(hl':Rd BG ro l'v l'):Does prog 117 #[l'v] ro [] (pV (vI r)):=by
 unfold Ko at a
 refine Ag follows func117 rfl 18 rfl _ fz1 (fun h=> ?_)
 refine AZ rfl<|AZ rfl<|Ae fun o i=>Aa<|rn 1 rfl<|rL (Rd.shp hl') rfl<|rz rfl<|Am<|AS (fun tt ll nn=> ∃(e:Nat) (c:Int) (b:Int),(GG l' e c b=some r)∧Is [(3,vI c),(6,l'v),(7,vI (l'.length:Int)),(8,vI b)] [] tt ll∧nn=e+1) (N+1) ?_ ?_
 ·exact⟨N,0,0,a,Aj rfl rfl,rfl⟩
 clear a;rintro t l _ ⟨e,c,b,a,⟨⟨T,rfl⟩,rfl⟩,rfl⟩
 rcases e with _|e
 ·exact absurd a (by simp [GG])
 rw [GG] at a
 refine AZ rfl<|Ae fun p j=>aD a rfl (fun k a=> ?_) (fun k a=> ?_)
 ·refine Ac<|j _ _ ?_
  refine Ae fun q m=>Am<|Aa<|kC a fun d a=>rI (Rd.shp hl') d rfl<|rE (AA hl') d 0 rfl<|rA rfl fun n=>ry [0] rfl<|An<|rm 3 [0] rfl<|kC a fun f a=>rX f rfl<|rz rfl<|m _ _ ?_
  refine An<|kC a fun g a=>rX g rfl<|rz rfl<|fg _ (Sub.of (suC _ suN)) ?_
  exact⟨e+1,by omega,e,(c+(l'[b.toNat]!).2),(b+1),a,Aj rfl rfl,rfl⟩
 refine AT<|i _ _ ?_
 refine AZ rfl ?_
 cases a
 exact aR eV1
def GH(N:Nat)(_:List UInt8)(h_1:List (List UInt8×Int))(h_2:Int)(h_3:Int)(h_4:Int)(h_5:Int):Option Bool:=if h_2=0 then if h_3=0 then if h_4=0 then some (h_5==0)else some false else some false else(Cp N h_2 1 64).bind fun r10=>if r10=true then ck ((R64 ((h_1.length:Int) - 1))) ((Cp N h_3 0 ((h_1.length:Int) - 1)).bind fun r14=>if r14=true then ck (0≤h_3∧h_3<(h_1.length:Int)) (if((h_1[h_3.toNat]!).2:Int)≤16 then(Cp N h_4 1 64).bind fun r19=>if r19=true then(Cp N h_5 0 4096).bind fun r22=>some r22 else some false else some false)else some false)else some false
theorem No(N h_0 h_1 h_2 h_3 h_4 h_5 r)(a:GH N h_0 h_1 h_2 h_3 h_4 h_5=some r)(ro h_1v)(hh_1:Rd BG ro h_1v h_1):Does prog 118 #[vA #[vS h_0,h_1v,vI h_2,vI h_3,vI h_4,vI h_5]] ro [] (pV (vB r)):=by
 unfold GH at a
 refine Ag follows func118 rfl 51 rfl _ fz1 (fun p=> ?_)
 refine Aa<|rA rfl fun w=>rz rfl<|Ae fun y q=>AY [0] rfl<|aE a rfl (fun s a=> ?_) (fun s a=> ?_)
 ·refine Ae fun z h=>An<|rm 4 [0] rfl ?_
  rcases i:(h_3==0)with _|_
  ·replace a:=iG i a
   refine rz rfl<|h _ _ ?_
   cases a
   exact aR eV1
  replace a:=iE i a
  refine rn 1 rfl<|r_y rfl<|rm 4 [0] rfl ?_
  rcases j:(h_4==0)with _|_
  ·replace a:=iG j a
   refine rz rfl<|h _ _ ?_
   cases a
   exact aR eV1
  replace a:=iE j a
  refine rn 1 rfl<|r_y rfl<|ry [0] rfl<|h _ _ ?_
  cases a
  exact aR eV1
 refine Ac<|q _ _ ?_
 refine Ae fun A b=>An<|rm 2 [0] rfl<|kB a fun t k a=>rc _ (cF Ev) (CP N h_2 1 64 _ k)<|rn 1 rfl ?_
 rcases d:t with _|_
 ·replace a:=iB d a
  refine rz rfl<|b _ _ ?_
  refine Cx [(2,vB false)] rfl (fun T=> ?_)
  cases a
  exact aR eV1
 replace a:=ifp d a
 refine rn 1 rfl<|r_y rfl<|rm 2 [0] rfl<|r_y rfl<|rm 1 [0] rfl<|r_y rfl<|rL (Rd.shp hh_1) rfl<|r_y rfl<|kC a fun l a=>rX l rfl<|r_y rfl<|kB a fun u m a=>rc _ (cF Ev) (CP N h_3 0 ((h_1.length:Int) - 1) _ m)<|rn 2 rfl ?_
 rcases e:u with _|_
 ·replace a:=iB e a
  refine rz rfl<|b _ _ ?_
  refine Cx [(2,vB false)] rfl (fun T=> ?_)
  cases a
  exact aR eV1
 replace a:=ifp e a
 refine rn 1 rfl<|r_y rfl<|rm 2 [0] rfl<|r_y rfl<|rm 1 [0] rfl<|r_y rfl<|kC a fun c a=>rI (Rd.shp hh_1) c rfl<|r_y rfl<|rF (Rd.shp hh_1) (Di c) rfl<|r_y rfl<|rE (AA hh_1) c 1 rfl<|rn 3 rfl<|Mb [(1,vP w 0),(2,vB false),(41,vB (decide (((h_1[h_3.toNat]!).2:Int)≤16)))] rfl (fun T=> ?_)
 rcases f:(decide (((h_1[h_3.toNat]!).2:Int)≤16))with _|_
 ·replace a:=iF f a
  refine rz rfl<|b _ _ ?_
  cases a
  exact aR eV1
 replace a:=iD f a
 refine rn 1 rfl<|r_y rfl<|rm 1 [0] rfl<|r_y rfl<|kB a fun v n a=>rc _ (cF Ev) (CP N h_4 1 64 _ n)<|rn 2 rfl ?_
 rcases g:v with _|_
 ·replace a:=iB g a
  refine rz rfl<|b _ _ ?_
  cases a
  exact aR eV1
 replace a:=ifp g a
 refine rn 1 rfl<|r_y rfl<|rm 1 [0] rfl<|r_y rfl<|kB a fun x o a=>rc _ (cF Ev) (CP N h_5 0 4096 _ o)<|rz rfl<|b _ _ ?_
 cases a
 exact aR eV1
def GK(N:Nat)(h_0:List UInt8)(h_1:List (List UInt8×Int))(h_2:Int)(h_3:Int)(h_4:Int)(h_5:Int):Option Int:=(Kp N h_0).bind fun r5=>if r5=true then if(h_1.length:Int)>16 then some 2 else if(h_1.length:Int)=0 then some 5 else(HG N h_1).bind fun r17=>if(r17:Int)≠0 then some r17 else(Ko N h_1).bind fun r24=>ck (0≤r24∧r24≤9223372036854775807) (if(r24%8:Int)≠0 then some 9 else(GH N h_0 h_1 h_2 h_3 h_4 h_5).bind fun r30=>if r30=true then some 0 else some 7)else some 4
theorem Tt(N h_0 h_1 h_2 h_3 h_4 h_5 r)(a:GK N h_0 h_1 h_2 h_3 h_4 h_5=some r)(ro h_1v)(hh_1:Rd BG ro h_1v h_1):Does prog 72 #[vA #[vS h_0,h_1v,vI h_2,vI h_3,vI h_4,vI h_5]] ro [] (pV (vI r)):=by
 unfold GK at a
 refine Ag follows func72 rfl 35 rfl _ fz1 (fun p=> ?_)
 refine Aa<|rA rfl fun t=>rz rfl<|Ae fun z q=>Am<|Aa<|rm 2 [0] rfl<|kB a fun A s a=>rc _ (cF Tf) (PG N h_0 _ s)<|rz rfl<|Ai _ rfl (fun c=> ?_) (fun c=> ?_)
 ·replace a:=ifn (Bool.eq_false_iff.1 (Cd c)) a
  refine AZ rfl ?_
  cases a
  exact aR eV1
 replace a:=ifp (Ce c) a
 refine Aa<|rm 2 [0] rfl<|rL (Rd.shp hh_1) rfl<|rz rfl<|aD a rfl (fun d a=> ?_) (fun d a=> ?_)
 ·refine AZ rfl ?_
  cases a
  exact aR eV1
 refine Aa<|rm 2 [0] rfl<|rL (Rd.shp hh_1) rfl<|rz rfl<|aE a rfl (fun e a=> ?_) (fun e a=> ?_)
 ·refine AZ rfl ?_
  cases a
  exact aR eV1
 refine Ac<|q _ _ ?_
 refine Ae fun u f=>Aa<|rm 2 [0] rfl<|kB a fun v g a=>gV _ (cF XC) (fun o w z_=>OU N h_1 _ g z_.view h_1v (z_.r hh_1))<|rz rfl<|AZ rfl<|aN a rfl (fun h a=> ?_) (fun h a=> ?_)
 ·refine AZ rfl ?_
  cases a
  exact aR eV1
 refine Ac<|f _ _ ?_
 refine Ae fun x i=>Am<|Aa<|rm 2 [0] rfl<|kB a fun j k a=>gV _ (cF Te) (fun o w z_=>PF N h_1 _ k z_.view h_1v (z_.r hh_1))<|kC a fun l a=>r_X (vI (j%8)) rfl (Ua l.1) rfl<|rz rfl<|Cx [(1,vP t 0),(25,vB ((j%8:Int) !=0))] rfl (fun T=> ?_)
 refine aN a rfl (fun m a=> ?_) (fun m a=> ?_)
 ·refine AZ rfl ?_
  cases a
  exact aR eV1
 refine Aa<|rm 1 [0] rfl<|kB a fun y n a=>gV _ (cF XB) (fun o w z_=>No N h_0 h_1 h_2 h_3 h_4 h_5 _ n z_.view h_1v (z_.r hh_1))<|rz rfl<|Ai _ rfl (fun b=> ?_) (fun b=> ?_)
 ·replace a:=ifn (Bool.eq_false_iff.1 (Cd b)) a
  refine AZ rfl ?_
  cases a
  exact aR eV1
 replace a:=ifp (Ce b) a
 refine Ac<|i _ _ ?_
 refine AZ rfl ?_
 cases a
 exact aR eV1
def AH(N:Nat)(names:List (List UInt8))(i:Int):Option Int:=ck (0≤i∧i≤(names.length:Int)) (ck (0≤i∧i<(names.length:Int)) ((Ef N (((names).take (i.toNat)).drop 0) (names[i.toNat]!)).bind fun r5=>(Al N (decide (r5<0)) 6).bind fun r7=>some r7))
theorem CL(N names i r)(a:AH N names i=some r)(ro namesv)(hnames:Rd By ro namesv names):Does prog 73 #[namesv,vI i] ro [] (pV (vI r)):=by
 unfold AH at a
 refine Ag follows func73 rfl 15 rfl _ fz2 (fun e=> ?_)
 refine AZ rfl<|Ae fun k f=>Bt [(some 12,false)] (conG prog [(12,cV (Ef N (((names).take (i.toNat)).drop 0) (names[i.toNat]!)) fun g=>vI g)]) [] (by decide+kernel) (fun l=>AW)<|rn 2 rfl<|kC a fun b a=>r_W (Ch namesv 0 (i.toNat) 1) rfl (Cf (EI rfl rfl rfl rfl (Rd.shp hnames) b))<|rn 2 rfl<|kC a fun c a=>rI (Rd.shp hnames) c rfl<|rE (AA hnames) c 0 rfl<|kB a fun j d a=>rg _ (cF Td) (fun o w z_=>Lt N (((names).take (i.toNat)).drop 0) (names[i.toNat]!) _ d z_.view (Ch namesv 0 (i.toNat) 1) ((KX (AA hnames) (Nat.zero_le _) (Ee b.2)) o w z_)) (DA d)<|rn 1 rfl<|kB a fun m h a=>rc _ (cF AI) (Ap N (decide (j<0)) 6 _ h)<|rz rfl<|f _ _ ?_
 cases a
 exact aR eV1
def FC(N:Nat)(i:Int)(h_0:List UInt8)(h_1:List (List UInt8×Int))(h_2:Int)(h_3:Int)(h_4:Int)(h_5:Int)(c2_:List (List UInt8)):Option Int:=(GK N h_0 h_1 h_2 h_3 h_4 h_5).bind fun r4=>(AH N c2_ i).bind fun r6=>(Ay N ([r4,r6])).bind fun r11=>some r11
theorem Mm(N i h_0 h_1 h_2 h_3 h_4 h_5 c r)(g:FC N i h_0 h_1 h_2 h_3 h_4 h_5 c=some r)(ro h_1v)(hh_1:Rd BG ro h_1v h_1)(h:Nat)(a)(l:Rd By ro a c)(j:Blk ro h [a]):Does prog 71 #[vI i,vA #[vS h_0,h_1v,vI h_2,vI h_3,vI h_4,vI h_5],vP h 0] ro [] (pV (vI r)):=by
 unfold FC at g
 refine Ag follows func71 rfl 13 rfl _ fz3 (fun p=> ?_)
 refine Aa<|rA rfl fun v=>rz rfl<|Ae fun A q=>Bt [(some 7,false),(some 10,false),(some 11,false),(some 12,false)] (conG prog [(7,cV (GK N h_0 h_1 h_2 h_3 h_4 h_5) fun b=>vI b),(10,cV (AH N c i) fun b=>vI b),(12,fun _ _ v_ L_ U_=> ∀b,GK N h_0 h_1 h_2 h_3 h_4 h_5=some b→ ∀m,AH N c i=some m→ ∀n,Ay N ([b,m])=some n→(pV (vI n)) v_ L_ U_)]) [] (by decide+kernel) (fun B=>AW) ?_
 refine rm 1 [0] rfl<|kB g fun s e g=>rg _ (cF YX) (fun o w z_=>Tt N h_0 h_1 h_2 h_3 h_4 h_5 _ e z_.view h_1v (z_.r hh_1)) (DA e)<|Cz a (vs:=[a]) (o:=0) rfl rfl (Az j) rfl<|rn 1 rfl<|kB g fun t f g=>rg _ (cF HF) (fun o w z_=>CL N c i _ f z_.view a (z_.r l)) (DA f) ?_
 refine FY (Ls:=[(Qy v h_0 h_1v h_2 h_3 h_4 h_5)]) 44 AX [s,t] [vI s,vI t] [vI 0,vI 0] rfl rfl rfl rfl rfl rfl rfl (by kernel_rfl) (by kernel_rfl) rfl rfl rfl (fun x y u=> ?_)
 refine kB g fun z d g=>rg _ (cF Bx) (fun o w z_=>Bc N ([s,t]) _ d z_.view x ((Ar u (Af (Ls:=[(Qy v h_0 h_1v h_2 h_3 h_4 h_5),y]) (k:=1) rfl rfl)) o w z_)) (fun _ _ v_ L_ U_=>⟨fun h_=>h_ _ e _ f _ d,fun h_=>by intro _ e_;cases Option.some.inj (e_.symm.trans e);intro _ e_;cases Option.some.inj (e_.symm.trans f);intro _ e_;cases Option.some.inj (e_.symm.trans d);exact h_⟩) ?_
 refine rz rfl<|q _ _ ?_
 cases g
 exact aR eV1
def Dp(N:Nat)(l':List ((List UInt8)×(List (List UInt8×Int))×Int×Int×Int×Int))(ask0_:List (List UInt8)):Nat→Int→Option (Int×Int)
  |0,_=>none
  |n8+1,x1_=>if x1_<(l'.length:Int)then ck (0≤x1_∧x1_<(l'.length:Int)) ((FC N x1_ (l'[x1_.toNat]!.1) (l'[x1_.toNat]!.2.1) (l'[x1_.toNat]!.2.2.1) (l'[x1_.toNat]!.2.2.2.1) (l'[x1_.toNat]!.2.2.2.2.1) (l'[x1_.toNat]!.2.2.2.2.2) ask0_).bind fun r20=>if(r20:Int)≠0 then some (x1_,r20)else ck (R64 (x1_+1)) ((Dp N l' ask0_ n8) (x1_+1)))else some (0,0)
def Hb(N:Nat)(l':List ((List UInt8)×(List (List UInt8×Int))×Int×Int×Int×Int))(most:Int)(ask0_:List (List UInt8)):Option (Int×Int):=if(l'.length:Int)>most then some (0,2)else Dp N l' ask0_ N 0
theorem NV(N l' most d r)(c:Hb N l' most d=some r)(ro l'v)(hl':RdN EE ro l'v l')(b:Nat)(e)(h:Rd By ro e d)(f:Blk ro b [e]):Does prog 70 #[l'v,vI most,vF 71 #[] #[vP b 0]] ro [] (pV (vT #[vI r.1,vI r.2])):=by
 unfold Hb at c
 refine Ag follows func70 rfl 31 rfl _ fz3 (fun v=> ?_)
 refine AZ rfl<|Ae fun F x=>Aa<|rn 1 rfl<|rL (RdN.shp hl') rfl<|rz rfl<|aD c rfl (fun y c=> ?_) (fun y c=> ?_)
 ·refine AZ rfl ?_
  cases c
  exact aR eV2
 refine Ac<|x _ _ ?_
 refine Ae fun G z=>Aa<|rn 1 rfl<|rL (RdN.shp hl') rfl<|rz rfl<|Am<|AS (fun tt ll nn=> ∃(k:Nat) (a:Int),(Dp N l' d k a=some r)∧Is [(2,vF 71 #[] #[vP b 0]),(15,l'v),(16,vI (l'.length:Int)),(17,vI a)] [] tt ll∧nn=k+1) (N+1) ?_ ?_
 ·exact⟨N,0,c,Aj rfl rfl,rfl⟩
 clear c;rintro t l _ ⟨k,a,c,⟨⟨T,rfl⟩,rfl⟩,rfl⟩
 rcases k with _|k
 ·exact absurd c (by simp [Dp])
 rw [Dp] at c
 refine AZ rfl<|Ae fun B m=>aD c rfl (fun n c=> ?_) (fun n c=> ?_)
 ·refine Ac<|m _ _ ?_
  refine Ae fun C p=>Am<|Aa<|rn 1 rfl<|kC c fun i c=> ?_
  obtain⟨_,⟨g,j,rfl⟩,hat17⟩:=RdN.at (E:=EE) hl' (Cs i)
  refine rI (RdN.shp hl') i rfl<|Nt (vA #[vS (l'[a.toNat]!.1),g,vI (l'[a.toNat]!.2.2.1),vI (l'[a.toNat]!.2.2.2.1),vI (l'[a.toNat]!.2.2.2.2.1),vI (l'[a.toNat]!.2.2.2.2.2)]) (vs:=[vS (l'[a.toNat]!.1),g,vI (l'[a.toNat]!.2.2.1),vI (l'[a.toNat]!.2.2.2.1),vI (l'[a.toNat]!.2.2.2.2.1),vI (l'[a.toNat]!.2.2.2.2.2)]) (a.toNat*6) 0 rfl rfl (fun o w z_=>At.mono z_.ro_cell hat17) rfl<|rA rfl fun A=>rn 1 rfl<|r_s (Qy A (l'[a.toNat]!.1) g (l'[a.toNat]!.2.2.1) (l'[a.toNat]!.2.2.2.1) (l'[a.toNat]!.2.2.2.2.1) (l'[a.toNat]!.2.2.2.2.2)) 0 _ _ _ _ _ (#[vS (l'[a.toNat]!.1),g,vI (l'[a.toNat]!.2.2.1),vI (l'[a.toNat]!.2.2.2.1),vI (l'[a.toNat]!.2.2.2.2.1),vI (l'[a.toNat]!.2.2.2.2.2)]) rfl rfl rfl rfl (.ofS rfl rfl (Ad rfl (Ad (Shp.one (Rd.shp j)) (Ad rfl (Ad rfl (Ad rfl (Ad rfl Bf))))))) rfl rfl<|Ah<|Aa<|rn 2 rfl ?_
  refine rm 1 [0] rfl<|kB c fun D q c=>gV _ (AV (caps:=[vP b 0]) rfl YY rfl) (fun o w z_=>Mm N a (l'[a.toNat]!.1) (l'[a.toNat]!.2.1) (l'[a.toNat]!.2.2.1) (l'[a.toNat]!.2.2.2.1) (l'[a.toNat]!.2.2.2.2.1) (l'[a.toNat]!.2.2.2.2.2) d _ q z_.view g (z_.r j) b e (z_.r h) (Az f o w z_))<|rz rfl<|AZ rfl<|aN c rfl (fun s c=> ?_) (fun s c=> ?_)
  ·refine AZ rfl ?_
   cases c
   exact aR eV2
  refine Ac<|p _ _ ?_
  refine An<|kC c fun u c=>rX u rfl<|rz rfl<|fg _ (Sub.of (suC _ suN)) ?_
  exact⟨k+1,by omega,k,(a+1),c,Aj rfl rfl,rfl⟩
 refine AT<|z _ _ ?_
 refine AZ rfl ?_
 cases c
 exact aR eV2
def Hg(N:Nat)(c:AF):Option (Int×Int):=(GZ N c.2.1).bind fun r4=>(Hb N c.2.1 16 r4).bind fun r11=>some (r11.1,r11.2)
theorem Oc(N c r)(a:Hg N c=some r)(ro)(cv:AE)(hc:Bun59R ro cv c):Does prog 35 #[vA (Ab c cv)] ro [] (pV (vT #[vI r.1,vI r.2])):=by
 unfold Hg at a
 refine Ag follows func35 rfl 16 rfl _ fz1 (fun d=> ?_)
 refine Aa<|rA rfl fun g=>rz rfl<|Aa<|rm 3 [0] rfl<|kB a fun l h a=>gS (Ls:=[[(g,90,(Ab c cv))]]) (cF Zb) (fun o w z_=>NT N c.2.1 _ h z_.view cv.1 (RdN.mono z_.ro_cell hc.1)) (fun e j i=> ?_)
 refine rA rfl fun f=>r_s (List.flatten [(LB f e),[(g,90,(Ab c cv))],j]) 0 _ _ _ _ _ (#[e]) rfl rfl rfl (BZ rfl (Sl.shp i)) (.ofS rfl rfl (Ad (Shp.one (Sl.shp i)) Bf)) rfl rfl<|Ah<|Aa<|rm 3 [1] rfl<|r_W (vF 71 #[] #[vP f 0]) rfl (Db rfl)<|kB a fun m b a=>gV _ (cF YZ) (fun o w z_=>NV N c.2.1 16 l _ b z_.view cv.1 (RdN.mono z_.ro_cell hc.1) f e ((Ar i (Af (Ls:=[(LB f e),[(g,90,(Ab c cv))],j]) (k:=2) rfl rfl)) o w z_) (Bi 0 rfl rfl o w z_))<|rz rfl ?_
 cases a
 exact aR eV2
def EF(_:Nat)(i:Int)(c1_:List (List UInt8×Int×Int)):Option (List UInt8):=ck (0≤i∧i<(c1_.length:Int)) (some ((c1_[i.toNat]!).1))
theorem KU(N i f r)(g:EF N i f=some r)(ro)(c:Nat)(a)(b:Rd FH ro a f)(d:Blk ro c [a]):Does prog 179 #[vI i,vP c 0] ro [] (pV (vS r)):=by
 unfold EF at g
 refine Ag follows func179 rfl 9 rfl _ fz2 (fun h=> ?_)
 refine AZ rfl<|Aa<|Cz a (vs:=[a]) (o:=0) rfl rfl (Az d) rfl<|rn 1 rfl<|kC g fun e g=>rI (Rd.shp b) e rfl<|rF (Rd.shp b) (Di e) rfl<|rE (AA b) e 0 rfl<|rz rfl ?_
 cases g
 exact aR eV1
def DH(N:Nat)(count:Int)(at0_:List (List UInt8×Int×Int)):Nat→List (List UInt8)→Int→Option (List (List UInt8))
  |0,_,_=>none
  |n9+1,s1_,x2_=>if x2_<count then(EF N x2_ at0_).bind fun r15=>ck (0≤x2_∧x2_<(s1_.length:Int)) (ck (R64 (x2_+1)) ((DH N count at0_ n9) ((s1_).set (x2_.toNat) r15) (x2_+1)))else some s1_
def HI(N:Nat)(count:Int)(at0_:List (List UInt8×Int×Int)):Option (List (List UInt8)):=ck (0≤count∧count≤8796093022208) (DH N count at0_ N (List.replicate count.toNat ([])) 0)
theorem OW(N count f r)(b:HI N count f=some r)(ro)(a:Nat)(e)(k:Rd FH ro e f)(i:Blk ro a [e]):Does prog 178 #[vI count,vF 179 #[] #[vP a 0]] ro [] (p1 (fun s_=>s_) 9 By r):=by
 unfold HI at b
 refine Ag follows func178 rfl 21 rfl _ fz2 (fun y=> ?_)
 refine AZ rfl<|Aa<|rn 1 rfl<|kC b fun z b=>cB 8<|LX (Ls:=[]) 9 By ([]) count rfl rfl rfl rfl rfl rfl rfl rfl rfl rfl 8796093022208 rfl z (fun _ _ _ _ _=>Iff.rfl) (fun A D E=> ?_)
 refine rz rfl<|Ae fun H B=>AZ rfl<|Am<|BH _ (Sub.pick [D] [0] rfl)<|AS (fun tt ll nn=> ∃(m:Nat) (g:List (List UInt8)) (c:Int),(DH N count f m g c=some r)∧ ∃(d:List Bl),Sl 9 By A g d∧Is [(1,vF 179 #[] #[vP a 0]),(5,A),(9,vI count),(10,vI c)] (List.flatten [d]) tt ll∧nn=m+1) (N+1) ?_ ?_
 ·exact⟨N,(List.replicate count.toNat ([])),0,b,D,E,Aj rfl rfl,rfl⟩
 clear b;rintro t l _ ⟨m,g,c,b,d,h,⟨⟨T,rfl⟩,rfl⟩,rfl⟩
 rcases m with _|m
 ·exact absurd b (by simp [DH])
 rw [DH] at b
 refine AZ rfl<|Ae fun F n=>aD b rfl (fun p b=> ?_) (fun p b=> ?_)
 ·refine Ac<|n _ _ ?_
  refine Ae fun G q=>Am<|AZ rfl<|An<|rn 4 rfl<|kB b fun s u b=>gV _ (AV (caps:=[vP a 0]) rfl WI rfl) (fun o w z_=>KU N c f _ u z_.view a e (z_.r k) (Az i o w z_))<|kC b fun j b=>rI (Sl.shp h) j rfl<|MI (Ls:=[d]) 0 (En:=By) (g[c.toNat]!) s (c.toNat) 0 rfl rfl rfl h (Cs j) rfl rfl rfl (Ew rfl) rfl (fun v C=> ?_)
  refine Ah<|q _ _ ?_
  refine An<|kC b fun x b=>rX x rfl<|rz rfl<|fg _ (Sub.pick [v] [0] rfl) ?_
  exact⟨m+1,by omega,m,(g).set (c.toNat) s,(c+1),b,v,C,Aj rfl rfl,rfl⟩
 refine AT<|B _ _ ?_
 refine AZ rfl ?_
 cases b
 refine AO (fun I=>De (v0:=A) h (Cb (Sub.pick [d] [0] rfl)) rfl (BP rfl))
def HH(N:Nat)(l':List (List UInt8×Int×Int)):Option (List (List UInt8)):=(HI N (l'.length:Int) l').bind fun r4=>some r4
theorem OV(N l' r)(a:HH N l'=some r)(ro l'v)(hl':Rd FH ro l'v l'):Does prog 120 #[l'v] ro [] (p1 (fun s_=>s_) 9 By r):=by
 unfold HH at a
 refine Ag follows func120 rfl 7 rfl _ fz1 (fun b=> ?_)
 refine Aa<|r_a (48, #[l'v]) rfl rfl (Hp rfl (Rd.shp hl')) (fun c=> ?_) (.inr rfl)
 refine rz rfl<|Aa<|rm 1 [0] rfl<|rL (Rd.shp hl') rfl<|r_W (vF 179 #[] #[vP c 0]) rfl (Db rfl)<|kB a fun h d a=>gS (Ls:=[(Uk c l'v)]) (cF SS) (fun o w z_=>OW N (l'.length:Int) l' _ d z_.view c l'v ((AA hl') o w z_) (Bi 0 rfl rfl o w z_)) (fun e f g=> ?_)
 refine rz rfl ?_
 cases a
 refine AO (fun i=>De (v0:=e) g (Cb (Sub.pick [(Uk c l'v),f] [1] rfl)) rfl (BP rfl))
def Gv(N:Nat)(_:List UInt8)(_:Int)(x_2:Int):Option Bool:=(Cp N x_2 0 4).bind fun r4=>some r4
theorem Lk(N x_0 x_1 x_2 r)(a:Gv N x_0 x_1 x_2=some r):Gives prog 123 #[vA #[vS x_0,vI x_1,vI x_2]] (vB r):=by
 unfold Gv at a
 refine Ao follows func123 rfl 6 rfl _ fz1 (fun b=> ?_)
 refine Aa<|rA rfl fun d=>rz rfl<|Aa<|rm 2 [0] rfl<|kB a fun e c a=>rc _ (cF Ev) (CP N x_2 0 4 _ c)<|rz rfl ?_
 cases a
 exact aR eE1
def FQ(N:Nat)(x_0:List UInt8)(x_1:Int)(x_2:Int):Option Int:=(Gv N x_0 x_1 x_2).bind fun r5=>if r5=true then some (max x_2 1)else some 0
theorem JB(N x_0 x_1 x_2 r)(a:FQ N x_0 x_1 x_2=some r):Gives prog 168 #[vA #[vS x_0,vI x_1,vI x_2]] (vI r):=by
 unfold FQ at a
 refine Ao follows func168 rfl 9 rfl _ fz1 (fun c=> ?_)
 refine Aa<|rA rfl fun f=>rz rfl<|Ae fun g d=>Aa<|rm 1 [0] rfl<|kB a fun h e a=>rc _ (cF Tb) (Lk N x_0 x_1 x_2 _ e)<|rz rfl<|Ai _ rfl (fun b=> ?_) (fun b=> ?_)
 ·replace a:=ifn (Bool.eq_false_iff.1 (Cd b)) a
  refine AZ rfl ?_
  cases a
  exact aR eE1
 replace a:=ifp (Ce b) a
 refine Ac<|d _ _ ?_
 refine Aa<|rm 2 [0] rfl<|r_W (vI (max x_2 1)) rfl (TK rfl rfl)<|rz rfl ?_
 cases a
 exact aR eE1
def GJ(N:Nat)(l':List (List UInt8×Int×Int)):Nat→Int→Int→Option Int
  |0,_,_=>none
  |n5+1,n1_,x2_=>if x2_<(l'.length:Int)then ck (0≤x2_∧x2_<(l'.length:Int)) ((FQ N ((l'[x2_.toNat]!).1) ((l'[x2_.toNat]!).2.1) ((l'[x2_.toNat]!).2.2)).bind fun r13=>ck (R64 (n1_+r13)) (ck (R64 (x2_+1)) ((GJ N l' n5) (n1_+r13) (x2_+1))))else some n1_
def Kq(N:Nat)(l':List (List UInt8×Int×Int)):Option Int:=GJ N l' N 0 0
theorem PH(N l' r)(a:Kq N l'=some r)(ro l'v)(hl':Rd FH ro l'v l'):Does prog 124 #[l'v] ro [] (pV (vI r)):=by
 unfold Kq at a
 refine Ag follows func124 rfl 18 rfl _ fz1 (fun i=> ?_)
 refine AZ rfl<|AZ rfl<|Ae fun q j=>Aa<|rn 1 rfl<|rL (Rd.shp hl') rfl<|rz rfl<|Am<|AS (fun tt ll nn=> ∃(e:Nat) (c:Int) (b:Int),(GJ N l' e c b=some r)∧Is [(3,vI c),(6,l'v),(7,vI (l'.length:Int)),(8,vI b)] [] tt ll∧nn=e+1) (N+1) ?_ ?_
 ·exact⟨N,0,0,a,Aj rfl rfl,rfl⟩
 clear a;rintro t l _ ⟨e,c,b,a,⟨⟨T,rfl⟩,rfl⟩,rfl⟩
 rcases e with _|e
 ·exact absurd a (by simp [GJ])
 rw [GJ] at a
 refine AZ rfl<|Ae fun s k=>aD a rfl (fun m a=> ?_) (fun m a=> ?_)
 ·refine Ac<|k _ _ ?_
  refine Ae fun u n=>Am<|Aa<|kC a fun d a=>rI (Rd.shp hl') d rfl<|rE (AA hl') d 0 rfl<|rA rfl fun p=>ry [0] rfl<|An<|rm 2 [0] rfl<|kB a fun o f a=>rc _ (cF OK) (JB N ((l'[b.toNat]!).1) ((l'[b.toNat]!).2.1) ((l'[b.toNat]!).2.2) _ f)<|kC a fun g a=>rX g rfl<|rz rfl<|n _ _ ?_
  refine An<|kC a fun h a=>rX h rfl<|rz rfl<|fg _ (Sub.of (suC _ suN)) ?_
  exact⟨e+1,by omega,e,(c+o),(b+1),a,Aj rfl rfl,rfl⟩
 refine AT<|j _ _ ?_
 refine AZ rfl ?_
 cases a
 exact aR eV1
def GL(N:Nat)(headers:List ((List UInt8)×(List (List UInt8×Int))×Int×Int×Int×Int))(l':List (List UInt8×Int×Int))(r7:List (List UInt8)):Nat→Int→Option Int
  |0,_=>none
  |n14+1,x1_=>if x1_<(l'.length:Int)then ck (0≤x1_∧x1_<(l'.length:Int)) ((Hq N r7 x1_).bind fun r24=>if(r24:Int)≠0 then some r24 else ck ((R64 ((headers.length:Int) - 1))) ((Cp N ((l'[x1_.toNat]!).2.1) 0 ((headers.length:Int) - 1)).bind fun r31=>if r31=true then(Gv N ((l'[x1_.toNat]!).1) ((l'[x1_.toNat]!).2.1) ((l'[x1_.toNat]!).2.2)).bind fun r36=>if r36=true then ck (R64 (x1_+1)) ((GL N headers l' r7 n14) (x1_+1))else some 7 else some 5))else(Kq N l').bind fun r43=>if r43>32 then some 8 else some 0
def LO(N:Nat)(headers:List ((List UInt8)×(List (List UInt8×Int))×Int×Int×Int×Int))(l':List (List UInt8×Int×Int)):Option Int:=if(l'.length:Int)>16 then some 2 else(HH N l').bind fun r7=>GL N headers l' r7 N 0
theorem UI(N headers l' r)(a:LO N headers l'=some r)(ro headersv)(hheaders:RdN EE ro headersv headers)(l'v)(hl':Rd FH ro l'v l'):Does prog 74 #[headersv,l'v] ro [] (pV (vI r)):=by
 unfold LO at a
 refine Ag follows func74 rfl 43 rfl _ fz2 (fun C=> ?_)
 refine AZ rfl<|Ae fun U D=>Aa<|rn 1 rfl<|rL (Rd.shp hl') rfl<|rz rfl<|aD a rfl (fun E a=> ?_) (fun E a=> ?_)
 ·refine AZ rfl ?_
  cases a
  exact aR eV1
 refine Ac<|D _ _ ?_
 refine Aa<|rn 1 rfl<|kB a fun H F a=>gS (Ls:=[]) (cF XA) (fun o w z_=>OV N l' _ F z_.view l'v ((AA hl') o w z_)) (fun I f G=> ?_)
 refine rz rfl<|Ae fun J h=>Aa<|rn 1 rfl<|rL (Rd.shp hl') rfl<|rz rfl<|Am<|BH _ (Sub.pick [f] [0] rfl)<|AS (fun tt ll nn=> ∃(c:Nat) (b:Int),(GL N headers l' H c b=some r)∧Is [(0,headersv),(1,l'v),(5,I),(14,l'v),(15,vI (l'.length:Int)),(16,vI b)] (List.flatten [f]) tt ll∧nn=c+1) (N+1) ?_ ?_
 ·exact⟨N,0,a,Aj rfl rfl,rfl⟩
 clear a;rintro t l _ ⟨c,b,a,⟨⟨T,rfl⟩,rfl⟩,rfl⟩
 rcases c with _|c
 ·exact absurd a (by simp [GL])
 rw [GL] at a
 refine AZ rfl<|Ae fun K i=>aD a rfl (fun j a=> ?_) (fun j a=> ?_)
 ·refine Ac<|i _ _ ?_
  refine Ae fun L m=>Am<|Aa<|rn 1 rfl<|kC a fun g a=>rI (Rd.shp hl') g rfl<|rE (AA hl') g 0 rfl<|rA rfl fun n=>ry [0] rfl<|Ae fun M p=>Aa<|rn 2 rfl<|kB a fun O q a=>gV _ (cF Tc) (fun o w z_=>My N H b _ q z_.view I ((Ar G (Af (Ls:=[(Uj n ((l'[b.toNat]!).1) ((l'[b.toNat]!).2.1) ((l'[b.toNat]!).2.2)),f]) (k:=1) rfl rfl)) o w z_))<|rz rfl<|AZ rfl<|aN a rfl (fun s a=> ?_) (fun s a=> ?_)
  ·refine AZ rfl ?_
   cases a
   exact aR eV1
  refine Ac<|p _ _ ?_
  refine Am<|Aa<|rm 3 [0] rfl<|rL (RdN.shp hheaders) rfl<|kC a fun u a=>rX u rfl<|kB a fun P v a=>rc _ (cF Ev) (CP N ((l'[b.toNat]!).2.1) 0 ((headers.length:Int) - 1) _ v)<|rz rfl<|Ai _ rfl (fun d=> ?_) (fun d=> ?_)
  ·replace a:=ifn (Bool.eq_false_iff.1 (Cd d)) a
   refine AZ rfl<|Cx [(4,vI 5)] rfl (fun T=> ?_)
   cases a
   exact aR eV1
  replace a:=ifp (Ce d) a
  refine Aa<|rm 1 [0] rfl<|kB a fun Q x a=>rc _ (cF Tb) (Lk N ((l'[b.toNat]!).1) ((l'[b.toNat]!).2.1) ((l'[b.toNat]!).2.2) _ x)<|rz rfl<|Ai _ rfl (fun e=> ?_) (fun e=> ?_)
  ·replace a:=ifn (Bool.eq_false_iff.1 (Cd e)) a
   refine AZ rfl<|Cx [(4,vI 7)] rfl (fun T=> ?_)
   cases a
   exact aR eV1
  replace a:=ifp (Ce e) a
  refine Ac<|m _ _ ?_
  refine An<|kC a fun y a=>rX y rfl<|rz rfl<|fg _ (Sub.pick [(Uj n ((l'[b.toNat]!).1) ((l'[b.toNat]!).2.1) ((l'[b.toNat]!).2.2)),f] [1] rfl) ?_
  exact⟨c+1,by omega,c,(b+1),a,Aj rfl rfl,rfl⟩
 refine AT<|h _ _ ?_
 refine Ae fun R z=>Aa<|rn 1 rfl<|kB a fun S A a=>gV _ (cF Ta) (fun o w z_=>PH N l' _ A z_.view l'v ((AA hl') o w z_))<|rz rfl<|aD a rfl (fun B a=> ?_) (fun B a=> ?_)
 ·refine AZ rfl ?_
  cases a
  exact aR eV1
 refine Ac<|z _ _ ?_
 refine AZ rfl ?_
 cases a
 exact aR eV1
def Je(N:Nat)(c:AF):Option (Int×Int):=(LO N c.2.1 c.2.2.1).bind fun r4=>some (0,r4)
theorem QM(N c r)(a:Je N c=some r)(ro)(cv:AE)(hc:Bun59R ro cv c):Does prog 36 #[vA (Ab c cv)] ro [] (pV (vT #[vI r.1,vI r.2])):=by
 unfold Je at a
 refine Ag follows func36 rfl 11 rfl _ fz1 (fun b=> ?_)
 refine Aa<|rA rfl fun e=>rz rfl<|Aa<|rm 6 [0,0] rfl<|kB a fun f d a=>gV _ (cF YW) (fun o w z_=>UI N c.2.1 c.2.2.1 _ d z_.view cv.1 (RdN.mono z_.ro_cell hc.1) cv.2.1 ((AA hc.2.1) o w z_))<|rz rfl ?_
 cases a
 exact aR eV2
def Kc(_:Nat)(f_0:List UInt8)(_:Int):Option (List UInt8):=some f_0
theorem Sq(N f_0 f_1 r)(b:Kc N f_0 f_1=some r):Gives prog 76 #[vA #[vS f_0,vI f_1]] (vS r):=by
 unfold Kc at b
 refine Ao follows func76 rfl 5 rfl _ fz1 (fun a=> ?_)
 refine Aa<|rA rfl fun c=>rz rfl<|AY [0] rfl ?_
 cases b
 exact aR eE1
def DP(N:Nat)(l':List (List UInt8×Int)):Nat→List (List UInt8)→Int→Option (List (List UInt8))
  |0,_,_=>none
  |n9+1,s1_,x2_=>if x2_<(l'.length:Int)then ck (0≤x2_∧x2_<(l'.length:Int)) ((Kc N ((l'[x2_.toNat]!).1) ((l'[x2_.toNat]!).2)).bind fun r17=>ck (0≤x2_∧x2_<(s1_.length:Int)) (ck (R64 (x2_+1)) ((DP N l' n9) ((s1_).set (x2_.toNat) r17) (x2_+1))))else some s1_
def Ia(N:Nat)(l':List (List UInt8×Int)):Option (List (List UInt8)):=ck (0≤(l'.length:Int)∧(l'.length:Int)≤8796093022208) (DP N l' N ((List.replicate ((l'.length:Int)).toNat ([]))) 0)
theorem Pl(N l' r)(b:Ia N l'=some r)(ro l'v)(hl':Rd BG ro l'v l'):Does prog 125 #[l'v,vF 76 #[] #[]] ro [] (p1 (fun s_=>s_) 9 By r):=by
 unfold Ia at b
 refine Ag follows func125 rfl 26 rfl _ fz2 (fun s=> ?_)
 refine AZ rfl<|Aa<|rn 1 rfl<|rL (Rd.shp hl') rfl<|kC b fun u b=>cB 10<|LX (Ls:=[]) 9 By ([]) (l'.length:Int) rfl rfl rfl rfl rfl rfl rfl rfl rfl rfl 8796093022208 rfl u (fun _ _ _ _ _=>Iff.rfl) (fun v y z=> ?_)
 refine rz rfl<|Ae fun C w=>Aa<|rn 1 rfl<|rL (Rd.shp hl') rfl<|rz rfl<|Am<|BH _ (Sub.pick [y] [0] rfl)<|AS (fun tt ll nn=> ∃(h:Nat) (d:List (List UInt8)) (a:Int),(DP N l' h d a=some r)∧ ∃(c:List Bl),Sl 9 By v d c∧Is [(1,vF 76 #[] #[]),(5,v),(11,l'v),(12,vI (l'.length:Int)),(13,vI a)] (List.flatten [c]) tt ll∧nn=h+1) (N+1) ?_ ?_
 ·exact⟨N,(List.replicate ((l'.length:Int)).toNat ([])),0,b,y,z,Aj rfl rfl,rfl⟩
 clear b;rintro t l _ ⟨h,d,a,b,c,e,⟨⟨T,rfl⟩,rfl⟩,rfl⟩
 rcases h with _|h
 ·exact absurd b (by simp [DP])
 rw [DP] at b
 refine AZ rfl<|Ae fun A i=>aD b rfl (fun j b=> ?_) (fun j b=> ?_)
 ·refine Ac<|i _ _ ?_
  refine Ae fun B k=>Am<|Aa<|rn 1 rfl<|kC b fun f b=>rI (Rd.shp hl') f rfl<|rE (AA hl') f 0 rfl<|rA rfl fun m=>ry [0] rfl<|An<|rm 4 [0] rfl<|kB b fun n o b=>rc _ (AV (caps:=[]) rfl YU rfl) (Sq N ((l'[a.toNat]!).1) ((l'[a.toNat]!).2) _ o)<|kC b fun g b=>rI (Sl.shp e) g rfl<|MI (Ls:=[(Kw m ((l'[a.toNat]!).1) ((l'[a.toNat]!).2)),c]) 1 (En:=By) (d[a.toNat]!) n (a.toNat) 0 rfl rfl rfl e (Cs g) rfl rfl rfl (Ew rfl) rfl (fun p x=> ?_)
  refine Ah<|k _ _ ?_
  refine An<|kC b fun q b=>rX q rfl<|rz rfl<|fg _ (Sub.pick [(Kw m ((l'[a.toNat]!).1) ((l'[a.toNat]!).2)),p] [1] rfl) ?_
  exact⟨h+1,by omega,h,(d).set (a.toNat) n,(a+1),b,p,x,Aj rfl rfl,rfl⟩
 refine AT<|w _ _ ?_
 refine AZ rfl ?_
 cases b
 refine AO (fun D=>De (v0:=v) e (Cb (Sub.pick [c] [0] rfl)) rfl (BP rfl))
def BT(N:Nat)(s:List UInt8):Option Bool:=(GO N s).bind fun r3=>if r3=true then(Gw N s ([46]:List UInt8)).bind fun r6=>some (!(r6))else some false
theorem Fy(N s r)(a:BT N s=some r):Gives prog 128 #[vS s] (vB r):=by
 unfold BT at a
 refine Ao follows func128 rfl 10 rfl _ fz1 (fun d=> ?_)
 refine AZ rfl<|Ae fun h b=>An<|rn 1 rfl<|kB a fun g e a=>rc _ (cF Rx) (La N s _ e)<|rn 1 rfl ?_
 rcases c:g with _|_
 ·replace a:=iB c a
  refine rz rfl<|b _ _ ?_
  cases a
  exact aR eE1
 replace a:=ifp c a
 refine rn 1 rfl<|r_y rfl<|kB a fun i f a=>rc _ (cF SU) (Lm N s ([46]:List UInt8) _ f)<|rz rfl<|b _ _ ?_
 cases a
 exact aR eE1
def Ej(N:Nat)(w:Int):Option Int:=(Au N w 1 128).bind fun r3=>(Al N r3 9).bind fun r5=>some r5
theorem IU(N w r)(a:Ej N w=some r):Gives prog 78 #[vI w] (vI r):=by
 unfold Ej at a
 refine Ao follows func78 rfl 6 rfl _ fz1 (fun b=> ?_)
 refine AZ rfl<|Aa<|rn 1 rfl<|kB a fun e c a=>rc _ (cF BI) (Ax N w 1 128 _ c)<|kB a fun f d a=>rc _ (cF AI) (Ap N e 9 _ d)<|rz rfl ?_
 cases a
 exact aR eE1
def Hx(N:Nat)(_:List UInt8)(f_1:Int):Option Int:=(Ej N f_1).bind fun r4=>some r4
theorem So(N f_0 f_1 r)(a:Hx N f_0 f_1=some r):Gives prog 77 #[vA #[vS f_0,vI f_1]] (vI r):=by
 unfold Hx at a
 refine Ao follows func77 rfl 6 rfl _ fz1 (fun b=> ?_)
 refine Aa<|rA rfl fun d=>rz rfl<|Aa<|rm 2 [0] rfl<|kB a fun e c a=>rc _ (cF Rw) (IU N f_1 _ c)<|rz rfl ?_
 cases a
 exact aR eE1
def Gg(N:Nat)(i:Int)(x_0:List UInt8)(x_1:Int)(c2_:List (List UInt8)):Option Int:=ck (0≤i∧i<(c2_.length:Int)) ((BT N (c2_[i.toNat]!)).bind fun r5=>(Al N r5 4).bind fun r7=>(AH N c2_ i).bind fun r9=>(Hx N x_0 x_1).bind fun r11=>(Ay N ([r7,r9,r11])).bind fun r16=>some r16)
theorem MO(N i x_0 x_1 b r)(c:Gg N i x_0 x_1 b=some r)(ro)(l:Nat)(a)(e:Rd By ro a b)(f:Blk ro l [a])(m:Nat)(n:Blk ro m [vF 77 #[] #[]]):Does prog 127 #[vI i,vA #[vS x_0,vI x_1],vP l 0,vP m 0] ro [] (pV (vI r)):=by
 unfold Gg at c
 refine Ag follows func127 rfl 21 rfl _ fz4 (fun z=> ?_)
 refine Aa<|rA rfl fun G=>rz rfl<|Ae fun J A=>Bt [(some 15,false),(some 19,false),(some 20,false)] (conG prog [(15,cV (AH N b i) fun j=>vI j),(20,fun _ _ v_ L_ U_=> ∀j,BT N (b[i.toNat]!)=some j→ ∀t,Al N j 4=some t→ ∀u,AH N b i=some u→ ∀v,Hx N x_0 x_1=some v→ ∀x,Ay N ([t,u,v])=some x→(pV (vI x)) v_ L_ U_)]) [] (by decide+kernel) (fun K=>AW)<|Cz a (vs:=[a]) (o:=0) rfl rfl (Az f) rfl<|rn 1 rfl<|kC c fun y c=>rI (Rd.shp e) y rfl<|rE (AA e) y 0 rfl<|kB c fun H p c=>rc _ (cF Ho) (Fy N (b[i.toNat]!) _ p)<|kB c fun B q c=>rc _ (cF AI) (Ap N H 4 _ q)<|Cz a (vs:=[a]) (o:=0) rfl rfl (Az f) rfl<|rn 1 rfl<|kB c fun C d c=>rg _ (cF HF) (fun o w z_=>CL N b i _ d z_.view a (z_.r e)) (DA d)<|Cz (vF 77 #[] #[]) (vs:=[vF 77 #[] #[]]) (o:=0) rfl rfl (Az n) rfl<|rm 1 [0] rfl<|kB c fun s g c=>rc _ (AV (caps:=[]) rfl YT rfl) (So N x_0 x_1 _ g) ?_
 refine FY (Ls:=[(Kw G x_0 x_1)]) 44 AX [B,C,s] [vI B,vI C,vI s] [vI 0,vI 0,vI 0] rfl rfl rfl rfl rfl rfl rfl (by kernel_rfl) (by kernel_rfl) rfl rfl rfl (fun D E F=> ?_)
 refine kB c fun I h c=>rg _ (cF Bx) (fun o w z_=>Bc N ([B,C,s]) _ h z_.view D ((Ar F (Af (Ls:=[(Kw G x_0 x_1),E]) (k:=1) rfl rfl)) o w z_)) (fun _ _ v_ L_ U_=>⟨fun h_=>h_ _ p _ q _ d _ g _ h,fun h_=>by intro _ e_;cases Option.some.inj (e_.symm.trans p);intro _ e_;cases Option.some.inj (e_.symm.trans q);intro _ e_;cases Option.some.inj (e_.symm.trans d);intro _ e_;cases Option.some.inj (e_.symm.trans g);intro _ e_;cases Option.some.inj (e_.symm.trans h);exact h_⟩) ?_
 refine rz rfl<|A _ _ ?_
 cases c
 exact aR eV1
def DT(N:Nat)(l':List (List UInt8×Int))(ask0_:List (List UInt8)):Nat→Int→Option (Int×Int)
  |0,_=>none
  |n8+1,x1_=>if x1_<(l'.length:Int)then ck (0≤x1_∧x1_<(l'.length:Int)) ((Gg N x1_ ((l'[x1_.toNat]!).1) ((l'[x1_.toNat]!).2) ask0_).bind fun r17=>if(r17:Int)≠0 then some (x1_,r17)else ck (R64 (x1_+1)) ((DT N l' ask0_ n8) (x1_+1)))else some (0,0)
def If(N:Nat)(l':List (List UInt8×Int))(most:Int)(ask0_:List (List UInt8)):Option (Int×Int):=if(l'.length:Int)>most then some (0,2)else DT N l' ask0_ N 0
theorem Pp(N l' most d r)(c:If N l' most d=some r)(ro l'v)(hl':Rd BG ro l'v l')(a:Nat)(e)(i:Rd By ro e d)(g:Blk ro a [e])(b:Nat)(h:Blk ro b [vF 77 #[] #[]]):Does prog 126 #[l'v,vI most,vF 127 #[] #[vP a 0,vP b 0]] ro [] (pV (vT #[vI r.1,vI r.2])):=by
 unfold If at c
 refine Ag follows func126 rfl 31 rfl _ fz3 (fun v=> ?_)
 refine AZ rfl<|Ae fun E x=>Aa<|rn 1 rfl<|rL (Rd.shp hl') rfl<|rz rfl<|aD c rfl (fun y c=> ?_) (fun y c=> ?_)
 ·refine AZ rfl ?_
  cases c
  exact aR eV2
 refine Ac<|x _ _ ?_
 refine Ae fun F z=>Aa<|rn 1 rfl<|rL (Rd.shp hl') rfl<|rz rfl<|Am<|AS (fun tt ll nn=> ∃(k:Nat) (f:Int),(DT N l' d k f=some r)∧Is [(2,vF 127 #[] #[vP a 0,vP b 0]),(15,l'v),(16,vI (l'.length:Int)),(17,vI f)] [] tt ll∧nn=k+1) (N+1) ?_ ?_
 ·exact⟨N,0,c,Aj rfl rfl,rfl⟩
 clear c;rintro t l _ ⟨k,f,c,⟨⟨T,rfl⟩,rfl⟩,rfl⟩
 rcases k with _|k
 ·exact absurd c (by simp [DT])
 rw [DT] at c
 refine AZ rfl<|Ae fun A m=>aD c rfl (fun n c=> ?_) (fun n c=> ?_)
 ·refine Ac<|m _ _ ?_
  refine Ae fun B p=>Am<|Aa<|rn 1 rfl<|kC c fun j c=>rI (Rd.shp hl') j rfl<|rE (AA hl') j 0 rfl<|rA rfl fun C=>ry [0] rfl<|Aa<|rm 3 [0] rfl<|kB c fun D q c=>gV _ (AV (caps:=[vP a 0,vP b 0]) rfl Xx rfl) (fun o w z_=>MO N f ((l'[f.toNat]!).1) ((l'[f.toNat]!).2) d _ q z_.view a e (z_.r i) (Az g o w z_) b (Az h o w z_))<|rz rfl<|AZ rfl<|aN c rfl (fun s c=> ?_) (fun s c=> ?_)
  ·refine AZ rfl ?_
   cases c
   exact aR eV2
  refine Ac<|p _ _ ?_
  refine An<|kC c fun u c=>rX u rfl<|rz rfl<|fg _ (Sub.of (suC _ suN)) ?_
  exact⟨k+1,by omega,k,(f+1),c,Aj rfl rfl,rfl⟩
 refine AT<|z _ _ ?_
 refine AZ rfl ?_
 cases c
 exact aR eV2
def HW(N:Nat)(l':List (List UInt8×Int))(most:Int):Option (Int×Int):=(Ia N l').bind fun r4=>(If N l' most r4).bind fun r11=>some (r11.1,r11.2)
theorem Ph(N l' most r)(a:HW N l' most=some r)(ro l'v)(hl':Rd BG ro l'v l'):Does prog 75 #[l'v,vI most,vF 76 #[] #[],vF 77 #[] #[]] ro [] (pV (vT #[vI r.1,vI r.2])):=by
 unfold HW at a
 refine Ag follows func75 rfl 20 rfl _ fz4 (fun d=> ?_)
 refine Aa<|rA rfl fun b=>rz rfl<|Aa<|rn 2 rfl<|kB a fun j g a=>gS (Ls:=[(NJ b (vF 77 #[] #[]))]) (cF Xz) (fun o w z_=>Pl N l' _ g z_.view l'v ((AA hl') o w z_)) (fun e i h=> ?_)
 refine rA rfl fun f=>r_s (List.flatten [(LB f e),(NJ b (vF 77 #[] #[])),i]) 0 _ _ _ _ _ (#[e]) rfl rfl rfl (BZ rfl (Sl.shp h)) (.ofS rfl rfl (Ad (Shp.one (Sl.shp h)) Bf)) rfl rfl<|Ah<|Aa<|rn 2 rfl<|r_W (vF 127 #[] #[vP f 0,vP b 0]) rfl (Db rfl)<|kB a fun l c a=>gV _ (cF Xy) (fun o w z_=>Pp N l' most j _ c z_.view l'v ((AA hl') o w z_) f e ((Ar h (Af (Ls:=[(LB f e),(NJ b (vF 77 #[] #[])),i]) (k:=2) rfl rfl)) o w z_) (Bi 0 rfl rfl o w z_) b (Bi 1 rfl rfl o w z_))<|rz rfl ?_
 cases a
 exact aR eV2
def Jc(N:Nat)(c:AF):Option (Int×Int):=(HW N c.2.2.2.1 16).bind fun r4=>some (r4.1,r4.2)
theorem QJ(N c r)(a:Jc N c=some r)(ro)(cv:AE)(hc:Bun59R ro cv c):Does prog 37 #[vA (Ab c cv)] ro [] (pV (vT #[vI r.1,vI r.2])):=by
 unfold Jc at a
 refine Ag follows func37 rfl 10 rfl _ fz1 (fun b=> ?_)
 refine Aa<|rA rfl fun e=>rz rfl<|Aa<|rm 3 [0] rfl<|kB a fun f d a=>gV _ (cF YV) (fun o w z_=>Ph N c.2.2.2.1 16 _ d z_.view cv.2.2.1 ((AA hc.2.2.1) o w z_))<|rz rfl ?_
 cases a
 exact aR eV2
def Gl(_:Nat)(s_0:List UInt8)(_:List (Int×Int))(_:List (Int×Int×Int))(_:List (Int×BitVec 128×Int×BitVec 128×Int))(_:Int):Option (List UInt8):=some s_0
theorem MT(N s_0 s_1 s_2 s_3 s_4 r)(b:Gl N s_0 s_1 s_2 s_3 s_4=some r)(ro:Ro)(s_1v:Value)(_hs_1:Rd Jl ro s_1v s_1)(s_2v:Value)(_hs_2:Rd CN ro s_2v s_2)(s_3v:Value)(_hs_3:Rd Jk ro s_3v s_3):Does prog 80 #[vA #[vS s_0,s_1v,s_2v,s_3v,vI s_4]] ro [] (pV (vS r)):=by
 unfold Gl at b
 refine Ag follows func80 rfl 5 rfl _ fz1 (fun a=> ?_)
 refine Aa<|rA rfl fun c=>rz rfl<|AY [0] rfl ?_
 cases b
 exact aR eV1
def DN(N:Nat)(l':List ((List UInt8)×(List (Int×Int))×(List (Int×Int×Int))×(List (Int×BitVec 128×Int×BitVec 128×Int))×Int)):Nat→List (List UInt8)→Int→Option (List (List UInt8))
  |0,_,_=>none
  |n9+1,s1_,x2_=>if x2_<(l'.length:Int)then ck (0≤x2_∧x2_<(l'.length:Int)) ((Gl N (l'[x2_.toNat]!.1) (l'[x2_.toNat]!.2.1) (l'[x2_.toNat]!.2.2.1) (l'[x2_.toNat]!.2.2.2.1) (l'[x2_.toNat]!.2.2.2.2)).bind fun r24=>ck (0≤x2_∧x2_<(s1_.length:Int)) (ck (R64 (x2_+1)) ((DN N l' n9) ((s1_).set (x2_.toNat) r24) (x2_+1))))else some s1_
def HY(N:Nat)(l':List ((List UInt8)×(List (Int×Int))×(List (Int×Int×Int))×(List (Int×BitVec 128×Int×BitVec 128×Int))×Int)):Option (List (List UInt8)):=ck (0≤(l'.length:Int)∧(l'.length:Int)≤8796093022208) (DN N l' N ((List.replicate ((l'.length:Int)).toNat ([]))) 0)
theorem Pj(N l' r)(b:HY N l'=some r)(ro l'v)(hl':RdN Fj ro l'v l'):Does prog 129 #[l'v,vF 80 #[] #[]] ro [] (p1 (fun s_=>s_) 9 By r):=by
 unfold HY at b
 refine Ag follows func129 rfl 26 rfl _ fz2 (fun B=> ?_)
 refine AZ rfl<|Aa<|rn 1 rfl<|rL (RdN.shp hl') rfl<|kC b fun C b=>cB 10<|LX (Ls:=[]) 9 By ([]) (l'.length:Int) rfl rfl rfl rfl rfl rfl rfl rfl rfl rfl 8796093022208 rfl C (fun _ _ _ _ _=>Iff.rfl) (fun D H I=> ?_)
 refine rz rfl<|Ae fun L F=>Aa<|rn 1 rfl<|rL (RdN.shp hl') rfl<|rz rfl<|Am<|BH _ (Sub.pick [H] [0] rfl)<|AS (fun tt ll nn=> ∃(p:Nat) (g:List (List UInt8)) (a:Int),(DN N l' p g a=some r)∧ ∃(c:List Bl),Sl 9 By D g c∧Is [(1,vF 80 #[] #[]),(5,D),(11,l'v),(12,vI (l'.length:Int)),(13,vI a)] (List.flatten [c]) tt ll∧nn=p+1) (N+1) ?_ ?_
 ·exact⟨N,(List.replicate ((l'.length:Int)).toNat ([])),0,b,H,I,Aj rfl rfl,rfl⟩
 clear b;rintro t l _ ⟨p,g,a,b,c,h,⟨⟨T,rfl⟩,rfl⟩,rfl⟩
 rcases p with _|p
 ·exact absurd b (by simp [DN])
 rw [DN] at b
 refine AZ rfl<|Ae fun J s=>aD b rfl (fun u b=> ?_) (fun u b=> ?_)
 ·refine Ac<|s _ _ ?_
  refine Ae fun K v=>Am<|Aa<|rn 1 rfl<|kC b fun i b=> ?_
  obtain⟨_,⟨d,e,f,j,k,m,rfl⟩,hat22⟩:=RdN.at (E:=Fj) hl' (Cs i)
  refine rI (RdN.shp hl') i rfl<|Nt (vA #[vS (l'[a.toNat]!.1),d,e,f,vI (l'[a.toNat]!.2.2.2.2)]) (vs:=[vS (l'[a.toNat]!.1),d,e,f,vI (l'[a.toNat]!.2.2.2.2)]) (a.toNat*5) 0 rfl rfl (fun o w z_=>At.mono z_.ro_cell hat22) rfl<|rA rfl fun q=>rn 1 rfl<|r_s (List.flatten [(Qx q (l'[a.toNat]!.1) d e f (l'[a.toNat]!.2.2.2.2)),c]) 0 _ _ _ _ _ (#[vS (l'[a.toNat]!.1),d,e,f,vI (l'[a.toNat]!.2.2.2.2)]) rfl rfl rfl rfl (.ofS rfl rfl (Ad rfl (Ad (Shp.one (Rd.shp j)) (Ad (Shp.one (Rd.shp k)) (Ad (Shp.one (Rd.shp m)) (Ad rfl Bf)))))) rfl rfl<|Ah<|An<|rm 4 [0] rfl<|kB b fun x y b=>gV _ (AV (caps:=[]) rfl YR rfl) (fun o w z_=>MT N (l'[a.toNat]!.1) (l'[a.toNat]!.2.1) (l'[a.toNat]!.2.2.1) (l'[a.toNat]!.2.2.2.1) (l'[a.toNat]!.2.2.2.2) _ y z_.view d (z_.r j) e (z_.r k) f (z_.r m))<|kC b fun n b=>rI (Sl.shp h) n rfl<|MI (Ls:=[(Qx q (l'[a.toNat]!.1) d e f (l'[a.toNat]!.2.2.2.2)),c]) 1 (En:=By) (g[a.toNat]!) x (a.toNat) 0 rfl rfl rfl h (Cs n) rfl rfl rfl (Ew rfl) rfl (fun z G=> ?_)
  refine Ah<|v _ _ ?_
  refine An<|kC b fun A b=>rX A rfl<|rz rfl<|fg _ (Sub.pick [(Qx q (l'[a.toNat]!.1) d e f (l'[a.toNat]!.2.2.2.2)),z] [1] rfl) ?_
  exact⟨p+1,by omega,p,(g).set (a.toNat) x,(a+1),b,z,G,Aj rfl rfl,rfl⟩
 refine AT<|F _ _ ?_
 refine AZ rfl ?_
 cases b
 refine AO (fun M=>De (v0:=D) h (Cb (Sub.pick [c] [0] rfl)) rfl (BP rfl))
def Ll(N:Nat)(l':List (List UInt8×Int×Int)):Nat→Int→Int→Option (Int×Int×Bool)
  |0,_,_=>none
  |n8+1,slot1_,x2_=>if x2_<(l'.length:Int)then ck (0≤x2_∧x2_<(l'.length:Int)) ((FQ N ((l'[x2_.toNat]!).1) ((l'[x2_.toNat]!).2.1) ((l'[x2_.toNat]!).2.2)).bind fun r17=>if slot1_<r17 then some (x2_,slot1_,true)else ck (R64 (slot1_ - r17)) (ck (R64 (x2_+1)) ((Ll N l' n8) (slot1_ - r17) (x2_+1))))else some (0,0,false)
def Nq(N:Nat)(l':List (List UInt8×Int×Int))(slot:Int):Option (Int×Int×Bool):=if slot<0 then some (0,0,false)else Ll N l' N slot 0
theorem Ts(N l' slot r)(a:Nq N l' slot=some r)(ro l'v)(hl':Rd FH ro l'v l'):Does prog 105 #[l'v,vI slot] ro [] (pV (vT #[vI r.1,vI r.2.1,vB r.2.2])):=by
 unfold Nq at a
 refine Ag follows func105 rfl 30 rfl _ fz2 (fun o=> ?_)
 refine AZ rfl<|Ae fun z p=>AZ rfl<|aD a rfl (fun q a=> ?_) (fun q a=> ?_)
 ·refine AZ rfl ?_
  cases a
  exact aR eV3
 refine Ac<|p _ _ ?_
 refine Ae fun A s=>Aa<|rn 1 rfl<|rL (Rd.shp hl') rfl<|rz rfl<|Am<|AS (fun tt ll nn=> ∃(e:Nat) (b:Int) (c:Int),(Ll N l' e b c=some r)∧Is [(1,vI b),(12,l'v),(13,vI (l'.length:Int)),(14,vI c)] [] tt ll∧nn=e+1) (N+1) ?_ ?_
 ·exact⟨N,slot,0,a,Aj rfl rfl,rfl⟩
 clear a;rintro t l _ ⟨e,b,c,a,⟨⟨T,rfl⟩,rfl⟩,rfl⟩
 rcases e with _|e
 ·exact absurd a (by simp [Ll])
 rw [Ll] at a
 refine AZ rfl<|Ae fun v f=>aD a rfl (fun g a=> ?_) (fun g a=> ?_)
 ·refine Ac<|f _ _ ?_
  refine Ae fun w h=>Am<|Aa<|rn 1 rfl<|kC a fun d a=>rI (Rd.shp hl') d rfl<|rE (AA hl') d 0 rfl<|rA rfl fun x=>ry [0] rfl<|Aa<|rm 1 [0] rfl<|kB a fun u i a=>rc _ (cF OK) (JB N ((l'[c.toNat]!).1) ((l'[c.toNat]!).2.1) ((l'[c.toNat]!).2.2) _ i)<|rz rfl<|Ae fun y j=>AZ rfl<|aD a rfl (fun k a=> ?_) (fun k a=> ?_)
  ·refine AZ rfl ?_
   cases a
   exact aR eV3
  refine Ac<|j _ _ ?_
  refine An<|rn 2 rfl<|kC a fun m a=>rX m rfl<|rz rfl<|h _ _ ?_
  refine An<|kC a fun n a=>rX n rfl<|rz rfl<|fg _ (Sub.of (suC _ suN)) ?_
  exact⟨e+1,by omega,e,(b - u),(c+1),a,Aj rfl rfl,rfl⟩
 refine AT<|s _ _ ?_
 refine AZ rfl ?_
 cases a
 exact aR eV3
def KW(N:Nat)(l':List (List UInt8×Int×Int))(i:Int):Option (Int×Bool):=ck (0≤i∧i≤(l'.length:Int)) ((Kq N (((l').take (i.toNat)).drop 0)).bind fun r4=>some (r4,true))
def LP(N:Nat)(l':List (List UInt8×Int×Int))(i:Int):Option (Int×Bool):=ck ((R64 ((l'.length:Int) - 1))) ((Cp N i 0 ((l'.length:Int) - 1)).bind fun r8=>if r8=true then ck (0≤i∧i<(l'.length:Int)) ((FQ N ((l'[i.toNat]!).1) ((l'[i.toNat]!).2.1) ((l'[i.toNat]!).2.2)).bind fun r12=>if r12=0 then some (0,false)else KW N l' i)else some (0,false))
theorem UJ(N l' i r)(a:LP N l' i=some r)(ro l'v)(hl':Rd FH ro l'v l'):Does prog 106 #[l'v,vI i] ro [] (pV (vT #[vI r.1,vB r.2])):=by
 unfold LP at a
 refine Ag follows func106 rfl 24 rfl _ fz2 (fun h=> ?_)
 refine AZ rfl<|BW (fun tt ll=>(KW N l' i  =some r)∧Is [(0,l'v),(1,vI i)] [] tt ll) ?_ ?_
 ·refine Ae fun q d=>An<|rn 2 rfl<|rL (Rd.shp hl') rfl<|kC a fun j a=>rX j rfl<|kB a fun n k a=>rc _ (cF Ev) (CP N i 0 ((l'.length:Int) - 1) _ k)<|rn 2 rfl ?_
  rcases b:(!(n))with _|_
  ·replace a:=ifp (Ce b) a
   refine rn 2 rfl<|r_y rfl<|kC a fun c a=>rI (Rd.shp hl') c rfl<|r_y rfl<|rE (AA hl') c 0 rfl<|r_y rfl<|kB a fun p e a=>rc _ (cF OK) (JB N ((l'[i.toNat]!).1) ((l'[i.toNat]!).2.1) ((l'[i.toNat]!).2.2) _ e)<|rz rfl<|d _ _ ?_
   refine aE a rfl (fun f a=> ?_) (fun f a=> ?_)
   ·refine AZ rfl ?_
    cases a
    exact aR eV2
   refine Ac<|fg _ (Sub.of suN) ?_
   exact⟨a,Aj rfl rfl⟩
  replace a:=ifn (Bool.eq_false_iff.1 (Cd b)) a
  refine rz rfl<|d _ _ ?_
  refine Ai true rfl (fun _=> ?_) (fun h_=>nomatch h_)
  refine AZ rfl ?_
  cases a
  exact aR eV2
 clear a;rintro t l ⟨a,⟨T,rfl⟩,rfl⟩
 unfold KW at a
 refine Aa<|rn 2 rfl<|kC a fun g a=>r_W (Ch l'v 0 (i.toNat) 3) rfl (Cf (EI rfl rfl rfl rfl (Rd.shp hl') g))<|kB a fun s m a=>gV _ (cF Ta) (fun o w z_=>PH N (((l').take (i.toNat)).drop 0) _ m z_.view (Ch l'v 0 (i.toNat) 3) ((KX (AA hl') (Nat.zero_le _) (Ee g.2)) o w z_))<|rz rfl ?_
 cases a
 exact aR eV2
def Gb(m:AF)(inst:Int)(r4:Int×Bool):Option (Int×Int×Bool):=ck (0≤inst∧inst<(m.2.2.1.length:Int)) (some (r4.1,((m.2.2.1)[inst.toNat]!).2.2,true))
def DL(N:Nat)(m:AF)(inst:Int):Option (Int×Int×Bool):=(LP N m.2.2.1 inst).bind fun r4=>if r4.2=true then ck (0≤inst∧inst<(m.2.2.1.length:Int)) (if(((m.2.2.1)[inst.toNat]!).2.2:Int)=0 then some (0,0,false)else Gb m inst r4)else some (0,0,false)
theorem GT(N m inst r)(a:DL N m inst=some r)(ro)(mv:AE)(hm:Bun59R ro mv m):Does prog 58 #[vA (Ab m mv),vI inst] ro [] (pV (vT #[vI r.1,vI r.2.1,vB r.2.2])):=by
 unfold DL at a
 refine Ag follows func58 rfl 34 rfl _ fz2 (fun g=> ?_)
 refine Aa<|rA rfl fun k=>rz rfl<|Aa<|rm 3 [0] rfl<|kB a fun h i a=>gV _ (cF XJ) (fun o w z_=>UJ N m.2.2.1 inst _ i z_.view mv.2.1 ((AA hm.2.1) o w z_))<|rz rfl<|BW (fun tt ll=>(Gb m inst h  =some r)∧Is [(1,vI inst),(2,vP k 0),(7,vI h.1)] [(k,59,(Ab m mv))] tt ll) ?_ ?_
 ·refine Ae fun n d=>An<|rn 3 rfl ?_
  rcases e:(!(h.2))with _|_
  ·replace a:=ifp (Ce e) a
   refine rn 1 rfl<|r_y rfl<|rm 2 [0] rfl<|r_y rfl<|kC a fun b a=>rI (Rd.shp hm.2.1) b rfl<|r_y rfl<|rF (Rd.shp hm.2.1) (Di b) rfl<|r_y rfl<|rE (AA hm.2.1) b 2 rfl<|rz rfl<|d _ _ ?_
   refine aE a rfl (fun f a=> ?_) (fun f a=> ?_)
   ·refine AZ rfl ?_
    cases a
    exact aR eV3
   refine Ac<|fg _ (Sub.of (suK _ suN)) ?_
   exact⟨a,Aj rfl rfl⟩
  replace a:=ifn (Bool.eq_false_iff.1 (Cd e)) a
  refine rz rfl<|d _ _ ?_
  refine Ai true rfl (fun _=> ?_) (fun h_=>nomatch h_)
  refine AZ rfl ?_
  cases a
  exact aR eV3
 clear a;rintro t l ⟨a,⟨T,rfl⟩,rfl⟩
 unfold Gb at a
 refine Ae fun p j=>Js [] (by decide+kernel) (fun q=>AW)<|rm 4 [0] rfl<|kC a fun c a=>rI (Rd.shp hm.2.1) c rfl<|rF (Rd.shp hm.2.1) (Di c) rfl<|rE (AA hm.2.1) c 2 rfl<|rz rfl<|j _ _ ?_
 cases a
 exact aR eV3
def Ld(N:Nat)(c:AF)(_:Int)(x_0:Int)(x_1:Int):Option Int:=if x_0=0 then(Nq N c.2.2.1 x_1).bind fun r9=>if r9.2.2=true then ck (0≤r9.1∧r9.1<(c.2.2.1.length:Int)) ((Al N ((((c.2.2.1)[(r9.1).toNat]!).2.2:Int)==0) 5).bind fun r16=>some r16)else(Al N false 5).bind fun r13=>some r13 else if x_0=1 then(DL N c x_1).bind fun r21=>(Al N r21.2.2 5).bind fun r24=>some r24 else if x_0=2 then(Au N x_1 1 64).bind fun r29=>(Al N r29 7).bind fun r31=>some r31 else some 10
theorem TE(N c x x_0 x_1 r)(a:Ld N c x x_0 x_1=some r)(ro)(cv:AE)(hc:Bun59R ro cv c):Does prog 133 #[vA (Ab c cv),vI x,vA #[vI x_0,vI x_1]] ro [] (pV (vI r)):=by
 unfold Ld at a
 refine Ag follows func133 rfl 58 rfl _ fz3 (fun p=> ?_)
 refine Aa<|rA rfl fun D=>rA rfl fun E=>rz rfl<|Ae fun F q=>AY [0] rfl<|Am<|AZ rfl<|aE a rfl (fun s a=> ?_) (fun s a=> ?_)
 ·refine Aa<|rm 5 [1,0] rfl<|kB a fun z f a=>gV _ (cF OM) (fun o w z_=>Ts N c.2.2.1 x_1 _ f z_.view cv.2.1 ((AA hc.2.1) o w z_))<|rz rfl<|Ae fun A d=>An<|rn 2 rfl ?_
  rcases e:z.2.2 with _|_
  ·replace a:=iB e a
   refine rn 9 rfl<|kB a fun t g a=>rc _ (cF AI) (Ap N false 5 _ g)<|rz rfl<|d _ _ ?_
   refine Cx [(6,vI t)] rfl (fun T=> ?_)
   cases a
   exact aR eV1
  replace a:=ifp e a
  refine rn 2 rfl<|r_y rfl<|rm 2 [1] rfl<|r_y rfl<|kC a fun b a=>rI (Rd.shp hc.2.1) b rfl<|r_y rfl<|rF (Rd.shp hc.2.1) (Di b) rfl<|r_y rfl<|rE (AA hc.2.1) b 2 rfl<|rn 2 rfl<|kB a fun u h a=>rc _ (cF AI) (Ap N ((((c.2.2.1)[(z.1).toNat]!).2.2:Int)==0) 5 _ h)<|rz rfl<|d _ _ ?_
  refine Cx [(6,vI u)] rfl (fun T=> ?_)
  cases a
  exact aR eV1
 refine AZ rfl<|aE a rfl (fun i a=> ?_) (fun i a=> ?_)
 ·refine Aa<|rm 4 [1,0] rfl<|kB a fun v j a=>gV _ (cF Ry) (fun o w z_=>GT N c x_1 _ j z_.view cv (Bun59R.mono z_.ro_cell hc))<|rz rfl<|Aa<|rn 1 rfl<|kB a fun B k a=>rc _ (cF AI) (Ap N v.2.2 5 _ k)<|rz rfl ?_
  cases a
  exact aR eV1
 refine AZ rfl<|aE a rfl (fun l a=> ?_) (fun l a=> ?_)
 ·refine Aa<|rm 2 [0] rfl<|kB a fun y m a=>rc _ (cF BI) (Ax N x_1 1 64 _ m)<|kB a fun C n a=>rc _ (cF AI) (Ap N y 7 _ n)<|rz rfl ?_
  cases a
  exact aR eV1
 refine Ac<|q _ _ ?_
 refine AZ rfl ?_
 cases a
 exact aR eV1
def Fb(N:Nat)(l':List (Int×Int))(ask0_:AF):Nat→Int→Option (Int×Int)
  |0,_=>none
  |n8+1,x1_=>if x1_<(l'.length:Int)then ck (0≤x1_∧x1_<(l'.length:Int)) ((Ld N ask0_ x1_ ((l'[x1_.toNat]!).1) ((l'[x1_.toNat]!).2)).bind fun r17=>if(r17:Int)≠0 then some (x1_,r17)else ck (R64 (x1_+1)) ((Fb N l' ask0_ n8) (x1_+1)))else some (0,0)
def JZ(N:Nat)(l':List (Int×Int))(most:Int)(ask0_:AF):Option (Int×Int):=if(l'.length:Int)>most then some (0,2)else Fb N l' ask0_ N 0
theorem Sm(N l' most a r)(c:JZ N l' most a=some r)(ro l'v)(hl':Rd Jl ro l'v l')(b:AE)(e:Bun59R ro b a):Does prog 132 #[l'v,vI most,vF 133 #[vA (Ab a b)] #[]] ro [] (pV (vT #[vI r.1,vI r.2])):=by
 unfold JZ at c
 refine Ag follows func132 rfl 31 rfl _ fz3 (fun p=> ?_)
 refine AZ rfl<|Ae fun A q=>Aa<|rn 1 rfl<|rL (Rd.shp hl') rfl<|rz rfl<|aD c rfl (fun s c=> ?_) (fun s c=> ?_)
 ·refine AZ rfl ?_
  cases c
  exact aR eV2
 refine Ac<|q _ _ ?_
 refine Ae fun B u=>Aa<|rn 1 rfl<|rL (Rd.shp hl') rfl<|rz rfl<|Am<|AS (fun tt ll nn=> ∃(g:Nat) (d:Int),(Fb N l' a g d=some r)∧Is [(2,vF 133 #[vA (Ab a b)] #[]),(15,l'v),(16,vI (l'.length:Int)),(17,vI d)] [] tt ll∧nn=g+1) (N+1) ?_ ?_
 ·exact⟨N,0,c,Aj rfl rfl,rfl⟩
 clear c;rintro t l _ ⟨g,d,c,⟨⟨T,rfl⟩,rfl⟩,rfl⟩
 rcases g with _|g
 ·exact absurd c (by simp [Fb])
 rw [Fb] at c
 refine AZ rfl<|Ae fun v h=>aD c rfl (fun i c=> ?_) (fun i c=> ?_)
 ·refine Ac<|h _ _ ?_
  refine Ae fun x j=>Am<|Aa<|rn 1 rfl<|kC c fun f c=>rI (Rd.shp hl') f rfl<|rE (AA hl') f 0 rfl<|rA rfl fun y=>ry [0] rfl<|Aa<|rm 3 [0] rfl<|kB c fun z k c=>gV _ (BS (bd:=[vA (Ab a b)]) (caps:=[]) rfl Xs rfl) (fun o w z_=>TE N a d ((l'[d.toNat]!).1) ((l'[d.toNat]!).2) _ k z_.view b (Bun59R.mono z_.ro_cell e))<|rz rfl<|AZ rfl<|aN c rfl (fun m c=> ?_) (fun m c=> ?_)
  ·refine AZ rfl ?_
   cases c
   exact aR eV2
  refine Ac<|j _ _ ?_
  refine An<|kC c fun n c=>rX n rfl<|rz rfl<|fg _ (Sub.of (suC _ suN)) ?_
  exact⟨g+1,by omega,g,(d+1),c,Aj rfl rfl,rfl⟩
 refine AT<|u _ _ ?_
 refine AZ rfl ?_
 cases c
 exact aR eV2
def Mi(_:Nat)(s:List UInt8):Option (List UInt8):=if(s.length:Int)=0 then some ([])else ck (0≤(s.length:Int)∧(s.length:Int)≤140737488355328) (ck (0≤(0:Int)∧(0:Int)<((((s).take ((List.replicate ((s.length:Int)).toNat (0:UInt8))).length++((List.replicate ((s.length:Int)).toNat (0:UInt8))).drop (s).length)).length:Int)) (ck ((((s).take ((List.replicate ((s.length:Int)).toNat (0:UInt8))).length++((List.replicate ((s.length:Int)).toNat (0:UInt8))).drop (s).length)).length≤140737488355328) (some (((s).take ((List.replicate ((s.length:Int)).toNat (0:UInt8))).length++((List.replicate ((s.length:Int)).toNat (0:UInt8))).drop (s).length)))))
theorem US(N s r)(b:Mi N s=some r):Gives prog 215 #[vS s] (vS r):=by
 unfold Mi at b
 refine Ao follows func215 rfl 18 rfl _ fz1 (fun f=> ?_)
 refine AZ rfl<|Ae fun m g=>Aa<|rn 1 rfl<|r_W (vI (s.length:Int)) rfl (Rp rfl rfl rfl)<|rz rfl<|aE b rfl (fun h b=> ?_) (fun h b=> ?_)
 ·refine AZ rfl ?_
  cases b
  exact aR eE1
 refine Ac<|g _ _ ?_
 refine Aa<|rn 1 rfl<|r_W (vI (s.length:Int)) rfl (Rp rfl rfl rfl)<|kC b fun i b=>cB 9<|LX (Ls:=[]) 5 encY (0:UInt8) (s.length:Int) rfl rfl rfl rfl rfl rfl rfl rfl rfl rfl 140737488355328 rfl i (fun _ _ _ _ _=>Iff.rfl) (fun k l j=> ?_)
 refine rz rfl<|Aa<|rn 2 rfl<|cA 12 (p:=(pUp (fun v_ U_=>v_= .int .i64 ((min (s).length ((List.replicate ((s.length:Int)).toNat (0:UInt8))).length:Nat):Int)∧Sl 5 encY k ((s).take ((List.replicate ((s.length:Int)).toNat (0:UInt8))).length++((List.replicate ((s.length:Int)).toNat (0:UInt8))).drop (s).length) U_∧U_.map (·.1)=l.map (·.1))))<|aw (Lo:=True) (Ls:=[l]) 0 s rfl rfl rfl rfl rfl rfl j rfl rfl rfl (fun _ _ _ _ _=>Iff.rfl) (fun d c=> ?_)
 refine Ah<|Aa<|rn 1 rfl<|kC b fun a b=>rI (Sl.shp c) a rfl<|rn 1 rfl<|rL (Sl.shp c) rfl<|kC b fun e b=>cA 17 (p:=(pUp (fun v_ U_=>v_= .string ⟨(((s).take ((List.replicate ((s.length:Int)).toNat (0:UInt8))).length++((List.replicate ((s.length:Int)).toNat (0:UInt8))).drop (s).length)).toArray⟩∧U_=HE d)))<|Vx (Ls:=[d]) 0 (xs:=((s).take ((List.replicate ((s.length:Int)).toNat (0:UInt8))).length++((List.replicate ((s.length:Int)).toNat (0:UInt8))).drop (s).length)) rfl rfl rfl rfl rfl rfl (Sl.strict c (Di a)) (an k (Sl.strict c (Di a)) (Di a)) rfl (by kernel_rfl) rfl e (fun _ _ _ _ _=>Iff.rfl)<|BC (Ls:=[HE d]) (Ls':=[]) [] rfl rfl ?_
 refine rz rfl ?_
 cases b
 exact aR eE1
end Go.Proofs.YtajdpjdejpcgnaaGreatDoor
