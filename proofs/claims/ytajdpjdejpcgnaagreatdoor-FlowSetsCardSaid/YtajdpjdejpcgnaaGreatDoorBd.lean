import Derived.Test.YtajdpjdejpcgnaaGreatDoorBc
namespace Go.Proofs.YtajdpjdejpcgnaaGreatDoor
open Go Go.RowKit Go.Eng _root_.Go.Proofs.Tryz
set_option maxRecDepth 100000
set_option maxHeartbeats 80000000
abbrev NH(b:Nat)(x0:List UInt8)(x1:Value)(x2:Value):List Bl:=[(b,166, #[vS x0,x1,x2])]
abbrev RU(b:Nat)(x0:Int)(x1:Int):List Bl:=[(b,203, #[vI x0,vI x1])]
abbrev Ex(b:Nat)(x0:Int)(x1:Int)(x2:Int)(x3:Int)(x4:BitVec 64)(x5:BitVec 64):List Bl:=[(b,42, #[vI x0,vI x1,vI x2,vI x3,U x4,U x5])]
def Dn(N:Nat)(l':List ((List UInt8)×(List Int)×(List (Int×Int×Int×Int×BitVec 128)))):Nat→List (List UInt8)→Int→Option (List (List UInt8))
  |0,_,_=>none
  |n9+1,s1_,x2_=>if x2_<(l'.length:Int)then ck (0≤x2_∧x2_<(l'.length:Int)) ((FF N (l'[x2_.toNat]!.1) (l'[x2_.toNat]!.2.1) (l'[x2_.toNat]!.2.2)).bind fun r22=>ck (0≤x2_∧x2_<(s1_.length:Int)) (ck (R64 (x2_+1)) ((Dn N l' n9) ((s1_).set (x2_.toNat) r22) (x2_+1))))else some s1_
def Ha(N:Nat)(l':List ((List UInt8)×(List Int)×(List (Int×Int×Int×Int×BitVec 128)))):Option (List (List UInt8)):=ck (0≤(l'.length:Int)∧(l'.length:Int)≤8796093022208) (Dn N l' N ((List.replicate ((l'.length:Int)).toNat ([]))) 0)
theorem NU(N l' r)(b:Ha N l'=some r)(ro l'v)(hl':RdN Dv ro l'v l'):Does prog 138 #[l'v,vF 83 #[] #[]] ro [] (p1 (fun s_=>s_) 9 By r):=by
 unfold Ha at b
 refine Ag follows func138 rfl 26 rfl _ fz2 (fun z=> ?_)
 refine AZ rfl<|Aa<|rn 1 rfl<|rL (RdN.shp hl') rfl<|kC b fun A b=>cB 10<|LX (Ls:=[]) 9 By ([]) (l'.length:Int) rfl rfl rfl rfl rfl rfl rfl rfl rfl rfl 8796093022208 rfl A (fun _ _ _ _ _=>Iff.rfl) (fun B F G=> ?_)
 refine rz rfl<|Ae fun J C=>Aa<|rn 1 rfl<|rL (RdN.shp hl') rfl<|rz rfl<|Am<|BH _ (Sub.pick [F] [0] rfl)<|AS (fun tt ll nn=> ∃(m:Nat) (f:List (List UInt8)) (a:Int),(Dn N l' m f a=some r)∧ ∃(c:List Bl),Sl 9 By B f c∧Is [(1,vF 83 #[] #[]),(5,B),(11,l'v),(12,vI (l'.length:Int)),(13,vI a)] (List.flatten [c]) tt ll∧nn=m+1) (N+1) ?_ ?_
 ·exact⟨N,(List.replicate ((l'.length:Int)).toNat ([])),0,b,F,G,Aj rfl rfl,rfl⟩
 clear b;rintro t l _ ⟨m,f,a,b,c,g,⟨⟨T,rfl⟩,rfl⟩,rfl⟩
 rcases m with _|m
 ·exact absurd b (by simp [Dn])
 rw [Dn] at b
 refine AZ rfl<|Ae fun H p=>aD b rfl (fun q b=> ?_) (fun q b=> ?_)
 ·refine Ac<|p _ _ ?_
  refine Ae fun I s=>Am<|Aa<|rn 1 rfl<|kC b fun h b=> ?_
  obtain⟨_,⟨d,e,i,j,rfl⟩,hat20⟩:=RdN.at (E:=Dv) hl' (Cs h)
  refine rI (RdN.shp hl') h rfl<|Nt (vA #[vS (l'[a.toNat]!.1),d,e]) (vs:=[vS (l'[a.toNat]!.1),d,e]) (a.toNat*3) 0 rfl rfl (fun o w z_=>At.mono z_.ro_cell hat20) rfl<|rA rfl fun n=>rn 1 rfl<|r_s (List.flatten [(NH n (l'[a.toNat]!.1) d e),c]) 0 _ _ _ _ _ (#[vS (l'[a.toNat]!.1),d,e]) rfl rfl rfl rfl (.ofS rfl rfl (Ad rfl (Ad (Shp.one (Rd.shp i)) (Ad (Shp.one (Rd.shp j)) Bf)))) rfl rfl<|Ah<|An<|rm 4 [0] rfl<|kB b fun u v b=>gV _ (AV (caps:=[]) rfl YO rfl) (fun o w z_=>Mp N (l'[a.toNat]!.1) (l'[a.toNat]!.2.1) (l'[a.toNat]!.2.2) _ v z_.view d (z_.r i) e (z_.r j))<|kC b fun k b=>rI (Sl.shp g) k rfl<|MI (Ls:=[(NH n (l'[a.toNat]!.1) d e),c]) 1 (En:=By) (f[a.toNat]!) u (a.toNat) 0 rfl rfl rfl g (Cs k) rfl rfl rfl (Ew rfl) rfl (fun x D=> ?_)
  refine Ah<|s _ _ ?_
  refine An<|kC b fun y b=>rX y rfl<|rz rfl<|fg _ (Sub.pick [(NH n (l'[a.toNat]!.1) d e),x] [1] rfl) ?_
  exact⟨m+1,by omega,m,(f).set (a.toNat) u,(a+1),b,x,D,Aj rfl rfl,rfl⟩
 refine AT<|C _ _ ?_
 refine AZ rfl ?_
 cases b
 refine AO (fun K=>De (v0:=B) g (Cb (Sub.pick [c] [0] rfl)) rfl (BP rfl))
def Jg(N:Nat)(_:Int)(w:Int):Option Int:=(Ej N w).bind fun r3=>some r3
theorem QO(N x w r)(a:Jg N x w=some r):Gives prog 141 #[vI x,vI w] (vI r):=by
 unfold Jg at a
 refine Ao follows func141 rfl 7 rfl _ fz2 (fun b=> ?_)
 refine AZ rfl<|Aa<|rn 1 rfl<|kB a fun d c a=>rc _ (cF Rw) (IU N w _ c)<|rz rfl ?_
 cases a
 exact aR eE1
def ET(N:Nat)(l':List Int):Nat→Int→Option (Int×Int)
  |0,_=>none
  |n8+1,x1_=>if x1_<(l'.length:Int)then ck (0≤x1_∧x1_<(l'.length:Int)) ((Jg N x1_ (l'[x1_.toNat]!)).bind fun r16=>if(r16:Int)≠0 then some (x1_,r16)else ck (R64 (x1_+1)) ((ET N l' n8) (x1_+1)))else some (0,0)
def JS(N:Nat)(l':List Int)(most:Int):Option (Int×Int):=if(l'.length:Int)>most then some (0,2)else ET N l' N 0
theorem Sc(N l' most r)(a:JS N l' most=some r)(ro l'v)(hl':Rd AX ro l'v l'):Does prog 89 #[l'v,vI most,vF 141 #[] #[]] ro [] (pV (vT #[vI r.1,vI r.2])):=by
 unfold JS at a
 refine Ag follows func89 rfl 31 rfl _ fz3 (fun k=> ?_)
 refine AZ rfl<|Ae fun u m=>Aa<|rn 1 rfl<|rL (Rd.shp hl') rfl<|rz rfl<|aD a rfl (fun n a=> ?_) (fun n a=> ?_)
 ·refine AZ rfl ?_
  cases a
  exact aR eV2
 refine Ac<|m _ _ ?_
 refine Ae fun v o=>Aa<|rn 1 rfl<|rL (Rd.shp hl') rfl<|rz rfl<|Am<|AS (fun tt ll nn=> ∃(d:Nat) (b:Int),(ET N l' d b=some r)∧Is [(2,vF 141 #[] #[]),(15,l'v),(16,vI (l'.length:Int)),(17,vI b)] [] tt ll∧nn=d+1) (N+1) ?_ ?_
 ·exact⟨N,0,a,Aj rfl rfl,rfl⟩
 clear a;rintro t l _ ⟨d,b,a,⟨⟨T,rfl⟩,rfl⟩,rfl⟩
 rcases d with _|d
 ·exact absurd a (by simp [ET])
 rw [ET] at a
 refine AZ rfl<|Ae fun p e=>aD a rfl (fun f a=> ?_) (fun f a=> ?_)
 ·refine Ac<|e _ _ ?_
  refine Ae fun q g=>Am<|Aa<|rn 1 rfl<|kC a fun c a=>rI (Rd.shp hl') c rfl<|rE (AA hl') c 0 rfl<|rz rfl<|Aa<|rn 3 rfl<|kB a fun s h a=>rc _ (AV (caps:=[]) rfl Xm rfl) (QO N b (l'[b.toNat]!) _ h)<|rz rfl<|AZ rfl<|aN a rfl (fun i a=> ?_) (fun i a=> ?_)
  ·refine AZ rfl ?_
   cases a
   exact aR eV2
  refine Ac<|g _ _ ?_
  refine An<|kC a fun j a=>rX j rfl<|rz rfl<|fg _ (Sub.of suN) ?_
  exact⟨d+1,by omega,d,(b+1),a,Aj rfl rfl,rfl⟩
 refine AT<|o _ _ ?_
 refine AZ rfl ?_
 cases a
 exact aR eV2
def Dc(_:Nat)(n:Int):Option (Int×Int):=ck (R64 (n - 1)) (some (0,(n - 1)))
theorem El(N n r)(a:Dc N n=some r):Gives prog 169 #[vI n] (vA #[vI r.1,vI r.2]):=by
 unfold Dc at a
 refine Ao follows func169 rfl 6 rfl _ fz1 (fun b=> ?_)
 refine Aa<|rA rfl fun e=>Ah<|Aa<|rn 1 rfl<|kC a fun c a=>rX c rfl<|r_W (vA #[vI 0,vI (n - 1)]) rfl (Aq rfl rfl rfl rfl)<|ry [0] rfl ?_
 cases a
 refine AO (fun d=>Co (v0:=vA #[vI 0,vI (n - 1)]) rfl (BP (AP d 0 rfl rfl rfl)))
def Jp(N:Nat)(x_0:Int)(x13_:Bool):Option (Int×Int×Int×Int):=if x13_=true then some (0,64,0,0)else if x_0=33 then(Dc N 32).bind fun r49=>some (r49.1,r49.2,0,64)else some (0,0,0,0)
def Jq(N:Nat)(x_0:Int)(x11_:Bool):Option (Int×Int×Int×Int):=if x11_=true then(Dc N 16).bind fun r42=>some (r42.1,r42.2,1,4)else if x_0=31 then Jp N x_0 (x_0==31)else Jp N x_0 (x_0==32)
def Jr(N:Nat)(x_0:Int)(x_1:Int)(x9_:Bool):Option (Int×Int×Int×Int):=if x9_=true then some (0,128,0,0)else if x_0=10 then(Dc N 128).bind fun r35=>some (r35.1,r35.2,0,x_1)else if x_0=11 then some (1,128,0,0)else if x_0=27 then Jq N x_0 (x_0==27)else Jq N x_0 (x_0==28)
def GD(N:Nat)(x_0:Int)(x_1:Int)(x7_:Bool):Option (Int×Int×Int×Int):=if x7_=true then(Dc N 8).bind fun r28=>some (r28.1,r28.2,0,0)else if x_0=8 then Jr N x_0 x_1 (x_0==8)else Jr N x_0 x_1 (x_0==9)
def IH(N:Nat)(x_0:Int)(x_1:Int)(x5_:Bool):Option (Int×Int×Int×Int):=if x5_=true then(Dc N 32).bind fun r24=>some (r24.1,r24.2,0,0)else if x_0=5 then GD N x_0 x_1 (x_0==5)else if x_0=24 then GD N x_0 x_1 (x_0==24)else if x_0=29 then GD N x_0 x_1 (x_0==29)else GD N x_0 x_1 (x_0==30)
def KB(N:Nat)(x_0:Int)(x_1:Int)(x3_:Bool):Option (Int×Int×Int×Int):=if x3_=true then(Dc N 24).bind fun r15=>some (r15.1,r15.2,0,0)else if x_0=3 then(Dc N 8).bind fun r20=>some (r20.1,r20.2,0,0)else if x_0=4 then IH N x_0 x_1 (x_0==4)else if x_0=25 then IH N x_0 x_1 (x_0==25)else IH N x_0 x_1 (x_0==26)
def KC(N:Nat)(x_0:Int)(x_1:Int)(x1_:Bool):Option (Int×Int×Int×Int):=if x1_=true then(Dc N 32).bind fun r9=>(Dc N 16).bind fun r11=>some (r9.1,r9.2,r11.1,r11.2)else if x_0=2 then KB N x_0 x_1 (x_0==2)else KB N x_0 x_1 (x_0==23)
def OB(N:Nat)(x_0:Int)(x_1:Int)(_:Int)(_:Int)(_:BitVec 128):Option (Int×Int×Int×Int):=if x_0=1 then KC N x_0 x_1 (x_0==1)else KC N x_0 x_1 (x_0==22)
theorem Wf(N x_0 x_1 x_2 x_3 x_4 r)(a:OB N x_0 x_1 x_2 x_3 x_4=some r):Gives prog 110 #[vA #[vI x_0,vI x_1,vI x_2,vI x_3,U (hi x_4),U (lo x_4)]] (vT #[vA #[vI r.1,vI r.2.1],vA #[vI r.2.2.1,vI r.2.2.2]]):=by
 unfold OB at a
 refine Ao follows func110 rfl 64 rfl _ fz1 (fun af=> ?_)
 refine Aa<|rA rfl fun f=>rA rfl fun d=>rA rfl fun e=>Ah<|Ae fun K5 ag=>AY [2] rfl<|Am<|BW (fun tt ll=> ∃(j:Bool),(KC N x_0 x_1 j=some r)∧Is [(1,vP f 0),(2,vP d 0),(3,vP e 0),(5,vI x_0),(6,vB j)] [(e,203, #[vI 0,vI 0]),(d,203, #[vI 0,vI 0]),(f,42, #[vI x_0,vI x_1,vI x_2,vI x_3,U (hi x_4),U (lo x_4)])] tt ll) ?_ ?_
 ·refine AZ rfl<|aE a rfl (fun p a=> ?_) (fun p a=> ?_)
  ·refine Ac<|fg _ (Sub.of (suK _ (suK _ (suK _ suN)))) ?_
   exact⟨(x_0==1),a,Aj rfl rfl⟩
  refine An<|rz rfl<|fg _ (Sub.of (suK _ (suK _ (suK _ suN)))) ?_
  exact⟨(x_0==22),a,Aj rfl rfl⟩
 clear a;rintro t l ⟨j,a,⟨T,rfl⟩,rfl⟩
 unfold KC at a
 refine aB a rfl (fun ah a=> ?_) (fun ah a=> ?_)
 ·refine Aa<|kB a fun r9 q a=>rc _ (cF Fm) (El N 32 _ q)<|kB a fun s u a=>rc _ (cF Fm) (El N 16 _ u)<|ry [1,0] rfl ?_
  cases a
  refine AO (fun b=>Co (v0:=vT #[vA #[vI r9.1,vI r9.2],vA #[vI s.1,vI s.2]]) rfl (Iu (AP b 1 rfl rfl rfl) (AP b 0 rfl rfl rfl)))
 refine BW (fun tt ll=> ∃(k:Bool),(KB N x_0 x_1 k=some r)∧Is [(1,vP f 0),(2,vP d 0),(3,vP e 0),(5,vI x_0),(11,vB k)] [(e,203, #[vI 0,vI 0]),(d,203, #[vI 0,vI 0]),(f,42, #[vI x_0,vI x_1,vI x_2,vI x_3,U (hi x_4),U (lo x_4)])] tt ll) ?_ ?_
 ·refine AZ rfl<|aE a rfl (fun v a=> ?_) (fun v a=> ?_)
  ·refine Ac<|fg _ (Sub.of (suK _ (suK _ (suK _ suN)))) ?_
   exact⟨(x_0==2),a,Aj rfl rfl⟩
  refine An<|rz rfl<|fg _ (Sub.of (suK _ (suK _ (suK _ suN)))) ?_
  exact⟨(x_0==23),a,Aj rfl rfl⟩
 clear a;rintro t l ⟨k,a,⟨T,rfl⟩,rfl⟩
 unfold KB at a
 refine aB a rfl (fun w a=> ?_) (fun w a=> ?_)
 ·refine Aa<|kB a fun x y a=>rc _ (cF Fm) (El N 24 _ y)<|r_W (vA #[vI 0,vI 0]) rfl (Aq rfl rfl rfl rfl)<|ry [1,0] rfl ?_
  cases a
  refine AO (fun b=>Co (v0:=vT #[vA #[vI x.1,vI x.2],vA #[vI 0,vI 0]]) rfl (Iu (AP b 1 rfl rfl rfl) (AP b 0 rfl rfl rfl)))
 refine AZ rfl<|aE a rfl (fun z a=> ?_) (fun z a=> ?_)
 ·refine Aa<|kB a fun A B a=>rc _ (cF Fm) (El N 8 _ B)<|r_W (vA #[vI 0,vI 0]) rfl (Aq rfl rfl rfl rfl)<|ry [1,0] rfl ?_
  cases a
  refine AO (fun b=>Co (v0:=vT #[vA #[vI A.1,vI A.2],vA #[vI 0,vI 0]]) rfl (Iu (AP b 1 rfl rfl rfl) (AP b 0 rfl rfl rfl)))
 refine BW (fun tt ll=> ∃(m:Bool),(IH N x_0 x_1 m=some r)∧Is [(1,vP f 0),(2,vP d 0),(3,vP e 0),(5,vI x_0),(20,vB m)] [(e,203, #[vI 0,vI 0]),(d,203, #[vI 0,vI 0]),(f,42, #[vI x_0,vI x_1,vI x_2,vI x_3,U (hi x_4),U (lo x_4)])] tt ll) ?_ ?_
 ·refine AZ rfl<|aE a rfl (fun C a=> ?_) (fun C a=> ?_)
  ·refine Ac<|fg _ (Sub.of (suK _ (suK _ (suK _ suN)))) ?_
   exact⟨(x_0==4),a,Aj rfl rfl⟩
  refine AZ rfl<|aE a rfl (fun D a=> ?_) (fun D a=> ?_)
  ·refine Ac<|fg _ (Sub.of (suK _ (suK _ (suK _ suN)))) ?_
   exact⟨(x_0==25),a,Aj rfl rfl⟩
  refine An<|rz rfl<|fg _ (Sub.of (suK _ (suK _ (suK _ suN)))) ?_
  exact⟨(x_0==26),a,Aj rfl rfl⟩
 clear a;rintro t l ⟨m,a,⟨T,rfl⟩,rfl⟩
 unfold IH at a
 refine aB a rfl (fun E a=> ?_) (fun E a=> ?_)
 ·refine Aa<|kB a fun F G a=>rc _ (cF Fm) (El N 32 _ G)<|r_W (vA #[vI 0,vI 0]) rfl (Aq rfl rfl rfl rfl)<|ry [1,0] rfl ?_
  cases a
  refine AO (fun b=>Co (v0:=vT #[vA #[vI F.1,vI F.2],vA #[vI 0,vI 0]]) rfl (Iu (AP b 1 rfl rfl rfl) (AP b 0 rfl rfl rfl)))
 refine BW (fun tt ll=> ∃(n:Bool),(GD N x_0 x_1 n=some r)∧Is [(1,vP f 0),(2,vP d 0),(3,vP e 0),(5,vI x_0),(26,vB n)] [(e,203, #[vI 0,vI 0]),(d,203, #[vI 0,vI 0]),(f,42, #[vI x_0,vI x_1,vI x_2,vI x_3,U (hi x_4),U (lo x_4)])] tt ll) ?_ ?_
 ·refine AZ rfl<|aE a rfl (fun H a=> ?_) (fun H a=> ?_)
  ·refine Ac<|fg _ (Sub.of (suK _ (suK _ (suK _ suN)))) ?_
   exact⟨(x_0==5),a,Aj rfl rfl⟩
  refine AZ rfl<|aE a rfl (fun I a=> ?_) (fun I a=> ?_)
  ·refine Ac<|fg _ (Sub.of (suK _ (suK _ (suK _ suN)))) ?_
   exact⟨(x_0==24),a,Aj rfl rfl⟩
  refine AZ rfl<|aE a rfl (fun J a=> ?_) (fun J a=> ?_)
  ·refine Ac<|fg _ (Sub.of (suK _ (suK _ (suK _ suN)))) ?_
   exact⟨(x_0==29),a,Aj rfl rfl⟩
  refine An<|rz rfl<|fg _ (Sub.of (suK _ (suK _ (suK _ suN)))) ?_
  exact⟨(x_0==30),a,Aj rfl rfl⟩
 clear a;rintro t l ⟨n,a,⟨T,rfl⟩,rfl⟩
 unfold GD at a
 refine aB a rfl (fun K a=> ?_) (fun K a=> ?_)
 ·refine Aa<|kB a fun L M a=>rc _ (cF Fm) (El N 8 _ M)<|r_W (vA #[vI 0,vI 0]) rfl (Aq rfl rfl rfl rfl)<|ry [1,0] rfl ?_
  cases a
  refine AO (fun b=>Co (v0:=vT #[vA #[vI L.1,vI L.2],vA #[vI 0,vI 0]]) rfl (Iu (AP b 1 rfl rfl rfl) (AP b 0 rfl rfl rfl)))
 refine BW (fun tt ll=> ∃(o:Bool),(Jr N x_0 x_1 o=some r)∧Is [(1,vP f 0),(2,vP d 0),(3,vP e 0),(5,vI x_0),(33,vB o)] [(e,203, #[vI 0,vI 0]),(d,203, #[vI 0,vI 0]),(f,42, #[vI x_0,vI x_1,vI x_2,vI x_3,U (hi x_4),U (lo x_4)])] tt ll) ?_ ?_
 ·refine AZ rfl<|aE a rfl (fun O a=> ?_) (fun O a=> ?_)
  ·refine Ac<|fg _ (Sub.of (suK _ (suK _ (suK _ suN)))) ?_
   exact⟨(x_0==8),a,Aj rfl rfl⟩
  refine An<|rz rfl<|fg _ (Sub.of (suK _ (suK _ (suK _ suN)))) ?_
  exact⟨(x_0==9),a,Aj rfl rfl⟩
 clear a;rintro t l ⟨o,a,⟨T,rfl⟩,rfl⟩
 unfold Jr at a
 refine aB a rfl (fun P a=> ?_) (fun P a=> ?_)
 ·refine Aa<|r_W (vA #[vI 0,vI 128]) rfl (Aq rfl rfl rfl rfl)<|r_W (vA #[vI 0,vI 0]) rfl (Aq rfl rfl rfl rfl)<|ry [1,0] rfl ?_
  cases a
  refine AO (fun b=>Co (v0:=vT #[vA #[vI 0,vI 128],vA #[vI 0,vI 0]]) rfl (Iu (AP b 1 rfl rfl rfl) (AP b 0 rfl rfl rfl)))
 refine AZ rfl<|aE a rfl (fun Q a=> ?_) (fun Q a=> ?_)
 ·refine Ae fun aj R=>UF (Ls:=[(RU e 0 0),(RU d 0 0),(Ex f x_0 x_1 x_2 x_3 (hi x_4) (lo x_4))]) [(some 1000000000,true)] [] [1,0] [2] [] (by decide+kernel) (fun b=>AW) (by decide+kernel) rfl trivial (fun hnb_=> ?_)
  refine kB a fun c S a=>rc _ (cF Fm) (El N 128 _ S)<|rn 1 rfl<|Yf (vI x_1) 2 _ _ _ _ rfl rfl rfl rfl rfl (hnb_ f (List.mem_of_getElem? (i:=0) rfl))<|r_W (vA #[vI 0,vI x_1]) rfl (Aq rfl rfl rfl rfl)<|bc [(e,203, #[vI 0,vI 0]),(d,203, #[vI c.1,vI c.2]),(f,42, #[vI x_0,vI x_1,vI x_2,vI x_3,U (hi x_4),U (lo x_4)])] 1 _ _ _ (#[vI 0,vI 0]) (#[vI c.1,vI c.2]) (#[vI c.1,vI c.2]) rfl rfl rfl rfl (.of rfl rfl) rfl rfl (List.mem_of_getElem? (i:=0) rfl) ?_
  refine bc [(e,203, #[vI 0,vI x_1]),(d,203, #[vI c.1,vI c.2]),(f,42, #[vI x_0,vI x_1,vI x_2,vI x_3,U (hi x_4),U (lo x_4)])] 0 _ _ _ (#[vI 0,vI 0]) (#[vI 0,vI x_1]) (#[vI 0,vI x_1]) rfl rfl rfl rfl (.of rfl rfl) rfl rfl (List.mem_of_getElem? (i:=1) rfl)<|Ah<|R _ _ ?_
  cases a
  refine AO (fun b=>Co (v0:=vT #[vA #[vI c.1,vI c.2],vA #[vI 0,vI x_1]]) rfl (Iu (AP b 1 rfl rfl rfl) (AP b 0 rfl rfl rfl)))
 refine AZ rfl<|aE a rfl (fun V a=> ?_) (fun V a=> ?_)
 ·refine Aa<|r_W (vA #[vI 1,vI 128]) rfl (Aq rfl rfl rfl rfl)<|r_W (vA #[vI 0,vI 0]) rfl (Aq rfl rfl rfl rfl)<|ry [1,0] rfl ?_
  cases a
  refine AO (fun b=>Co (v0:=vT #[vA #[vI 1,vI 128],vA #[vI 0,vI 0]]) rfl (Iu (AP b 1 rfl rfl rfl) (AP b 0 rfl rfl rfl)))
 refine BW (fun tt ll=> ∃(g:Bool),(Jq N x_0 g=some r)∧Is [(2,vP d 0),(3,vP e 0),(5,vI x_0),(48,vB g)] [(e,203, #[vI 0,vI 0]),(d,203, #[vI 0,vI 0])] tt ll) ?_ ?_
 ·refine AZ rfl<|aE a rfl (fun W a=> ?_) (fun W a=> ?_)
  ·refine Ac<|fg _ (Sub.of (suK _ (suK _ (suC _ suN)))) ?_
   exact⟨(x_0==27),a,Aj rfl rfl⟩
  refine An<|rz rfl<|fg _ (Sub.of (suK _ (suK _ (suC _ suN)))) ?_
  exact⟨(x_0==28),a,Aj rfl rfl⟩
 clear a;rintro t l ⟨g,a,⟨T,rfl⟩,rfl⟩
 unfold Jq at a
 refine aB a rfl (fun X a=> ?_) (fun X a=> ?_)
 ·refine Aa<|kB a fun Y Z a=>rc _ (cF Fm) (El N 16 _ Z)<|r_W (vA #[vI 1,vI 4]) rfl (Aq rfl rfl rfl rfl)<|ry [1,0] rfl ?_
  cases a
  refine AO (fun b=>Co (v0:=vT #[vA #[vI Y.1,vI Y.2],vA #[vI 1,vI 4]]) rfl (Iu (AP b 1 rfl rfl rfl) (AP b 0 rfl rfl rfl)))
 refine BW (fun tt ll=> ∃(h:Bool),(Jp N x_0 h=some r)∧Is [(2,vP d 0),(3,vP e 0),(5,vI x_0),(53,vB h)] [(e,203, #[vI 0,vI 0]),(d,203, #[vI 0,vI 0])] tt ll) ?_ ?_
 ·refine AZ rfl<|aE a rfl (fun aa a=> ?_) (fun aa a=> ?_)
  ·refine Ac<|fg _ (Sub.of (suK _ (suK _ suN))) ?_
   exact⟨(x_0==31),a,Aj rfl rfl⟩
  refine An<|rz rfl<|fg _ (Sub.of (suK _ (suK _ suN))) ?_
  exact⟨(x_0==32),a,Aj rfl rfl⟩
 clear a;rintro t l ⟨h,a,⟨T,rfl⟩,rfl⟩
 unfold Jp at a
 refine aB a rfl (fun ab a=> ?_) (fun ab a=> ?_)
 ·refine Aa<|r_W (vA #[vI 0,vI 64]) rfl (Aq rfl rfl rfl rfl)<|r_W (vA #[vI 0,vI 0]) rfl (Aq rfl rfl rfl rfl)<|ry [1,0] rfl ?_
  cases a
  refine AO (fun b=>Co (v0:=vT #[vA #[vI 0,vI 64],vA #[vI 0,vI 0]]) rfl (Iu (AP b 1 rfl rfl rfl) (AP b 0 rfl rfl rfl)))
 refine AZ rfl<|aE a rfl (fun ac a=> ?_) (fun ac a=> ?_)
 ·refine Aa<|kB a fun ad ae a=>rc _ (cF Fm) (El N 32 _ ae)<|r_W (vA #[vI 0,vI 64]) rfl (Aq rfl rfl rfl rfl)<|ry [1,0] rfl ?_
  cases a
  refine AO (fun b=>Co (v0:=vT #[vA #[vI ad.1,vI ad.2],vA #[vI 0,vI 64]]) rfl (Iu (AP b 1 rfl rfl rfl) (AP b 0 rfl rfl rfl)))
 refine Ac<|ag _ _ ?_
 refine Aa<|r_W (vA #[vI 0,vI 0]) rfl (Aq rfl rfl rfl rfl)<|r_W (vA #[vI 0,vI 0]) rfl (Aq rfl rfl rfl rfl)<|ry [1,0] rfl ?_
 cases a
 refine AO (fun b=>Co (v0:=vT #[vA #[vI 0,vI 0],vA #[vI 0,vI 0]]) rfl (Iu (AP b 1 rfl rfl rfl) (AP b 0 rfl rfl rfl)))
def OA(_:Nat)(o:Int):Option Bool:=if o≥0 then some (decide (o<35))else some false
theorem We(N o r)(a:OA N o=some r):Gives prog 111 #[vI o] (vB r):=by
 unfold OA at a
 refine Ao follows func111 rfl 9 rfl _ fz1 (fun d=> ?_)
 refine AZ rfl<|Ae fun e b=>An<|rn 3 rfl ?_
 rcases c:(decide (o≥0))with _|_
 ·replace a:=iF c a
  refine rz rfl<|b _ _ ?_
  cases a
  exact aR eE1
 replace a:=iD c a
 refine rz rfl<|b _ _ ?_
 cases a
 exact aR eE1
def GB(_:Nat)(s_0:Int)(s_1:Int)(n:Int):Option Bool:=if n≥s_0 then some (decide (n≤s_1))else some false
theorem LJ(N s_0 s_1 n r)(a:GB N s_0 s_1 n=some r):Gives prog 112 #[vA #[vI s_0,vI s_1],vI n] (vB r):=by
 unfold GB at a
 refine Ao follows func112 rfl 15 rfl _ fz2 (fun d=> ?_)
 refine Aa<|rA rfl fun e=>rz rfl<|Ae fun f b=>An<|rm 5 [0] rfl ?_
 rcases c:(decide (n≥s_0))with _|_
 ·replace a:=iF c a
  refine rz rfl<|b _ _ ?_
  cases a
  exact aR eE1
 replace a:=iD c a
 refine rn 2 rfl<|r_y rfl<|ry [0] rfl<|b _ _ ?_
 cases a
 exact aR eE1
theorem bC  :prog.eqGuardType prog.depth 40=false:=by kernel_rfl
theorem ba  :prog.stoodInHeld 40=false:=by kernel_rfl
set_option maxRecDepth 100000 in
theorem Yy {c:Addr→Option Value}(b y0:Int)(a y1:BitVec 128):ev prog c (Op.equal 40 (.agg #[vI b,U (hi a),U (lo a)]) (.agg #[vI y0,U (hi y1),U (lo y1)]))=some ((b==y0)&&(a==y1)):=by
 have h:=MH (P:=prog) (c:=c) 9999 (t:=40) #[vI b,U (hi a),U (lo a)] #[vI y0,U (hi y1),U (lo y1)] rfl ba (fun f=>if f.offset=0 then(b==y0)else if f.offset=1 then(((hi a).toNat:Int)==((hi y1).toNat:Int))else(((lo a).toNat:Int)==((lo y1).toNat:Int)))
   (fun f hf=>by
     simp only [List.mem_cons,List.not_mem_nil,or_false] at hf
     rcases hf with rfl|rfl|rfl
     · exact⟨by decide,_,_,Du (P:=prog) (t:=3) rfl (by intro fs h;cases h) (by intro n e h;cases h) _ _ rfl,Du (P:=prog) (t:=3) rfl (by intro fs h;cases h) (by intro n e h;cases h) _ _ rfl,Kh _ _ _ rfl⟩
     · exact⟨by decide,_,_,Du (P:=prog) (t:=22) rfl (by intro fs h;cases h) (by intro n e h;cases h) _ _ rfl,Du (P:=prog) (t:=22) rfl (by intro fs h;cases h) (by intro n e h;cases h) _ _ rfl,Kh _ _ _ rfl⟩
     · exact⟨by decide,_,_,Du (P:=prog) (t:=22) rfl (by intro fs h;cases h) (by intro n e h;cases h) _ _ rfl,Du (P:=prog) (t:=22) rfl (by intro fs h;cases h) (by intro n e h;cases h) _ _ rfl,Kh _ _ _ rfl⟩)
 rw [←RG a y1];rw [show Op.equal 40 (.agg #[vI b,U (hi a),U (lo a)]) (.agg #[vI y0,U (hi y1),U (lo y1)])=Op.equalIn (9999+1) 40 (.agg #[vI b,U (hi a),U (lo a)]) (.agg #[vI y0,U (hi y1),U (lo y1)])from rfl,h]
 first|(simp;done)|simp [Bool.and_assoc]
def Ip(N:Nat)(x_0:Int)(_:Int)(_:Int)(x_3:Int)(x_4:BitVec 128):Option Bool:=if x_0=0 then(Km N x_3 x_4).bind fun r7=>some r7 else some ((x_3==0)&&(x_4==((0#64)++(0#64))))
theorem PC(N x_0 x_1 x_2 x_3 x_4 r)(a:Ip N x_0 x_1 x_2 x_3 x_4=some r):Gives prog 113 #[vA #[vI x_0,vI x_1,vI x_2,vI x_3,U (hi x_4),U (lo x_4)]] (vB r):=by
 unfold Ip at a
 refine Ao follows func113 rfl 13 rfl _ fz1 (fun b=> ?_)
 refine Aa<|rA rfl fun g=>rz rfl<|Ae fun h d=>AY [0] rfl<|aE a rfl (fun e a=> ?_) (fun e a=> ?_)
 ·refine Aa<|rm 2 [0] rfl<|kB a fun i f a=>rc _ (cF SW) (PD N x_3 x_4 _ f)<|rz rfl ?_
  cases a
  exact aR eE1
 refine Ac<|d _ _ ?_
 refine Aa<|r_V (vP g 3) rfl<|rl (vA #[vI x_3,U (hi x_4),U (lo x_4)]) 0<|r_W (vA #[vI 0,U (0#64),U (0#64)]) rfl (Aq rfl rfl rfl rfl)<|r_W (vB ((x_3==0)&&(x_4==((0#64)++(0#64))))) rfl (Om rfl rfl bC (by have h_:=fun c=>Yy (c:=c) x_3 0 x_4 ((0#64)++(0#64));simp only [CC] at h_;exact h_ _)) ?_
 refine rz rfl ?_
 cases a
 exact aR eE1
def LK(N:Nat)(x_0:Int)(x_1:Int)(x_2:Int)(x_3:Int)(x_4:BitVec 128)(x1_:Bool):Option Int:=if x1_=true then some 7 else(Ip N x_0 x_1 x_2 x_3 x_4).bind fun r17=>if r17=true then some 0 else some 1
def Rr(N:Nat)(x_0:Int)(x_1:Int)(x_2:Int)(x_3:Int)(x_4:BitVec 128):Option Int:=(OB N x_0 x_1 x_2 x_3 x_4).bind fun r4=>(OA N x_0).bind fun r10=>if r10=true then(GB N r4.1 r4.2.1 x_1).bind fun r22=>if r22=true then(GB N r4.2.2.1 r4.2.2.2 x_2).bind fun r25=>LK N x_0 x_1 x_2 x_3 x_4 (!(r25))else LK N x_0 x_1 x_2 x_3 x_4 true else some 10
theorem YB(N x_0 x_1 x_2 x_3 x_4 r)(a:Rr N x_0 x_1 x_2 x_3 x_4=some r):Gives prog 62 #[vA #[vI x_0,vI x_1,vI x_2,vI x_3,U (hi x_4),U (lo x_4)]] (vI r):=by
 unfold Rr at a
 refine Ao follows func62 rfl 32 rfl _ fz1 (fun k=> ?_)
 refine Aa<|rA rfl fun s=>rz rfl<|Aa<|rm 1 [0] rfl<|kB a fun m n a=>rc _ (cF XG) (Wf N x_0 x_1 x_2 x_3 x_4 _ n)<|rn 3 rfl<|rA rfl fun w=>rA rfl fun x=>ry [1,0] rfl<|Ae fun y o=>Am<|Aa<|rm 2 [2] rfl<|kB a fun u f a=>rc _ (cF XF) (We N x_0 _ f)<|rz rfl<|Ai _ rfl (fun c=> ?_) (fun c=> ?_)
 ·replace a:=ifn (Bool.eq_false_iff.1 (Cd c)) a
  refine AZ rfl ?_
  cases a
  exact aR eE1
 replace a:=ifp (Ce c) a
 refine BW (fun tt ll=> ∃(e:Bool),(LK N x_0 x_1 x_2 x_3 x_4 e=some r)∧Is [(1,vP s 0),(15,vB e)] (Ex s x_0 x_1 x_2 x_3 (hi x_4) (lo x_4)) tt ll) ?_ ?_
 ·refine An<|rm 3 [1,2] rfl<|kB a fun p g a=>rc _ (cF Tg) (LJ N m.1 m.2.1 x_1 _ g)<|rn 2 rfl ?_
  rcases b:(!(p))with _|_
  ·replace a:=ifp (Ce b) a
   refine r_y rfl<|rm 2 [0] rfl<|r_y rfl<|rm 1 [2] rfl<|r_y rfl<|kB a fun q h a=>rc _ (cF Tg) (LJ N m.2.2.1 m.2.2.2 x_2 _ h)<|rz rfl<|fg _ (Sub.of (suC _ (suC _ (suK _ suN)))) ?_
   exact⟨!(q),a,Aj (by first|rfl|(simp only [b];done)|(simp only [b];rfl)|(simp only [CC];rfl)) rfl⟩
  replace a:=ifn (Bool.eq_false_iff.1 (Cd b)) a
  refine rz rfl<|fg _ (Sub.of (suC _ (suC _ (suK _ suN)))) ?_
  exact⟨true,a,Aj (by first|rfl|(simp only [b];done)|(simp only [b];rfl)|(simp only [CC];rfl)) rfl⟩
 clear a;rintro t l ⟨e,a,⟨T,rfl⟩,rfl⟩
 unfold LK at a
 refine aB a rfl (fun i a=> ?_) (fun i a=> ?_)
 ·refine AZ rfl ?_
  cases a
  exact aR eE1
 refine Aa<|rm 1 [0] rfl<|kB a fun v j a=>rc _ (cF XE) (PC N x_0 x_1 x_2 x_3 x_4 _ j)<|rz rfl<|Ai _ rfl (fun d=> ?_) (fun d=> ?_)
 ·replace a:=ifn (Bool.eq_false_iff.1 (Cd d)) a
  refine AZ rfl ?_
  cases a
  exact aR eE1
 replace a:=ifp (Ce d) a
 refine Ac<|o _ _ ?_
 refine AZ rfl ?_
 cases a
 exact aR eE1
inductive Sum74 where
  |nil
  |t108 (x0:Int) (x1:Int)
  |t110 (x0:Int) (x1:Int)
  |t112 
  |t140 (x0:Int) (x1:Int) (x2:Int)
  |t142 (x0:Int) (x1:Int)
  |t145 (x0:Int) (x1:Int) (x2:Int)
  |t209 (x0:Int) (x1:BitVec 128)
  |t210 (x0:Int) (x1:Int)
  |t211 (x0:Int) (x1:Int)
  |t213 (x0:Int) (x1:Int)
  |t215 (x0:Int)
  deriving Inhabited
def Sum74.on{β:Type}(x:Sum74)(a:β)(f108:Int→Int→β)(f110:Int→Int→β)(f112:β)(f140:Int→Int→Int→β)(f142:Int→Int→β)(f145:Int→Int→Int→β)(f209:Int→(BitVec 128)→β)(f210:Int→Int→β)(f211:Int→Int→β)(f213:Int→Int→β)(f215:Int→β):β:=match x with| .nil=>a| .t108 x0 x1=>f108 x0 x1| .t110 x0 x1=>f110 x0 x1| .t112  =>f112  | .t140 x0 x1 x2=>f140 x0 x1 x2| .t142 x0 x1=>f142 x0 x1| .t145 x0 x1 x2=>f145 x0 x1 x2| .t209 x0 x1=>f209 x0 x1| .t210 x0 x1=>f210 x0 x1| .t211 x0 x1=>f211 x0 x1| .t213 x0 x1=>f213 x0 x1| .t215 x0=>f215 x0
theorem Sum74.on_nil {β:Type}{x:Sum74}{a r:β}{f108:Int→Int→β}{f110:Int→Int→β}{f112:β}{f140:Int→Int→Int→β}{f142:Int→Int→β}{f145:Int→Int→Int→β}{f209:Int→(BitVec 128)→β}{f210:Int→Int→β}{f211:Int→Int→β}{f213:Int→Int→β}{f215:Int→β}(h:x= .nil)(e:Sum74.on x a f108 f110 f112 f140 f142 f145 f209 f210 f211 f213 f215=r):a=r:=by subst h;exact e
theorem Sum74.on_t108 {β:Type}{x:Sum74}{a r:β}{f108:Int→Int→β}{f110:Int→Int→β}{f112:β}{f140:Int→Int→Int→β}{f142:Int→Int→β}{f145:Int→Int→Int→β}{f209:Int→(BitVec 128)→β}{f210:Int→Int→β}{f211:Int→Int→β}{f213:Int→Int→β}{f215:Int→β}{b:Int}{c:Int}(h:x= .t108 b c)(e:Sum74.on x a f108 f110 f112 f140 f142 f145 f209 f210 f211 f213 f215=r):f108 b c=r:=by subst h;exact e
theorem Sum74.on_t110 {β:Type}{x:Sum74}{a r:β}{f108:Int→Int→β}{f110:Int→Int→β}{f112:β}{f140:Int→Int→Int→β}{f142:Int→Int→β}{f145:Int→Int→Int→β}{f209:Int→(BitVec 128)→β}{f210:Int→Int→β}{f211:Int→Int→β}{f213:Int→Int→β}{f215:Int→β}{b:Int}{c:Int}(h:x= .t110 b c)(e:Sum74.on x a f108 f110 f112 f140 f142 f145 f209 f210 f211 f213 f215=r):f110 b c=r:=by subst h;exact e
theorem Sum74.on_t112 {β:Type}{x:Sum74}{a r:β}{f108:Int→Int→β}{f110:Int→Int→β}{f112:β}{f140:Int→Int→Int→β}{f142:Int→Int→β}{f145:Int→Int→Int→β}{f209:Int→(BitVec 128)→β}{f210:Int→Int→β}{f211:Int→Int→β}{f213:Int→Int→β}{f215:Int→β}(h:x= .t112)(e:Sum74.on x a f108 f110 f112 f140 f142 f145 f209 f210 f211 f213 f215=r):f112  =r:=by subst h;exact e
theorem Sum74.on_t140 {β:Type}{x:Sum74}{a r:β}{f108:Int→Int→β}{f110:Int→Int→β}{f112:β}{f140:Int→Int→Int→β}{f142:Int→Int→β}{f145:Int→Int→Int→β}{f209:Int→(BitVec 128)→β}{f210:Int→Int→β}{f211:Int→Int→β}{f213:Int→Int→β}{f215:Int→β}{b:Int}{c:Int}{d:Int}(h:x= .t140 b c d)(e:Sum74.on x a f108 f110 f112 f140 f142 f145 f209 f210 f211 f213 f215=r):f140 b c d=r:=by subst h;exact e
theorem Sum74.on_t142 {β:Type}{x:Sum74}{a r:β}{f108:Int→Int→β}{f110:Int→Int→β}{f112:β}{f140:Int→Int→Int→β}{f142:Int→Int→β}{f145:Int→Int→Int→β}{f209:Int→(BitVec 128)→β}{f210:Int→Int→β}{f211:Int→Int→β}{f213:Int→Int→β}{f215:Int→β}{b:Int}{c:Int}(h:x= .t142 b c)(e:Sum74.on x a f108 f110 f112 f140 f142 f145 f209 f210 f211 f213 f215=r):f142 b c=r:=by subst h;exact e
theorem Sum74.on_t145 {β:Type}{x:Sum74}{a r:β}{f108:Int→Int→β}{f110:Int→Int→β}{f112:β}{f140:Int→Int→Int→β}{f142:Int→Int→β}{f145:Int→Int→Int→β}{f209:Int→(BitVec 128)→β}{f210:Int→Int→β}{f211:Int→Int→β}{f213:Int→Int→β}{f215:Int→β}{b:Int}{c:Int}{d:Int}(h:x= .t145 b c d)(e:Sum74.on x a f108 f110 f112 f140 f142 f145 f209 f210 f211 f213 f215=r):f145 b c d=r:=by subst h;exact e
theorem Sum74.on_t209 {β:Type}{x:Sum74}{a r:β}{f108:Int→Int→β}{f110:Int→Int→β}{f112:β}{f140:Int→Int→Int→β}{f142:Int→Int→β}{f145:Int→Int→Int→β}{f209:Int→(BitVec 128)→β}{f210:Int→Int→β}{f211:Int→Int→β}{f213:Int→Int→β}{f215:Int→β}{b:Int}{c:BitVec 128}(h:x= .t209 b c)(e:Sum74.on x a f108 f110 f112 f140 f142 f145 f209 f210 f211 f213 f215=r):f209 b c=r:=by subst h;exact e
theorem Sum74.on_t210 {β:Type}{x:Sum74}{a r:β}{f108:Int→Int→β}{f110:Int→Int→β}{f112:β}{f140:Int→Int→Int→β}{f142:Int→Int→β}{f145:Int→Int→Int→β}{f209:Int→(BitVec 128)→β}{f210:Int→Int→β}{f211:Int→Int→β}{f213:Int→Int→β}{f215:Int→β}{b:Int}{c:Int}(h:x= .t210 b c)(e:Sum74.on x a f108 f110 f112 f140 f142 f145 f209 f210 f211 f213 f215=r):f210 b c=r:=by subst h;exact e
theorem Sum74.on_t211 {β:Type}{x:Sum74}{a r:β}{f108:Int→Int→β}{f110:Int→Int→β}{f112:β}{f140:Int→Int→Int→β}{f142:Int→Int→β}{f145:Int→Int→Int→β}{f209:Int→(BitVec 128)→β}{f210:Int→Int→β}{f211:Int→Int→β}{f213:Int→Int→β}{f215:Int→β}{b:Int}{c:Int}(h:x= .t211 b c)(e:Sum74.on x a f108 f110 f112 f140 f142 f145 f209 f210 f211 f213 f215=r):f211 b c=r:=by subst h;exact e
theorem Sum74.on_t213 {β:Type}{x:Sum74}{a r:β}{f108:Int→Int→β}{f110:Int→Int→β}{f112:β}{f140:Int→Int→Int→β}{f142:Int→Int→β}{f145:Int→Int→Int→β}{f209:Int→(BitVec 128)→β}{f210:Int→Int→β}{f211:Int→Int→β}{f213:Int→Int→β}{f215:Int→β}{b:Int}{c:Int}(h:x= .t213 b c)(e:Sum74.on x a f108 f110 f112 f140 f142 f145 f209 f210 f211 f213 f215=r):f213 b c=r:=by subst h;exact e
theorem Sum74.on_t215 {β:Type}{x:Sum74}{a r:β}{f108:Int→Int→β}{f110:Int→Int→β}{f112:β}{f140:Int→Int→Int→β}{f142:Int→Int→β}{f145:Int→Int→Int→β}{f209:Int→(BitVec 128)→β}{f210:Int→Int→β}{f211:Int→Int→β}{f213:Int→Int→β}{f215:Int→β}{b:Int}(h:x= .t215 b)(e:Sum74.on x a f108 f110 f112 f140 f142 f145 f209 f210 f211 f213 f215=r):f215 b=r:=by subst h;exact e
def Sum74.onP(x:Sum74)(a:PO)(f108:Int→Int→PO)(f110:Int→Int→PO)(f112:PO)(f140:Int→Int→Int→PO)(f142:Int→Int→PO)(f145:Int→Int→Int→PO)(f209:Int→(BitVec 128)→PO)(f210:Int→Int→PO)(f211:Int→Int→PO)(f213:Int→Int→PO)(f215:Int→PO):PO:=match x with| .nil=>a| .t108 x0 x1=>f108 x0 x1| .t110 x0 x1=>f110 x0 x1| .t112  =>f112  | .t140 x0 x1 x2=>f140 x0 x1 x2| .t142 x0 x1=>f142 x0 x1| .t145 x0 x1 x2=>f145 x0 x1 x2| .t209 x0 x1=>f209 x0 x1| .t210 x0 x1=>f210 x0 x1| .t211 x0 x1=>f211 x0 x1| .t213 x0 x1=>f213 x0 x1| .t215 x0=>f215 x0
theorem Sum74.onP_nil {x:Sum74}{a:PO}{f108:Int→Int→PO}{f110:Int→Int→PO}{f112:PO}{f140:Int→Int→Int→PO}{f142:Int→Int→PO}{f145:Int→Int→Int→PO}{f209:Int→(BitVec 128)→PO}{f210:Int→Int→PO}{f211:Int→Int→PO}{f213:Int→Int→PO}{f215:Int→PO}{v:Value}{O:List (List Bl)}(h:x= .nil)(e:Sum74.onP x a f108 f110 f112 f140 f142 f145 f209 f210 f211 f213 f215 v O):a v O:=by subst h;exact e
theorem Sum74.niceP {x:Sum74}{a:PO}{f108:Int→Int→PO}{f110:Int→Int→PO}{f112:PO}{f140:Int→Int→Int→PO}{f142:Int→Int→PO}{f145:Int→Int→Int→PO}{f209:Int→(BitVec 128)→PO}{f210:Int→Int→PO}{f211:Int→Int→PO}{f213:Int→Int→PO}{f215:Int→PO}{R:List Bl}(h:NiceO a R)(d: ∀b c,NiceO (f108 b c) R)(e: ∀b c,NiceO (f110 b c) R)(f:NiceO (f112) R)(g: ∀b c p,NiceO (f140 b c p) R)(i: ∀b c,NiceO (f142 b c) R)(j: ∀b c p,NiceO (f145 b c p) R)(k: ∀b c,NiceO (f209 b c) R)(l: ∀b c,NiceO (f210 b c) R)(m: ∀b c,NiceO (f211 b c) R)(n: ∀b c,NiceO (f213 b c) R)(o: ∀b,NiceO (f215 b) R):NiceO (Sum74.onP x a f108 f110 f112 f140 f142 f145 f209 f210 f211 f213 f215) R:=by cases x with|nil=>exact h|t108=>exact d _ _|t110=>exact e _ _|t112=>exact f  |t140=>exact g _ _ _|t142=>exact i _ _|t145=>exact j _ _ _|t209=>exact k _ _|t210=>exact l _ _|t211=>exact m _ _|t213=>exact n _ _|t215=>exact o _
theorem Sum74.cases(x:Sum74):x= .nil∨(∃a b,x= .t108 a b)∨(∃a b,x= .t110 a b)∨(x= .t112)∨(∃a b c,x= .t140 a b c)∨(∃a b,x= .t142 a b)∨(∃a b c,x= .t145 a b c)∨(∃a b,x= .t209 a b)∨(∃a b,x= .t210 a b)∨(∃a b,x= .t211 a b)∨(∃a b,x= .t213 a b)∨(∃a,x= .t215 a):=by cases x<;>simp
def Sum74.v:Sum74→Value
  | .nil=>Value.nilIface
  | .t108 x0 x1=>Value.iface 108 (vA #[vI x0,vI x1])
  | .t110 x0 x1=>Value.iface 110 (vA #[vI x0,vI x1])
  | .t112  =>Value.iface 112 (vA #[])
  | .t140 x0 x1 x2=>Value.iface 140 (vA #[vI x0,vI x1,vI x2])
  | .t142 x0 x1=>Value.iface 142 (vA #[vI x0,vI x1])
  | .t145 x0 x1 x2=>Value.iface 145 (vA #[vI x0,vI x1,vI x2])
  | .t209 x0 x1=>Value.iface 209 (vA #[vI x0,U (hi x1),U (lo x1)])
  | .t210 x0 x1=>Value.iface 210 (vA #[vI x0,vI x1])
  | .t211 x0 x1=>Value.iface 211 (vA #[vI x0,vI x1])
  | .t213 x0 x1=>Value.iface 213 (vA #[vI x0,vI x1])
  | .t215 x0=>Value.iface 215 (vA #[vI x0])
theorem Sum74.cells(x:Sum74):(Sum74.v x).cells= #[Sum74.v x]:=by cases x<;>rfl
theorem Sum74.one(x:Sum74):(Sum74.v x).oneCell'=true:=by cases x<;>rfl
def Kj:Enc Sum74:=⟨fun x=> [Sum74.v x],1,Nat.one_pos,fun _=>rfl,fun x v h=>by rw [List.mem_singleton] at h;rw [h];exact Sum74.one x,True⟩
def Jm(x_0:Int)(x_1:Int)(x_2:Int)(x11_:Bool):Option Sum74:=if x11_=true then some (Sum74.t108 x_0 x_1)else if x_0=33 then some (Sum74.t110 x_1 x_2)else if x_0=34 then some Sum74.t112 else some (Sum74.t215 x_0)
def Jn(x_0:Int)(x_1:Int)(x_2:Int)(x9_:Bool):Option Sum74:=if x9_=true then some (Sum74.t145 x_0 x_1 x_2)else if x_0=31 then Jm x_0 x_1 x_2 (x_0==31)else Jm x_0 x_1 x_2 (x_0==32)
def FI(x_0:Int)(x_1:Int)(x_2:Int)(x7_:Bool):Option Sum74:=if x7_=true then some (Sum74.t211 x_0 x_1)else if x_0=10 then some (Sum74.t213 x_1 x_2)else if x_0=27 then Jn x_0 x_1 x_2 (x_0==27)else Jn x_0 x_1 x_2 (x_0==28)
def IG(x_0:Int)(x_1:Int)(x_2:Int)(x5_:Bool):Option Sum74:=if x5_=true then some (Sum74.t142 x_0 x_1)else if x_0=6 then FI x_0 x_1 x_2 (x_0==6)else if x_0=7 then FI x_0 x_1 x_2 (x_0==7)else if x_0=8 then FI x_0 x_1 x_2 (x_0==8)else if x_0=9 then FI x_0 x_1 x_2 (x_0==9)else FI x_0 x_1 x_2 (x_0==11)
def Ek(x_0:Int)(x_1:Int)(x_2:Int)(x3_:Bool):Option Sum74:=if x3_=true then some (Sum74.t210 x_0 x_1)else if x_0=4 then IG x_0 x_1 x_2 (x_0==4)else if x_0=25 then IG x_0 x_1 x_2 (x_0==25)else IG x_0 x_1 x_2 (x_0==26)
def KA(x_0:Int)(x_1:Int)(x_2:Int)(x1_:Bool):Option Sum74:=if x1_=true then some (Sum74.t140 x_0 x_1 x_2)else if x_0=2 then Ek x_0 x_1 x_2 (x_0==2)else if x_0=23 then Ek x_0 x_1 x_2 (x_0==23)else if x_0=3 then Ek x_0 x_1 x_2 (x_0==3)else if x_0=5 then Ek x_0 x_1 x_2 (x_0==5)else if x_0=24 then Ek x_0 x_1 x_2 (x_0==24)else if x_0=29 then Ek x_0 x_1 x_2 (x_0==29)else Ek x_0 x_1 x_2 (x_0==30)
def Oz(_:Nat)(x_0:Int)(x_1:Int)(x_2:Int)(x_3:Int)(x_4:BitVec 128):Option Sum74:=if x_0=0 then some (Sum74.t209 x_3 x_4)else if x_0=1 then KA x_0 x_1 x_2 (x_0==1)else KA x_0 x_1 x_2 (x_0==22)
theorem Wc(N x_0 x_1 x_2 x_3 x_4 r)(a:Oz N x_0 x_1 x_2 x_3 x_4=some r):Gives prog 63 #[vA #[vI x_0,vI x_1,vI x_2,vI x_3,U (hi x_4),U (lo x_4)]] (Sum74.v r):=by
 unfold Oz at a
 refine Ao follows func63 rfl 102 rfl _ fz1 (fun J=> ?_)
 refine Aa<|rA rfl fun b=>rz rfl<|Ae fun O K=>AY [0] rfl<|Am<|AZ rfl<|aE a rfl (fun L a=> ?_) (fun L a=> ?_)
 ·refine Aa<|r_V (vP b 3) rfl<|rl (vA #[vI x_3,U (hi x_4),U (lo x_4)]) 0<|r_W (vA #[vI x_3,U (hi x_4),U (lo x_4)]) rfl (Aq rfl rfl rfl rfl)<|rz rfl ?_
  cases a
  exact aR eE1
 refine BW (fun tt ll=> ∃(d:Bool),(KA x_0 x_1 x_2 d=some r)∧Is [(1,vP b 0),(4,vI x_0),(11,vB d)] (Ex b x_0 x_1 x_2 x_3 (hi x_4) (lo x_4)) tt ll) ?_ ?_
 ·refine AZ rfl<|aE a rfl (fun i a=> ?_) (fun i a=> ?_)
  ·refine Ac<|fg _ (Sub.of (suK _ suN)) ?_
   exact⟨(x_0==1),a,Aj rfl rfl⟩
  refine An<|rz rfl<|fg _ (Sub.of (suK _ suN)) ?_
  exact⟨(x_0==22),a,Aj rfl rfl⟩
 clear a;rintro t l ⟨d,a,⟨T,rfl⟩,rfl⟩
 unfold KA at a
 refine aB a rfl (fun M a=> ?_) (fun M a=> ?_)
 ·refine Aa<|r_V (vP b 0) rfl<|rl (vI x_0) 0<|r_V (vP b 1) rfl<|rl (vI x_1) 0<|r_V (vP b 2) rfl<|rl (vI x_2) 0<|r_W (vA #[vI x_0,vI x_1,vI x_2]) rfl (Aq rfl rfl rfl rfl)<|rz rfl ?_
  cases a
  exact aR eE1
 refine BW (fun tt ll=> ∃(e:Bool),(Ek x_0 x_1 x_2 e=some r)∧Is [(1,vP b 0),(4,vI x_0),(22,vB e)] (Ex b x_0 x_1 x_2 x_3 (hi x_4) (lo x_4)) tt ll) ?_ ?_
 ·refine AZ rfl<|aE a rfl (fun j a=> ?_) (fun j a=> ?_)
  ·refine Ac<|fg _ (Sub.of (suK _ suN)) ?_
   exact⟨(x_0==2),a,Aj rfl rfl⟩
  refine AZ rfl<|aE a rfl (fun k a=> ?_) (fun k a=> ?_)
  ·refine Ac<|fg _ (Sub.of (suK _ suN)) ?_
   exact⟨(x_0==23),a,Aj rfl rfl⟩
  refine AZ rfl<|aE a rfl (fun m a=> ?_) (fun m a=> ?_)
  ·refine Ac<|fg _ (Sub.of (suK _ suN)) ?_
   exact⟨(x_0==3),a,Aj rfl rfl⟩
  refine AZ rfl<|aE a rfl (fun n a=> ?_) (fun n a=> ?_)
  ·refine Ac<|fg _ (Sub.of (suK _ suN)) ?_
   exact⟨(x_0==5),a,Aj rfl rfl⟩
  refine AZ rfl<|aE a rfl (fun o a=> ?_) (fun o a=> ?_)
  ·refine Ac<|fg _ (Sub.of (suK _ suN)) ?_
   exact⟨(x_0==24),a,Aj rfl rfl⟩
  refine AZ rfl<|aE a rfl (fun p a=> ?_) (fun p a=> ?_)
  ·refine Ac<|fg _ (Sub.of (suK _ suN)) ?_
   exact⟨(x_0==29),a,Aj rfl rfl⟩
  refine An<|rz rfl<|fg _ (Sub.of (suK _ suN)) ?_
  exact⟨(x_0==30),a,Aj rfl rfl⟩
 clear a;rintro t l ⟨e,a,⟨T,rfl⟩,rfl⟩
 unfold Ek at a
 refine aB a rfl (fun q a=> ?_) (fun q a=> ?_)
 ·refine Aa<|r_V (vP b 0) rfl<|rl (vI x_0) 0<|r_V (vP b 1) rfl<|rl (vI x_1) 0<|r_W (vA #[vI x_0,vI x_1]) rfl (Aq rfl rfl rfl rfl)<|rz rfl ?_
  cases a
  exact aR eE1
 refine BW (fun tt ll=> ∃(f:Bool),(IG x_0 x_1 x_2 f=some r)∧Is [(1,vP b 0),(4,vI x_0),(36,vB f)] (Ex b x_0 x_1 x_2 x_3 (hi x_4) (lo x_4)) tt ll) ?_ ?_
 ·refine AZ rfl<|aE a rfl (fun s a=> ?_) (fun s a=> ?_)
  ·refine Ac<|fg _ (Sub.of (suK _ suN)) ?_
   exact⟨(x_0==4),a,Aj rfl rfl⟩
  refine AZ rfl<|aE a rfl (fun u a=> ?_) (fun u a=> ?_)
  ·refine Ac<|fg _ (Sub.of (suK _ suN)) ?_
   exact⟨(x_0==25),a,Aj rfl rfl⟩
  refine An<|rz rfl<|fg _ (Sub.of (suK _ suN)) ?_
  exact⟨(x_0==26),a,Aj rfl rfl⟩
 clear a;rintro t l ⟨f,a,⟨T,rfl⟩,rfl⟩
 unfold IG at a
 refine aB a rfl (fun w a=> ?_) (fun w a=> ?_)
 ·refine Aa<|r_V (vP b 0) rfl<|rl (vI x_0) 0<|r_V (vP b 1) rfl<|rl (vI x_1) 0<|r_W (vA #[vI x_0,vI x_1]) rfl (Aq rfl rfl rfl rfl)<|rz rfl ?_
  cases a
  exact aR eE1
 refine BW (fun tt ll=> ∃(g:Bool),(FI x_0 x_1 x_2 g=some r)∧Is [(1,vP b 0),(4,vI x_0),(46,vB g)] (Ex b x_0 x_1 x_2 x_3 (hi x_4) (lo x_4)) tt ll) ?_ ?_
 ·refine AZ rfl<|aE a rfl (fun x a=> ?_) (fun x a=> ?_)
  ·refine Ac<|fg _ (Sub.of (suK _ suN)) ?_
   exact⟨(x_0==6),a,Aj rfl rfl⟩
  refine AZ rfl<|aE a rfl (fun y a=> ?_) (fun y a=> ?_)
  ·refine Ac<|fg _ (Sub.of (suK _ suN)) ?_
   exact⟨(x_0==7),a,Aj rfl rfl⟩
  refine AZ rfl<|aE a rfl (fun z a=> ?_) (fun z a=> ?_)
  ·refine Ac<|fg _ (Sub.of (suK _ suN)) ?_
   exact⟨(x_0==8),a,Aj rfl rfl⟩
  refine AZ rfl<|aE a rfl (fun A a=> ?_) (fun A a=> ?_)
  ·refine Ac<|fg _ (Sub.of (suK _ suN)) ?_
   exact⟨(x_0==9),a,Aj rfl rfl⟩
  refine An<|rz rfl<|fg _ (Sub.of (suK _ suN)) ?_
  exact⟨(x_0==11),a,Aj rfl rfl⟩
 clear a;rintro t l ⟨g,a,⟨T,rfl⟩,rfl⟩
 unfold FI at a
 refine aB a rfl (fun B a=> ?_) (fun B a=> ?_)
 ·refine Aa<|r_V (vP b 0) rfl<|rl (vI x_0) 0<|r_V (vP b 1) rfl<|rl (vI x_1) 0<|r_W (vA #[vI x_0,vI x_1]) rfl (Aq rfl rfl rfl rfl)<|rz rfl ?_
  cases a
  exact aR eE1
 refine AZ rfl<|aE a rfl (fun C a=> ?_) (fun C a=> ?_)
 ·refine Aa<|r_V (vP b 1) rfl<|rl (vI x_1) 0<|r_V (vP b 2) rfl<|rl (vI x_2) 0<|r_W (vA #[vI x_1,vI x_2]) rfl (Aq rfl rfl rfl rfl)<|rz rfl ?_
  cases a
  exact aR eE1
 refine BW (fun tt ll=> ∃(h:Bool),(Jn x_0 x_1 x_2 h=some r)∧Is [(1,vP b 0),(4,vI x_0),(66,vB h)] (Ex b x_0 x_1 x_2 x_3 (hi x_4) (lo x_4)) tt ll) ?_ ?_
 ·refine AZ rfl<|aE a rfl (fun D a=> ?_) (fun D a=> ?_)
  ·refine Ac<|fg _ (Sub.of (suK _ suN)) ?_
   exact⟨(x_0==27),a,Aj rfl rfl⟩
  refine An<|rz rfl<|fg _ (Sub.of (suK _ suN)) ?_
  exact⟨(x_0==28),a,Aj rfl rfl⟩
 clear a;rintro t l ⟨h,a,⟨T,rfl⟩,rfl⟩
 unfold Jn at a
 refine aB a rfl (fun E a=> ?_) (fun E a=> ?_)
 ·refine Aa<|r_V (vP b 0) rfl<|rl (vI x_0) 0<|r_V (vP b 1) rfl<|rl (vI x_1) 0<|r_V (vP b 2) rfl<|rl (vI x_2) 0<|r_W (vA #[vI x_0,vI x_1,vI x_2]) rfl (Aq rfl rfl rfl rfl)<|rz rfl ?_
  cases a
  exact aR eE1
 refine BW (fun tt ll=> ∃(c:Bool),(Jm x_0 x_1 x_2 c=some r)∧Is [(1,vP b 0),(4,vI x_0),(77,vB c)] (Ex b x_0 x_1 x_2 x_3 (hi x_4) (lo x_4)) tt ll) ?_ ?_
 ·refine AZ rfl<|aE a rfl (fun F a=> ?_) (fun F a=> ?_)
  ·refine Ac<|fg _ (Sub.of (suK _ suN)) ?_
   exact⟨(x_0==31),a,Aj rfl rfl⟩
  refine An<|rz rfl<|fg _ (Sub.of (suK _ suN)) ?_
  exact⟨(x_0==32),a,Aj rfl rfl⟩
 clear a;rintro t l ⟨c,a,⟨T,rfl⟩,rfl⟩
 unfold Jm at a
 refine aB a rfl (fun G a=> ?_) (fun G a=> ?_)
 ·refine Aa<|r_V (vP b 0) rfl<|rl (vI x_0) 0<|r_V (vP b 1) rfl<|rl (vI x_1) 0<|r_W (vA #[vI x_0,vI x_1]) rfl (Aq rfl rfl rfl rfl)<|rz rfl ?_
  cases a
  exact aR eE1
 refine AZ rfl<|aE a rfl (fun H a=> ?_) (fun H a=> ?_)
 ·refine Aa<|r_V (vP b 1) rfl<|rl (vI x_1) 0<|r_V (vP b 2) rfl<|rl (vI x_2) 0<|r_W (vA #[vI x_1,vI x_2]) rfl (Aq rfl rfl rfl rfl)<|rz rfl ?_
  cases a
  exact aR eE1
 refine AZ rfl<|aE a rfl (fun I a=> ?_) (fun I a=> ?_)
 ·refine Aa<|r_W (vA #[]) rfl (Aq rfl rfl rfl rfl)<|rz rfl ?_
  cases a
  exact aR eE1
 refine Ac<|K _ _ ?_
 refine Aa<|r_V (vP b 0) rfl<|rl (vI x_0) 0<|r_W (vA #[vI x_0]) rfl (Aq rfl rfl rfl rfl)<|rz rfl ?_
 cases a
 exact aR eE1
def OC(N:Nat)(x_0:Int)(x_1:Int)(x_2:Int)(x_3:Int)(x_4:BitVec 128):Option (Sum74×Int):=(Rr N x_0 x_1 x_2 x_3 x_4).bind fun r5=>if(r5:Int)≠0 then some (Sum74.nil,r5)else(Oz N x_0 x_1 x_2 x_3 x_4).bind fun r11=>some (r11,0)
theorem Wg(N x_0 x_1 x_2 x_3 x_4 r)(a:OC N x_0 x_1 x_2 x_3 x_4=some r):Gives prog 32 #[vA #[vI x_0,vI x_1,vI x_2,vI x_3,U (hi x_4),U (lo x_4)]] (vT #[Sum74.v r.1,vI r.2]):=by
 unfold OC at a
 refine Ao follows func32 rfl 12 rfl _ fz1 (fun c=> ?_)
 refine Aa<|rA rfl fun h=>rz rfl<|Ae fun i d=>Aa<|rm 1 [0] rfl<|kB a fun j e a=>rc _ (cF Zg) (YB N x_0 x_1 x_2 x_3 x_4 _ e)<|rz rfl<|AZ rfl<|aN a rfl (fun f a=> ?_) (fun f a=> ?_)
 ·refine AZ rfl ?_
  cases a
  exact aR eE2
 refine Ac<|d _ _ ?_
 refine Aa<|rm 1 [0] rfl<|kB a fun g b a=>rc _ (cF Zf) (Wc N x_0 x_1 x_2 x_3 x_4 _ b)<|rz rfl ?_
 cases a
 exact aR eE2
def Kk(N:Nat)(l':List (Int×Int×Int×Int×BitVec 128)):Nat→List Sum74→Int→Option ((List Sum74)×Int×Int)
  |0,_,_=>none
  |n5+1,steps1_,x2_=>if x2_<(l'.length:Int)then ck (0≤x2_∧x2_<(l'.length:Int)) (if x2_=64 then some ([],x2_,2)else(OC N ((l'[x2_.toNat]!).1) ((l'[x2_.toNat]!).2.1) ((l'[x2_.toNat]!).2.2.1) ((l'[x2_.toNat]!).2.2.2.1) ((l'[x2_.toNat]!).2.2.2.2)).bind fun r18=>if(r18.2:Int)≠0 then some ([],x2_,r18.2)else ck ((steps1_).length+([r18.1]).length≤8796093022208) (ck (R64 (x2_+1)) ((Kk N l' n5) (steps1_++([r18.1])) (x2_+1))))else some (steps1_,(steps1_.length:Int),0)
def Ni(N:Nat)(l':List (Int×Int×Int×Int×BitVec 128)):Option ((List Sum74)×Int×Int):=Kk N l' N ([]) 0
theorem Us(N l' r)(e:Ni N l'=some r)(ro l'v)(hl':Rd Dz ro l'v l'):Does prog 21 #[l'v] ro [] (p1 (fun s_=>vT #[s_,vI r.2.1,vI r.2.2]) 74 Kj r.1):=by
 unfold Ni at e
 refine Ag follows func21 rfl 37 rfl _ fz1 (fun y=> ?_)
 refine AZ rfl<|AZ rfl<|Ae fun K z=>Aa<|rn 1 rfl<|rL (Rd.shp hl') rfl<|rz rfl<|Am<|BH _ (Sub.pickE (Ls:=[[]]) (Ls0:=[]) rfl [0] rfl)<|AS (fun tt ll nn=> ∃(m:Nat) (c:List Sum74) (a:Int),(Kk N l' m c a=some r)∧ ∃(d:Value) (b:List Bl),Sl 74 Kj d c b∧Is [(5,d),(10,l'v),(11,vI (l'.length:Int)),(12,vI a)] (List.flatten [b]) tt ll∧nn=m+1) (N+1) ?_ ?_
 ·exact⟨N,[],0,e,nS,[],Sl.nil,Aj rfl rfl,rfl⟩
 clear e;rintro t l _ ⟨m,c,a,e,d,b,f,⟨⟨T,rfl⟩,rfl⟩,rfl⟩
 rcases m with _|m
 ·exact absurd e (by simp [Kk])
 rw [Kk] at e
 refine AZ rfl<|Ae fun L A=>aD e rfl (fun B e=> ?_) (fun B e=> ?_)
 ·refine Ac<|A _ _ ?_
  refine Ae fun M C=>Am<|Aa<|rn 1 rfl<|kC e fun i e=>rI (Rd.shp hl') i rfl<|rE (AA hl') i 0 rfl<|rA rfl fun h=>ry [0] rfl<|Ae fun H o=>AZ rfl<|aE e rfl (fun p e=> ?_) (fun p e=> ?_)
  ·refine AZ rfl ?_
   cases e
   refine AO (fun G=>De (v0:=vT #[nS,vI a,vI 2]) Sl.nil (Sub.nil _) rfl (Ya rfl rfl rfl))
  refine Ac<|o _ _ ?_
  refine Aa<|rm 1 [0] rfl<|kB e fun g q e=>rc _ (cF ZF) (Wg N ((l'[a.toNat]!).1) ((l'[a.toNat]!).2.1) ((l'[a.toNat]!).2.2.1) ((l'[a.toNat]!).2.2.2.1) ((l'[a.toNat]!).2.2.2.2) _ q)<|rz rfl<|Ae fun I s=>AZ rfl<|aN e rfl (fun u e=> ?_) (fun u e=> ?_)
  ·refine AZ rfl ?_
   cases e
   refine AO (fun G=>De (v0:=vT #[nS,vI a,vI g.2]) Sl.nil (Sub.nil _) rfl (Ya rfl rfl rfl))
  refine Ac<|s _ _ ?_
  refine An<|rn 2 rfl<|cD 31<|FY (cs0:=[]) (Ls:=[(Ex h ((l'[a.toNat]!).1) ((l'[a.toNat]!).2.1) ((l'[a.toNat]!).2.2.1) ((l'[a.toNat]!).2.2.2.1) (hi ((l'[a.toNat]!).2.2.2.2)) (lo ((l'[a.toNat]!).2.2.2.2))),b]) 74 Kj [g.1] [Sum74.v g.1] [Value.nilIface] rfl rfl rfl rfl rfl rfl rfl (by kernel_rfl) ((Kg _ _ _ _ (DC (Vb (v:=Sum74.v g.1) rfl (Sum74.cells g.1)) KZ)).trans (by kernel_rfl)) rfl rfl rfl (fun J n D=> ?_)
  refine kC e fun j e=>cC 32 ?_
  refine KK (cs0:=[]) (Ls:=[(Ex h ((l'[a.toNat]!).1) ((l'[a.toNat]!).2.1) ((l'[a.toNat]!).2.2.1) ((l'[a.toNat]!).2.2.2.1) (hi ((l'[a.toNat]!).2.2.2.2)) (lo ((l'[a.toNat]!).2.2.2.2))),b,n]) 1 (En:=Kj) rfl rfl rfl rfl rfl f rfl (Ar D (Af (Ls:=[(Ex h ((l'[a.toNat]!).1) ((l'[a.toNat]!).2.1) ((l'[a.toNat]!).2.2.1) ((l'[a.toNat]!).2.2.2.1) (hi ((l'[a.toNat]!).2.2.2.2)) (lo ((l'[a.toNat]!).2.2.2.2))),b,n]) (k:=2) rfl rfl)) rfl rfl rfl rfl rfl (KQ j rfl) (KP j rfl) rfl (fun E w F=> ?_)
  refine rz rfl<|C _ _ ?_
  refine An<|kC e fun x e=>rX x rfl<|rz rfl<|fg _ (Sub.pick [(Ex h ((l'[a.toNat]!).1) ((l'[a.toNat]!).2.1) ((l'[a.toNat]!).2.2.1) ((l'[a.toNat]!).2.2.2.1) (hi ((l'[a.toNat]!).2.2.2.2)) (lo ((l'[a.toNat]!).2.2.2.2))),w,n] [1] rfl) ?_
  exact⟨m+1,by omega,m,(c++([g.1])),(a+1),e,E,w,F,Aj rfl rfl,rfl⟩
 refine AT<|z _ _ ?_
 refine Aa<|rn 2 rfl<|rL (Sl.shp f) rfl<|rz rfl ?_
 cases e
 refine AO (fun G=>De (v0:=vT #[d,vI (c.length:Int),vI 0]) f (Cb (Sub.pick [b] [0] rfl)) rfl (Ya rfl rfl rfl))
def NN(N:Nat)(l':List Int)(i:Int):Option Bool:=ck ((R64 ((l'.length:Int) - 1))) ((Au N i 0 ((l'.length:Int) - 1)).bind fun r4=>some r4)
theorem VN(N l' i r)(a:NN N l' i=some r)(ro l'v)(hl':Rd AX ro l'v l'):Does prog 53 #[l'v,vI i] ro [] (pV (vB r)):=by
 unfold NN at a
 refine Ag follows func53 rfl 10 rfl _ fz2 (fun b=> ?_)
 refine AZ rfl<|Aa<|rn 2 rfl<|rL (Rd.shp hl') rfl<|kC a fun c a=>rX c rfl<|kB a fun e d a=>rc _ (cF BI) (Ax N i 0 ((l'.length:Int) - 1) _ d)<|rz rfl ?_
 cases a
 exact aR eV1
def IX(N:Nat)(l':List (List UInt8×Int×Int))(i:Int):Option Bool:=ck ((R64 ((l'.length:Int) - 1))) ((Au N i 0 ((l'.length:Int) - 1)).bind fun r4=>some r4)
theorem QB(N l' i r)(a:IX N l' i=some r)(ro l'v)(hl':Rd HD ro l'v l'):Does prog 54 #[l'v,vI i] ro [] (pV (vB r)):=by
 unfold IX at a
 refine Ag follows func54 rfl 10 rfl _ fz2 (fun b=> ?_)
 refine AZ rfl<|Aa<|rn 2 rfl<|rL (Rd.shp hl') rfl<|kC a fun c a=>rX c rfl<|kB a fun e d a=>rc _ (cF BI) (Ax N i 0 ((l'.length:Int) - 1) _ d)<|rz rfl ?_
 cases a
 exact aR eV1
def FA(N:Nat)(l':List (List UInt8×Int))(i:Int):Option Bool:=ck ((R64 ((l'.length:Int) - 1))) ((Au N i 0 ((l'.length:Int) - 1)).bind fun r4=>some r4)
theorem Mj(N l' i r)(a:FA N l' i=some r)(ro l'v)(hl':Rd HC ro l'v l'):Does prog 55 #[l'v,vI i] ro [] (pV (vB r)):=by
 unfold FA at a
 refine Ag follows func55 rfl 10 rfl _ fz2 (fun b=> ?_)
 refine AZ rfl<|Aa<|rn 2 rfl<|rL (Rd.shp hl') rfl<|kC a fun c a=>rX c rfl<|kB a fun e d a=>rc _ (cF BI) (Ax N i 0 ((l'.length:Int) - 1) _ d)<|rz rfl ?_
 cases a
 exact aR eV1
def GW(N:Nat)(l':List (List UInt8×Int×Int×Int))(i:Int):Option Bool:=ck ((R64 ((l'.length:Int) - 1))) ((Au N i 0 ((l'.length:Int) - 1)).bind fun r4=>some r4)
theorem NQ(N l' i r)(a:GW N l' i=some r)(ro l'v)(hl':Rd HB ro l'v l'):Does prog 56 #[l'v,vI i] ro [] (pV (vB r)):=by
 unfold GW at a
 refine Ag follows func56 rfl 10 rfl _ fz2 (fun b=> ?_)
 refine AZ rfl<|Aa<|rn 2 rfl<|rL (Rd.shp hl') rfl<|kC a fun c a=>rX c rfl<|kB a fun e d a=>rc _ (cF BI) (Ax N i 0 ((l'.length:Int) - 1) _ d)<|rz rfl ?_
 cases a
 exact aR eV1
def CQ(N:Nat)(m:AF)(slot:Int):Option Bool:=(Nq N m.2.2.1 slot).bind fun r4=>some r4.2.2
theorem HO(N m slot r)(a:CQ N m slot=some r)(ro)(mv:AE)(hm:Bun59R ro mv m):Does prog 57 #[vA (Ab m mv),vI slot] ro [] (pV (vB r)):=by
 unfold CQ at a
 refine Ag follows func57 rfl 17 rfl _ fz2 (fun b=> ?_)
 refine Aa<|rA rfl fun d=>rz rfl<|Aa<|rm 3 [0] rfl<|kB a fun e c a=>gV _ (cF OM) (fun o w z_=>Ts N m.2.2.1 slot _ c z_.view mv.2.1 ((AA hm.2.1) o w z_))<|rz rfl<|AZ rfl ?_
 cases a
 exact aR eV1
def LD(N:Nat)(m:AF)(x_1:Int)(x9_:Bool):Option Bool:=if x9_=true then(DL N m x_1).bind fun r39=>some r39.2.2 else some true
def Kx(N:Nat)(m:AF)(x_0:Int)(x_1:Int)(x7_:Bool):Option Bool:=if x7_=true then(CQ N m x_1).bind fun r35=>some r35 else if x_0=27 then LD N m x_1 (x_0==27)else LD N m x_1 (x_0==28)
def Nd(N:Nat)(m:AF)(x_0:Int)(x_1:Int)(x5_:Bool):Option Bool:=if x5_=true then(IX N m.2.2.2.2.2.2.2.2.2.2.2.2.1 x_1).bind fun r21=>some r21 else if x_0=29 then(FA N m.2.2.2.2.2.2.2.2.2.2.2.2.2.1 x_1).bind fun r26=>some r26 else if x_0=30 then(GW N m.2.2.2.2.2.2.2.2.2.2.2.2.2.2.1 x_1).bind fun r31=>some r31 else if x_0=4 then Kx N m x_0 x_1 (x_0==4)else if x_0=25 then Kx N m x_0 x_1 (x_0==25)else if x_0=26 then Kx N m x_0 x_1 (x_0==26)else Kx N m x_0 x_1 (x_0==33)
def Nf(N:Nat)(m:AF)(params:List Int)(x_0:Int)(x_1:Int)(x3_:Bool):Option Bool:=if x3_=true then(Hv N m x_1).bind fun r12=>some r12.2 else if x_0=3 then(NN N params x_1).bind fun r17=>some r17 else if x_0=5 then Nd N m x_0 x_1 (x_0==5)else Nd N m x_0 x_1 (x_0==24)
def Ng(N:Nat)(m:AF)(params:List Int)(x_0:Int)(x_1:Int)(x_2:Int)(x1_:Bool):Option Bool:=if x1_=true then(EP N m x_1 x_2).bind fun r8=>some r8.2 else if x_0=2 then Nf N m params x_0 x_1 (x_0==2)else Nf N m params x_0 x_1 (x_0==23)
def NM(N:Nat)(m:AF)(params:List Int)(x_0:Int)(x_1:Int)(x_2:Int)(_:Int)(_:BitVec 128):Option Bool:=if x_0=1 then Ng N m params x_0 x_1 x_2 (x_0==1)else Ng N m params x_0 x_1 x_2 (x_0==22)
theorem aO(N m params x_0 x_1 x_2 x_3 x_4 r)(a:NM N m params x_0 x_1 x_2 x_3 x_4=some r)(ro)(mv:AE)(hm:Bun59R ro mv m)(paramsv)(hparams:Rd AX ro paramsv params):DoesI prog 29 #[vA (Ab m mv),paramsv,vA #[vI x_0,vI x_1,vI x_2,vI x_3,U (hi x_4),U (lo x_4)]] CR ro [] (pV (vB r)):=by
 unfold NM at a
 refine AC follows func29 rfl 81 rfl _ fz3 AG (fun K=> ?_)
 refine Aa<|rA rfl fun c=>rA rfl fun d=>rz rfl<|AZ rfl<|Ae fun X b=>AY [0] rfl<|Am<|BW (fun tt ll=> ∃(e:Bool),(Ng N m params x_0 x_1 x_2 e=some r)∧Is [(1,paramsv),(3,vP c 0),(5,vP d 0),(7,vB true),(9,vI x_0),(10,vB e)] [(d,42, #[vI x_0,vI x_1,vI x_2,vI x_3,U (hi x_4),U (lo x_4)]),(c,59,(Ab m mv))] tt ll) ?_ ?_
 ·refine AZ rfl<|aE a rfl (fun j a=> ?_) (fun j a=> ?_)
  ·refine Ac<|fg _ (Sub.of (suK _ (suK _ suN))) ?_
   exact⟨(x_0==1),a,Aj rfl rfl⟩
  refine An<|rz rfl<|fg _ (Sub.of (suK _ (suK _ suN))) ?_
  exact⟨(x_0==22),a,Aj rfl rfl⟩
 clear a;rintro t l ⟨e,a,⟨T,rfl⟩,rfl⟩
 unfold Ng at a
 refine aB a rfl (fun L a=> ?_) (fun L a=> ?_)
 ·refine An<|rm 5 [1,0,0] rfl<|kB a fun Y M a=>gV _ (cF RA) (fun o w z_=>(Does.inv (IW N m x_1 x_2 _ M z_.view mv (Bun59R.mono z_.ro_cell hm)) _))<|rz rfl<|b _ _ ?_
  refine AZ rfl ?_
  cases a
  exact aR eV1
 refine BW (fun tt ll=> ∃(f:Bool),(Nf N m params x_0 x_1 f=some r)∧Is [(1,paramsv),(3,vP c 0),(5,vP d 0),(7,vB true),(9,vI x_0),(22,vB f)] [(d,42, #[vI x_0,vI x_1,vI x_2,vI x_3,U (hi x_4),U (lo x_4)]),(c,59,(Ab m mv))] tt ll) ?_ ?_
 ·refine AZ rfl<|aE a rfl (fun k a=> ?_) (fun k a=> ?_)
  ·refine Ac<|fg _ (Sub.of (suK _ (suK _ suN))) ?_
   exact⟨(x_0==2),a,Aj rfl rfl⟩
  refine An<|rz rfl<|fg _ (Sub.of (suK _ (suK _ suN))) ?_
  exact⟨(x_0==23),a,Aj rfl rfl⟩
 clear a;rintro t l ⟨f,a,⟨T,rfl⟩,rfl⟩
 unfold Nf at a
 refine aB a rfl (fun n a=> ?_) (fun n a=> ?_)
 ·refine An<|rm 3 [1,0] rfl<|kB a fun O p a=>gV _ (cF Uv) (fun o w z_=>MD N m x_1 _ p z_.view mv (Bun59R.mono z_.ro_cell hm))<|rz rfl<|b _ _ ?_
  refine AZ rfl ?_
  cases a
  exact aR eV1
 refine AZ rfl<|aE a rfl (fun q a=> ?_) (fun q a=> ?_)
 ·refine An<|rm 3 [0] rfl<|kB a fun P s a=>gV _ (cF Zm) (fun o w z_=>(Does.inv (VN N params x_1 _ s z_.view paramsv (z_.r hparams)) _))<|rz rfl<|b _ _ ?_
  refine AZ rfl ?_
  cases a
  exact aR eV1
 refine BW (fun tt ll=> ∃(g:Bool),(Nd N m x_0 x_1 g=some r)∧Is [(3,vP c 0),(5,vP d 0),(7,vB true),(9,vI x_0),(38,vB g)] [(d,42, #[vI x_0,vI x_1,vI x_2,vI x_3,U (hi x_4),U (lo x_4)]),(c,59,(Ab m mv))] tt ll) ?_ ?_
 ·refine AZ rfl<|aE a rfl (fun u a=> ?_) (fun u a=> ?_)
  ·refine Ac<|fg _ (Sub.of (suK _ (suK _ suN))) ?_
   exact⟨(x_0==5),a,Aj rfl rfl⟩
  refine An<|rz rfl<|fg _ (Sub.of (suK _ (suK _ suN))) ?_
  exact⟨(x_0==24),a,Aj rfl rfl⟩
 clear a;rintro t l ⟨g,a,⟨T,rfl⟩,rfl⟩
 unfold Nd at a
 refine aB a rfl (fun v a=> ?_) (fun v a=> ?_)
 ·refine An<|rm 4 [1,0] rfl<|kB a fun Q x a=>gV _ (cF Zl) (fun o w z_=>(Does.inv (QB N m.2.2.2.2.2.2.2.2.2.2.2.2.1 x_1 _ x z_.view mv.2.2.2.2.2.2.2.2.2.2.2.1 ((AA hm.2.2.2.2.2.2.2.2.2.2.2.1) o w z_)) _))<|rz rfl<|b _ _ ?_
  refine AZ rfl ?_
  cases a
  exact aR eV1
 refine AZ rfl<|aE a rfl (fun y a=> ?_) (fun y a=> ?_)
 ·refine An<|rm 4 [1,0] rfl<|kB a fun R z a=>gV _ (cF Zk) (fun o w z_=>(Does.inv (Mj N m.2.2.2.2.2.2.2.2.2.2.2.2.2.1 x_1 _ z z_.view mv.2.2.2.2.2.2.2.2.2.2.2.2.1 ((AA hm.2.2.2.2.2.2.2.2.2.2.2.2.1) o w z_)) _))<|rz rfl<|b _ _ ?_
  refine AZ rfl ?_
  cases a
  exact aR eV1
 refine AZ rfl<|aE a rfl (fun A a=> ?_) (fun A a=> ?_)
 ·refine An<|rm 4 [1,0] rfl<|kB a fun S B a=>gV _ (cF Zj) (fun o w z_=>(Does.inv (NQ N m.2.2.2.2.2.2.2.2.2.2.2.2.2.2.1 x_1 _ B z_.view mv.2.2.2.2.2.2.2.2.2.2.2.2.2 ((AA hm.2.2.2.2.2.2.2.2.2.2.2.2.2) o w z_)) _))<|rz rfl<|b _ _ ?_
  refine AZ rfl ?_
  cases a
  exact aR eV1
 refine BW (fun tt ll=> ∃(h:Bool),(Kx N m x_0 x_1 h=some r)∧Is [(3,vP c 0),(5,vP d 0),(7,vB true),(9,vI x_0),(60,vB h)] [(d,42, #[vI x_0,vI x_1,vI x_2,vI x_3,U (hi x_4),U (lo x_4)]),(c,59,(Ab m mv))] tt ll) ?_ ?_
 ·refine AZ rfl<|aE a rfl (fun C a=> ?_) (fun C a=> ?_)
  ·refine Ac<|fg _ (Sub.of (suK _ (suK _ suN))) ?_
   exact⟨(x_0==4),a,Aj rfl rfl⟩
  refine AZ rfl<|aE a rfl (fun D a=> ?_) (fun D a=> ?_)
  ·refine Ac<|fg _ (Sub.of (suK _ (suK _ suN))) ?_
   exact⟨(x_0==25),a,Aj rfl rfl⟩
  refine AZ rfl<|aE a rfl (fun E a=> ?_) (fun E a=> ?_)
  ·refine Ac<|fg _ (Sub.of (suK _ (suK _ suN))) ?_
   exact⟨(x_0==26),a,Aj rfl rfl⟩
  refine An<|rz rfl<|fg _ (Sub.of (suK _ (suK _ suN))) ?_
  exact⟨(x_0==33),a,Aj rfl rfl⟩
 clear a;rintro t l ⟨h,a,⟨T,rfl⟩,rfl⟩
 unfold Kx at a
 refine aB a rfl (fun F a=> ?_) (fun F a=> ?_)
 ·refine An<|rm 3 [1,0] rfl<|kB a fun V G a=>gV _ (cF Rz) (fun o w z_=>(Does.inv (HO N m x_1 _ G z_.view mv (Bun59R.mono z_.ro_cell hm)) _))<|rz rfl<|b _ _ ?_
  refine AZ rfl ?_
  cases a
  exact aR eV1
 refine BW (fun tt ll=> ∃(i:Bool),(LD N m x_1 i=some r)∧Is [(3,vP c 0),(5,vP d 0),(7,vB true),(69,vB i)] [(d,42, #[vI x_0,vI x_1,vI x_2,vI x_3,U (hi x_4),U (lo x_4)]),(c,59,(Ab m mv))] tt ll) ?_ ?_
 ·refine AZ rfl<|aE a rfl (fun H a=> ?_) (fun H a=> ?_)
  ·refine Ac<|fg _ (Sub.of (suK _ (suK _ suN))) ?_
   exact⟨(x_0==27),a,Aj rfl rfl⟩
  refine An<|rz rfl<|fg _ (Sub.of (suK _ (suK _ suN))) ?_
  exact⟨(x_0==28),a,Aj rfl rfl⟩
 clear a;rintro t l ⟨i,a,⟨T,rfl⟩,rfl⟩
 unfold LD at a
 refine aB a rfl (fun I a=> ?_) (fun I a=> ?_)
 ·refine An<|rm 3 [1,0] rfl<|kB a fun W J a=>gV _ (cF Ry) (fun o w z_=>(Does.inv (GT N m x_1 _ J z_.view mv (Bun59R.mono z_.ro_cell hm)) _))<|rz rfl<|b _ _ ?_
  refine AZ rfl ?_
  cases a
  exact aR eV1
 refine Ac<|b _ _ ?_
 refine AZ rfl ?_
 cases a
 exact aR eV1
def Lg(_:Nat)(s:Sum74):Option (Int×Bool):=Sum74.on s (some (0,false)) (fun _ x6_1=>some (x6_1,true)) (fun _ x8_1=>some (x8_1,true)) (some (0,false)) (fun _ _ _=>some (0,false)) (fun _ _=>some (0,false)) (fun _ _ _=>some (0,false)) (fun _ _=>some (0,false)) (fun _ _=>some (0,false)) (fun _ _=>some (0,false)) (fun _ _=>some (0,false)) (fun _=>some (0,false))
theorem TN(N s r)(c:Lg N s=some r):Gives prog 107 #[Sum74.v s] (vT #[vI r.1,vB r.2]):=by
 unfold Lg at c
 refine Ao follows func107 rfl 24 rfl _ fz1 (fun i=> ?_)
 refine AZ rfl<|Ae fun j e=>Ae fun k d=>An<|rn 1 rfl ?_
 rcases Sum74.cases s with a|⟨x5_0,x6_1,a⟩|⟨x7_0,x8_1,a⟩|a|⟨x9_0,x10_1,x11_2,a⟩|⟨x12_0,x13_1,a⟩|⟨x14_0,x15_1,x16_2,a⟩|⟨x17_0,x18_1,a⟩|⟨x19_0,x20_1,a⟩|⟨x21_0,x22_1,a⟩|⟨x23_0,x24_1,a⟩|⟨x25_0,a⟩
 ·replace c:=Sum74.on_nil a c
  refine r_W (vT #[vA #[vI 0,vI 0],vB false]) rfl (As ((rfl:_=Sum74.v s).trans (show Sum74.v s=Value.nilIface from by rw [a];rfl)) rfl) ?_
  refine rn 3 rfl<|rA rfl fun f=>ry [0] rfl<|d _ _ ?_
  refine AZ rfl<|Ai false rfl (fun h_=>nomatch h_) (fun _=> ?_)
  refine Ac<|e _ _ ?_
  refine Ae fun g b=>Aa<|rn 1 rfl<|r_W (vT #[vA #[vI 0,vI 0],vB false]) rfl (As ((rfl:_=Sum74.v s).trans (show Sum74.v s=Value.nilIface from by rw [a];rfl)) rfl) ?_
  refine rn 3 rfl<|rA rfl fun h=>ry [0] rfl<|AZ rfl<|Ai false rfl (fun h_=>nomatch h_) (fun _=> ?_)
  refine Ac<|b _ _ ?_
  refine AZ rfl ?_
  cases c
  exact aR eE2
 ·replace c:=Sum74.on_t108 a c
  refine r_W (vT #[vA #[vI x5_0,vI x6_1],vB true]) rfl (As ((rfl:_=Sum74.v s).trans (show Sum74.v s=Value.iface 108 (vA #[vI x5_0,vI x6_1])from by rw [a];rfl)) rfl) ?_
  refine rn 3 rfl<|rA rfl fun f=>ry [0] rfl<|d _ _ ?_
  refine AZ rfl<|Ai true rfl (fun _=> ?_) (fun h_=>nomatch h_)
  refine AY [0] rfl ?_
  cases c
  exact aR eE2
 ·replace c:=Sum74.on_t110 a c
  refine r_W (vT #[vA #[vI 0,vI 0],vB false]) rfl (As ((rfl:_=Sum74.v s).trans (show Sum74.v s=Value.iface 110 (vA #[vI x7_0,vI x8_1])from by rw [a];rfl)) rfl) ?_
  refine rn 3 rfl<|rA rfl fun f=>ry [0] rfl<|d _ _ ?_
  refine AZ rfl<|Ai false rfl (fun h_=>nomatch h_) (fun _=> ?_)
  refine Ac<|e _ _ ?_
  refine Ae fun g b=>Aa<|rn 1 rfl<|r_W (vT #[vA #[vI x7_0,vI x8_1],vB true]) rfl (As ((rfl:_=Sum74.v s).trans (show Sum74.v s=Value.iface 110 (vA #[vI x7_0,vI x8_1])from by rw [a];rfl)) rfl) ?_
  refine rn 3 rfl<|rA rfl fun h=>ry [0] rfl<|AZ rfl<|Ai true rfl (fun _=> ?_) (fun h_=>nomatch h_)
  refine AY [0] rfl ?_
  cases c
  exact aR eE2
 ·replace c:=Sum74.on_t112 a c
  refine r_W (vT #[vA #[vI 0,vI 0],vB false]) rfl (As ((rfl:_=Sum74.v s).trans (show Sum74.v s=Value.iface 112 (vA #[])from by rw [a];rfl)) rfl) ?_
  refine rn 3 rfl<|rA rfl fun f=>ry [0] rfl<|d _ _ ?_
  refine AZ rfl<|Ai false rfl (fun h_=>nomatch h_) (fun _=> ?_)
  refine Ac<|e _ _ ?_
  refine Ae fun g b=>Aa<|rn 1 rfl<|r_W (vT #[vA #[vI 0,vI 0],vB false]) rfl (As ((rfl:_=Sum74.v s).trans (show Sum74.v s=Value.iface 112 (vA #[])from by rw [a];rfl)) rfl) ?_
  refine rn 3 rfl<|rA rfl fun h=>ry [0] rfl<|AZ rfl<|Ai false rfl (fun h_=>nomatch h_) (fun _=> ?_)
  refine Ac<|b _ _ ?_
  refine AZ rfl ?_
  cases c
  exact aR eE2
 ·replace c:=Sum74.on_t140 a c
  refine r_W (vT #[vA #[vI 0,vI 0],vB false]) rfl (As ((rfl:_=Sum74.v s).trans (show Sum74.v s=Value.iface 140 (vA #[vI x9_0,vI x10_1,vI x11_2])from by rw [a];rfl)) rfl) ?_
  refine rn 3 rfl<|rA rfl fun f=>ry [0] rfl<|d _ _ ?_
  refine AZ rfl<|Ai false rfl (fun h_=>nomatch h_) (fun _=> ?_)
  refine Ac<|e _ _ ?_
  refine Ae fun g b=>Aa<|rn 1 rfl<|r_W (vT #[vA #[vI 0,vI 0],vB false]) rfl (As ((rfl:_=Sum74.v s).trans (show Sum74.v s=Value.iface 140 (vA #[vI x9_0,vI x10_1,vI x11_2])from by rw [a];rfl)) rfl) ?_
  refine rn 3 rfl<|rA rfl fun h=>ry [0] rfl<|AZ rfl<|Ai false rfl (fun h_=>nomatch h_) (fun _=> ?_)
  refine Ac<|b _ _ ?_
  refine AZ rfl ?_
  cases c
  exact aR eE2
 ·replace c:=Sum74.on_t142 a c
  refine r_W (vT #[vA #[vI 0,vI 0],vB false]) rfl (As ((rfl:_=Sum74.v s).trans (show Sum74.v s=Value.iface 142 (vA #[vI x12_0,vI x13_1])from by rw [a];rfl)) rfl) ?_
  refine rn 3 rfl<|rA rfl fun f=>ry [0] rfl<|d _ _ ?_
  refine AZ rfl<|Ai false rfl (fun h_=>nomatch h_) (fun _=> ?_)
  refine Ac<|e _ _ ?_
  refine Ae fun g b=>Aa<|rn 1 rfl<|r_W (vT #[vA #[vI 0,vI 0],vB false]) rfl (As ((rfl:_=Sum74.v s).trans (show Sum74.v s=Value.iface 142 (vA #[vI x12_0,vI x13_1])from by rw [a];rfl)) rfl) ?_
  refine rn 3 rfl<|rA rfl fun h=>ry [0] rfl<|AZ rfl<|Ai false rfl (fun h_=>nomatch h_) (fun _=> ?_)
  refine Ac<|b _ _ ?_
  refine AZ rfl ?_
  cases c
  exact aR eE2
 ·replace c:=Sum74.on_t145 a c
  refine r_W (vT #[vA #[vI 0,vI 0],vB false]) rfl (As ((rfl:_=Sum74.v s).trans (show Sum74.v s=Value.iface 145 (vA #[vI x14_0,vI x15_1,vI x16_2])from by rw [a];rfl)) rfl) ?_
  refine rn 3 rfl<|rA rfl fun f=>ry [0] rfl<|d _ _ ?_
  refine AZ rfl<|Ai false rfl (fun h_=>nomatch h_) (fun _=> ?_)
  refine Ac<|e _ _ ?_
  refine Ae fun g b=>Aa<|rn 1 rfl<|r_W (vT #[vA #[vI 0,vI 0],vB false]) rfl (As ((rfl:_=Sum74.v s).trans (show Sum74.v s=Value.iface 145 (vA #[vI x14_0,vI x15_1,vI x16_2])from by rw [a];rfl)) rfl) ?_
  refine rn 3 rfl<|rA rfl fun h=>ry [0] rfl<|AZ rfl<|Ai false rfl (fun h_=>nomatch h_) (fun _=> ?_)
  refine Ac<|b _ _ ?_
  refine AZ rfl ?_
  cases c
  exact aR eE2
 ·replace c:=Sum74.on_t209 a c
  refine r_W (vT #[vA #[vI 0,vI 0],vB false]) rfl (As ((rfl:_=Sum74.v s).trans (show Sum74.v s=Value.iface 209 (vA #[vI x17_0,U (hi x18_1),U (lo x18_1)])from by rw [a];rfl)) rfl) ?_
  refine rn 3 rfl<|rA rfl fun f=>ry [0] rfl<|d _ _ ?_
  refine AZ rfl<|Ai false rfl (fun h_=>nomatch h_) (fun _=> ?_)
  refine Ac<|e _ _ ?_
  refine Ae fun g b=>Aa<|rn 1 rfl<|r_W (vT #[vA #[vI 0,vI 0],vB false]) rfl (As ((rfl:_=Sum74.v s).trans (show Sum74.v s=Value.iface 209 (vA #[vI x17_0,U (hi x18_1),U (lo x18_1)])from by rw [a];rfl)) rfl) ?_
  refine rn 3 rfl<|rA rfl fun h=>ry [0] rfl<|AZ rfl<|Ai false rfl (fun h_=>nomatch h_) (fun _=> ?_)
  refine Ac<|b _ _ ?_
  refine AZ rfl ?_
  cases c
  exact aR eE2
 ·replace c:=Sum74.on_t210 a c
  refine r_W (vT #[vA #[vI 0,vI 0],vB false]) rfl (As ((rfl:_=Sum74.v s).trans (show Sum74.v s=Value.iface 210 (vA #[vI x19_0,vI x20_1])from by rw [a];rfl)) rfl) ?_
  refine rn 3 rfl<|rA rfl fun f=>ry [0] rfl<|d _ _ ?_
  refine AZ rfl<|Ai false rfl (fun h_=>nomatch h_) (fun _=> ?_)
  refine Ac<|e _ _ ?_
  refine Ae fun g b=>Aa<|rn 1 rfl<|r_W (vT #[vA #[vI 0,vI 0],vB false]) rfl (As ((rfl:_=Sum74.v s).trans (show Sum74.v s=Value.iface 210 (vA #[vI x19_0,vI x20_1])from by rw [a];rfl)) rfl) ?_
  refine rn 3 rfl<|rA rfl fun h=>ry [0] rfl<|AZ rfl<|Ai false rfl (fun h_=>nomatch h_) (fun _=> ?_)
  refine Ac<|b _ _ ?_
  refine AZ rfl ?_
  cases c
  exact aR eE2
 ·replace c:=Sum74.on_t211 a c
  refine r_W (vT #[vA #[vI 0,vI 0],vB false]) rfl (As ((rfl:_=Sum74.v s).trans (show Sum74.v s=Value.iface 211 (vA #[vI x21_0,vI x22_1])from by rw [a];rfl)) rfl) ?_
  refine rn 3 rfl<|rA rfl fun f=>ry [0] rfl<|d _ _ ?_
  refine AZ rfl<|Ai false rfl (fun h_=>nomatch h_) (fun _=> ?_)
  refine Ac<|e _ _ ?_
  refine Ae fun g b=>Aa<|rn 1 rfl<|r_W (vT #[vA #[vI 0,vI 0],vB false]) rfl (As ((rfl:_=Sum74.v s).trans (show Sum74.v s=Value.iface 211 (vA #[vI x21_0,vI x22_1])from by rw [a];rfl)) rfl) ?_
  refine rn 3 rfl<|rA rfl fun h=>ry [0] rfl<|AZ rfl<|Ai false rfl (fun h_=>nomatch h_) (fun _=> ?_)
  refine Ac<|b _ _ ?_
  refine AZ rfl ?_
  cases c
  exact aR eE2
 ·replace c:=Sum74.on_t213 a c
  refine r_W (vT #[vA #[vI 0,vI 0],vB false]) rfl (As ((rfl:_=Sum74.v s).trans (show Sum74.v s=Value.iface 213 (vA #[vI x23_0,vI x24_1])from by rw [a];rfl)) rfl) ?_
  refine rn 3 rfl<|rA rfl fun f=>ry [0] rfl<|d _ _ ?_
  refine AZ rfl<|Ai false rfl (fun h_=>nomatch h_) (fun _=> ?_)
  refine Ac<|e _ _ ?_
  refine Ae fun g b=>Aa<|rn 1 rfl<|r_W (vT #[vA #[vI 0,vI 0],vB false]) rfl (As ((rfl:_=Sum74.v s).trans (show Sum74.v s=Value.iface 213 (vA #[vI x23_0,vI x24_1])from by rw [a];rfl)) rfl) ?_
  refine rn 3 rfl<|rA rfl fun h=>ry [0] rfl<|AZ rfl<|Ai false rfl (fun h_=>nomatch h_) (fun _=> ?_)
  refine Ac<|b _ _ ?_
  refine AZ rfl ?_
  cases c
  exact aR eE2
 replace c:=Sum74.on_t215 a c
 refine r_W (vT #[vA #[vI 0,vI 0],vB false]) rfl (As ((rfl:_=Sum74.v s).trans (show Sum74.v s=Value.iface 215 (vA #[vI x25_0])from by rw [a];rfl)) rfl) ?_
 refine rn 3 rfl<|rA rfl fun f=>ry [0] rfl<|d _ _ ?_
 refine AZ rfl<|Ai false rfl (fun h_=>nomatch h_) (fun _=> ?_)
 refine Ac<|e _ _ ?_
 refine Ae fun g b=>Aa<|rn 1 rfl<|r_W (vT #[vA #[vI 0,vI 0],vB false]) rfl (As ((rfl:_=Sum74.v s).trans (show Sum74.v s=Value.iface 215 (vA #[vI x25_0])from by rw [a];rfl)) rfl) ?_
 refine rn 3 rfl<|rA rfl fun h=>ry [0] rfl<|AZ rfl<|Ai false rfl (fun h_=>nomatch h_) (fun _=> ?_)
 refine Ac<|b _ _ ?_
 refine AZ rfl ?_
 cases c
 exact aR eE2
def Lh(N:Nat)(s:Sum74):Option (Int×Bool):=(Lg N s).bind fun r3=>some (r3.1,r3.2)
theorem TO(N s r)(a:Lh N s=some r):Gives prog 59 #[Sum74.v s] (vT #[vI r.1,vB r.2]):=by
 unfold Lh at a
 refine Ao follows func59 rfl 8 rfl _ fz1 (fun b=> ?_)
 refine AZ rfl<|Aa<|rn 1 rfl<|kB a fun d c a=>rc _ (cF XI) (TN N s _ c)<|rz rfl ?_
 cases a
 exact aR eE2
end Go.Proofs.YtajdpjdejpcgnaaGreatDoor
