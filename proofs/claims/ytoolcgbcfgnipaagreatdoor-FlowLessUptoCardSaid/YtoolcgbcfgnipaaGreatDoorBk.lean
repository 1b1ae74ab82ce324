import Derived.Test.YtoolcgbcfgnipaaGreatDoorBj
namespace Go.Proofs.YtoolcgbcfgnipaaGreatDoor
open Go Go.RowKit Go.Eng _root_.Go.Proofs.Tryz
set_option linter.unusedSimpArgs false
set_option linter.unusedVariables false
set_option maxRecDepth 100000
set_option maxHeartbeats 80000000
abbrev pD(b:Nat)(x0:List UInt8)(x1:Value)(x2:Value)(x3:Value)(x4:Value)(x5:Value)(x6:Value)(x7:Value)(x8:Value)(x9:Value)(x10:Value)(x11:Value)(x12:Value)(x13:Value)(x14:Value)(x15:Int)(x16:Int)(x17:Int)(x18:Value):List Bl:=[(b,66, #[vS x0,x1,x2,x3,x4,x5,x6,x7,x8,x9,x10,x11,x12,x13,x14,vI x15,vI x16,vI x17,x18])]
abbrev kW(b:Nat)(m:Ao)(v:AD)(x:Value):List Bl:=pD b m.1 v.1 v.2.1 v.2.2.1 v.2.2.2.1 v.2.2.2.2.1 v.2.2.2.2.2.1 v.2.2.2.2.2.2.1 v.2.2.2.2.2.2.2.1 v.2.2.2.2.2.2.2.2.1 v.2.2.2.2.2.2.2.2.2.1 v.2.2.2.2.2.2.2.2.2.2.1 v.2.2.2.2.2.2.2.2.2.2.2.1 v.2.2.2.2.2.2.2.2.2.2.2.2.1 v.2.2.2.2.2.2.2.2.2.2.2.2.2 m.2.2.2.2.2.2.2.2.2.2.2.2.2.2.2.1 m.2.2.2.2.2.2.2.2.2.2.2.2.2.2.2.2.1 m.2.2.2.2.2.2.2.2.2.2.2.2.2.2.2.2.2 x
abbrev FW(b:Nat)(x0:Bool)(x1:BitVec 64):List Bl:=[(b,72, #[vB x0,U x1])]
abbrev OH(b:Nat)(x0:Int)(x1:Int):List Bl:=[(b,107, #[vI x0,vI x1])]
abbrev Qb(b:Nat)(x0:Int)(x1:Int):List Bl:=[(b,109, #[vI x0,vI x1])]
abbrev jX(b:Nat)  :List Bl:=[(b,111, #[])]
abbrev fb(b:Nat)(x0:Int)(x1:Int)(x2:Int):List Bl:=[(b,95, #[vI x0,vI x1,vI x2])]
def FC(N:Nat):Option (List Int):=(Jm N ([1]) 8).bind fun a=>some a
theorem SX(N r)(a:FC N=some r)(ro:Ro):Does prog 13 #[] ro [] (p1 (fun s_=>s_) 3 BI r):=by
 unfold FC at a
 refine Al follows func13 rfl 3 rfl _ fz0 (fun b=> ?_)
 refine AZ rfl<|Ad<|gB (Ls:=[]) 3 BI [1] (fun f c g=> ?_)
 refine kB a fun j d a=>gS (Ls:=[c]) (cF rj) (fun o w z_=>Pz N ([1]) 8 _ d z_.view f ((Ax g (Ak (Ls:=[c]) (k:=0) rfl rfl)) o w z_)) (fun h i e=> ?_)
 refine rz rfl ?_
 cases a
 refine Bb (fun l=>Hw (v0:=h) e (EH (Sub.pick [c,i] [1] rfl)) rfl (EJ rfl))
def GX(_:Nat)(s:BitVec 64)(a:BitVec 64):Option (BitVec 64):=some (s&&&a)
theorem Px(N s t' r)(b:GX N s t'=some r):Gives prog 17 #[U s,U t'] (U r):=by
 unfold GX at b
 refine Av follows func17 rfl 8 rfl _ fz2 (fun a=> ?_)
 refine AZ rfl<|Ad<|rn 2 rfl<|r_X (U (s&&&t')) rfl (VW s t') rfl<|rz rfl ?_
 cases b
 exact aR eE1
def BY(b:List (Bool×BitVec 64))(a:Int)(c:BitVec 64):Option (List (Bool×BitVec 64)):=ck (0≤a∧a<(b.length:Int)) (some ((b).set (a.toNat) (true,c)))
def AK(N:Nat)(_:Ao)(b:List (Bool×BitVec 64))(a:Int)(s:BitVec 64):Option (List (Bool×BitVec 64)):=ck (0≤a∧a<(b.length:Int)) (if((b[a.toNat]!).1)=true then ck (0≤a∧a<(b.length:Int)) ((GX N s ((b[a.toNat]!).2)).bind fun c=>BY b a c)else BY b a s)
theorem Hg(N w_0 w_1 at' s r)(a:AK N w_0 w_1 at' s=some r)(ro:Ro)(w_0v:AD)(_hw_0:Aa1 ro w_0v w_0)(w_1v:Value)(Sw_1:List Bl)(hw_1:Sl 72 MA w_1v w_1 Sw_1):Does prog 15 #[vA #[vS w_0.1,w_0v.1,w_0v.2.1,w_0v.2.2.1,w_0v.2.2.2.1,w_0v.2.2.2.2.1,w_0v.2.2.2.2.2.1,w_0v.2.2.2.2.2.2.1,w_0v.2.2.2.2.2.2.2.1,w_0v.2.2.2.2.2.2.2.2.1,w_0v.2.2.2.2.2.2.2.2.2.1,w_0v.2.2.2.2.2.2.2.2.2.2.1,w_0v.2.2.2.2.2.2.2.2.2.2.2.1,w_0v.2.2.2.2.2.2.2.2.2.2.2.2.1,w_0v.2.2.2.2.2.2.2.2.2.2.2.2.2,vI w_0.2.2.2.2.2.2.2.2.2.2.2.2.2.2.2.1,vI w_0.2.2.2.2.2.2.2.2.2.2.2.2.2.2.2.2.1,vI w_0.2.2.2.2.2.2.2.2.2.2.2.2.2.2.2.2.2,w_1v],vI at',U s] ro (List.flatten [Sw_1]) (pO (List.flatten [Sw_1]) (oI 72 MA w_1v r (oE (vT #[]) []))):=by
 unfold AK at a
 refine Eg follows func15 rfl 26 rfl _ fz3 (fun _ _ h_ _=>h_) (fun h=> ?_)
 refine Ad<|rA rfl fun c=>Af<|Cb (fun tt ll=> ∃(b:BitVec 64),(BY w_1 at' b=some r)∧Is [(1,vI at'),(2,U b),(3,vP c 0)] (List.flatten [(kW c w_0 w_0v w_1v),Sw_1]) tt ll) ?_ ?_
 ·refine Ad<|rm 3 [0] rfl<|kC a fun d a=>rI (Sl.shp hw_1) d rfl<|rF (Sl.shp hw_1) (Be d) rfl ?_
  refine rE (Ax hw_1 (Ak (Ls:=[(kW c w_0 w_0v w_1v),Sw_1]) (k:=1) rfl rfl)) d 0 rfl<|Af ?_
  refine aB a rfl (fun i a=> ?_) (fun i a=> ?_)
  ·refine Ag<|rm 4 [0] rfl<|kC a fun e a=>rI (Sl.shp hw_1) e rfl<|rF (Sl.shp hw_1) (Be e) rfl ?_
   refine rE (Ax hw_1 (Ak (Ls:=[(kW c w_0 w_0v w_1v),Sw_1]) (k:=1) rfl rfl)) e 1 rfl<|kB a fun j f a=>rc _ (cF fO) (Px N s ((w_1[at'.toNat]!).2) _ f)<|rz rfl<|fg _ (Sub.pick [(kW c w_0 w_0v w_1v),Sw_1] [0,1] rfl) ?_
   exact⟨j,a,Ah rfl rfl⟩
  refine Ab<|fg _ (Sub.pick [(kW c w_0 w_0v w_1v),Sw_1] [0,1] rfl) ?_
  exact⟨s,a,Ah rfl rfl⟩
 clear a;rintro t l ⟨b,a,⟨T,rfl⟩,rfl⟩
 unfold BY at a
 refine Ag<|r_V (vP c 18) rfl<|rl w_1v 0<|r_R [vI at',U b] rfl<|r_W (vA #[vB true,U b]) rfl (Ap rfl rfl rfl rfl)<|kC a fun g a=>rI (Sl.shp hw_1) g rfl ?_
 refine Rb (Ls:=[(kW c w_0 w_0v w_1v),Sw_1]) 1 (En:=MA) (w_1[at'.toNat]!) (true,b) (at'.toNat) 0 rfl rfl rfl hw_1 (Dc g) rfl rfl rfl (IP rfl) rfl (fun m n=> ?_)
 refine Af ?_
 cases a
 refine Vy (v0:=vT #[]) (O:=[m]) rfl (Sub.pick [(kW c w_0 w_0v w_1v),m] [1] rfl) ⟨m,_,n,⟨rfl,rfl⟩,rfl⟩
def Km(a:Int)(b:Bool):Option (BitVec 64):=if b=true then some (0#64)else ck ((0:Int)≤a) (some (1#64<<<a.toNat))
def JK(_:Nat)(a:Int):Option (BitVec 64):=if a<0 then Km a true else Km a (decide (a≥64))
theorem Qj(N slot r)(a:JK N slot=some r):Gives prog 19 #[vI slot] (U r):=by
 unfold JK at a
 refine Av follows func19 rfl 11 rfl _ fz1 (fun c=> ?_)
 refine AZ rfl<|Aa fun i d=>Aa fun j e=>Ag<|rn 3 rfl<|AG 3 8 [(0,vI slot)] vB (fun b_=>Km slot b_=some r) (fun k a T=> ?_) (fun h=> ?_)
 ·unfold Km at a
  refine Af<|e _ _ ?_
  refine aB a rfl (fun f a=> ?_) (fun f a=> ?_)
  ·refine AZ rfl ?_
   cases a
   exact aR eE1
  refine Ab<|d _ _ ?_
  refine Ad<|rn 1 rfl<|kC a fun g a=>r_W (U (1#64<<<slot.toNat)) rfl (pR (x:=1#64) rfl rfl g)<|rz rfl ?_
  cases a
  exact aR eE1
 rcases b:(decide (slot<0))with _|_
 ·replace a:=iF b a
  refine rn 3 rfl ?_
  exact h _ _ a rfl rfl
 replace a:=iD b a
 refine rn 3 rfl ?_
 exact h _ _ a rfl rfl
def Cx(N:Nat)(s:BitVec 64)(a:Int):Option (BitVec 64):=(JK N a).bind fun b=>some (s|||b)
theorem Mz(N s slot r)(a:Cx N s slot=some r):Gives prog 73 #[U s,vI slot] (U r):=by
 unfold Cx at a
 refine Av follows func73 rfl 9 rfl _ fz2 (fun b=> ?_)
 refine AZ rfl<|Ad<|rn 2 rfl<|kB a fun d c a=>rc _ (cF Zw) (Qj N slot _ c)<|r_X (U (s|||d)) rfl (vC s d) rfl<|rz rfl ?_
 cases a
 exact aR eE1
def Ed(N:Nat)(s:BitVec 64)(a:Int):Option Bool:=(JK N a).bind fun b=>some ((s&&&b) !=(0#64))
theorem Nr(N s slot r)(a:Ed N s slot=some r):Gives prog 10 #[U s,vI slot] (vB r):=by
 unfold Ed at a
 refine Av follows func10 rfl 10 rfl _ fz2 (fun b=> ?_)
 refine AZ rfl<|Ad<|rn 2 rfl<|kB a fun c d a=>rc _ (cF Zw) (Qj N slot _ d)<|r_X (U (s&&&c)) rfl (VW s c) rfl<|r_X (vB ((s&&&c) !=(0#64))) rfl (vX (s&&&c) (0#64)) rfl<|rz rfl ?_
 cases a
 exact aR eE1
def BA(N:Nat)(s:BitVec 64)(a:Int):Option (BitVec 64):=(JK N a).bind fun b=>some (s&&&~~~b)
theorem KK(N s slot r)(a:BA N s slot=some r):Gives prog 30 #[U s,vI slot] (U r):=by
 unfold BA at a
 refine Av follows func30 rfl 9 rfl _ fz2 (fun b=> ?_)
 refine AZ rfl<|Ad<|rn 2 rfl<|kB a fun d c a=>rc _ (cF Zw) (Qj N slot _ c)<|r_X (U (s&&&~~~d)) rfl (oc s d) rfl<|rz rfl ?_
 cases a
 exact aR eE1
def Mh(N:Nat)(b:Int)(a:Int)(s:BitVec 64):Option (BitVec 64):=if b=25 then(Cx N s a).bind fun d=>some d else if b=26 then(BA N s a).bind fun c=>some c else some s
theorem WL(N x_0 x_1 s r)(a:Mh N x_0 x_1 s=some r):Gives prog 70 #[vA #[vI x_0,vI x_1],U s] (U r):=by
 unfold Mh at a
 refine Av follows func70 rfl 20 rfl _ fz2 (fun d=> ?_)
 refine Ad<|rA rfl fun i=>rz rfl<|Aa fun j e=>AY [0] rfl<|Ai<|AZ rfl<|aE a rfl (fun f a=> ?_) (fun f a=> ?_)
 ·refine Ad<|rm 3 [0] rfl<|kB a fun k g a=>rc _ (cF Zq) (Mz N s x_1 _ g)<|rz rfl ?_
  cases a
  exact aR eE1
 refine AZ rfl<|aE a rfl (fun b a=> ?_) (fun b a=> ?_)
 ·refine Ad<|rm 3 [0] rfl<|kB a fun h c a=>rc _ (cF Zv) (KK N s x_1 _ c)<|rz rfl ?_
  cases a
  exact aR eE1
 refine Ab<|e _ _ ?_
 refine AZ rfl ?_
 cases a
 exact aR eE1
def JL(_:Nat)(b:Int)(_:Int)(a:Int):Option Int:=if b=28 then ck (R64 (0 - a)) (some (0 - a))else some a
theorem dO(N x_0 x_1 x_2 r)(a:JL N x_0 x_1 x_2=some r):Gives prog 72 #[vA #[vI x_0,vI x_1,vI x_2]] (vI r):=by
 unfold JL at a
 refine Av follows func72 rfl 11 rfl _ fz1 (fun b=> ?_)
 refine Ad<|rA rfl fun f=>rz rfl<|Aa fun g c=>AY [0] rfl<|aE a rfl (fun d a=> ?_) (fun d a=> ?_)
 ·refine Ad<|rm 2 [0] rfl<|kC a fun e a=>rX e rfl<|rz rfl ?_
  cases a
  exact aR eE1
 refine Ab<|c _ _ ?_
 refine AY [0] rfl ?_
 cases a
 exact aR eE1
def GY(N:Nat)(f:Int×Int×Bool)(b:Int)(a:BitVec 64→Int→Option (BitVec 64))(c:BitVec 64)(e:Bool):Option (BitVec 64):=if e=true then ck (R64 (f.1+b)) ((Cx N c (f.1+b)).bind fun d=>ck (R64 (b+1)) (a d (b+1)))else ck (R64 (b+1)) (a c (b+1))
def GZ(N:Nat)(n:Int)(s:BitVec 64)(c:Int×Int×Bool)(b:Int)(a:BitVec 64→Int→Option (BitVec 64))(d:BitVec 64)(e:Bool):Option (BitVec 64):=if e=true then ck ((R64 (c.1+(b - max (-4) (min n 4))))) ((Ed N s (c.1+(b - max (-4) (min n 4)))).bind fun f=>GY N c b a d f)else GY N c b a d false
def Ba(N:Nat)(n:Int)(s:BitVec 64)(c:Int×Int×Bool):Nat→BitVec 64→Int→Option (BitVec 64)
  |0,_,_=>none
  |e+1,b,a=>if a<c.2.1 then ck (R64 (c.1+a)) ((BA N b (c.1+a)).bind fun d=>ck (R64 (a - max (-4) (min n 4))) (if((a - max (-4) (min n 4)):Int)≥0 then GZ N n s c a (Ba N n s c e) d (decide (((a - max (-4) (min n 4)):Int)<c.2.1))else GZ N n s c a (Ba N n s c e) d false))else some b
def GO(N:Nat)(m:Ao)(a:Int)(n:Int)(s:BitVec 64):Option (BitVec 64):=(FY N m a).bind fun b=>if b.2.2=true then Ba N n s b N s 0 else some s
theorem Vq(N m inst n s r)(a:GO N m inst n s=some r)(ro)(mv:AD)(hm:Aa1 ro mv m):Does prog 71 #[vA (Ac m mv),vI inst,vI n,U s] ro [] (pV (U r)):=by
 unfold GO at a
 refine Al follows func71 rfl 62 rfl _ fz4 (fun H=> ?_)
 refine Ad<|rA rfl fun V=>rz rfl<|Ad<|rm 2 [0] rfl<|kB a fun e I a=>gV _ (cF Zr) (fun o w z_=>Nk N m inst _ I z_.view mv (Aa1.mono z_.ro_cell hm))<|rz rfl<|Aa fun W J=>AZ rfl<|Bf _ rfl (fun j=> ?_) (fun j=> ?_)
 ·replace a:=ifn (Bool.eq_false_iff.1 (Da j)) a
  refine AZ rfl ?_
  cases a
  exact aR eV1
 replace a:=ifp (Db j) a
 refine Ab<|J _ _ ?_
 refine Ad<|rn 1 rfl<|r_W (vI (min n 4)) rfl (tR rfl rfl)<|r_W (vI (max (-4) (min n 4))) rfl (kz rfl rfl)<|rz rfl<|AZ rfl<|Aa fun M k=>AZ rfl<|Ai<|Bw [] (Sub.of (suC _ suN))<|AH (fun tt ll nn=> ∃(d:Nat) (c:BitVec 64) (b:Int),(Ba N n s e d c b=some r)∧Is [(2,vI (max (-4) (min n 4))),(3,U s),(9,vI e.1),(10,vI e.2.1),(12,U c),(29,vI e.2.1),(30,vI b)] [] tt ll∧nn=d+1) (N+1) ?_ ?_
 ·exact⟨N,s,0,a,Ah rfl rfl,rfl⟩
 clear a;rintro t l _ ⟨d,c,b,a,⟨⟨T,rfl⟩,rfl⟩,rfl⟩
 rcases d with _|d
 ·exact absurd a (by simp [Ba])
 rw [Ba] at a
 refine AZ rfl<|Aa fun O p=>aD a rfl (fun q a=> ?_) (fun q a=> ?_)
 ·refine Ab<|p _ _ ?_
  refine Aa fun P g=>Ai<|AZ rfl<|Ad<|rn 3 rfl<|kC a fun u a=>rX u rfl<|kB a fun f v a=>rc _ (cF Zv) (KK N c (e.1+b) _ v)<|rz rfl<|Ad<|rn 2 rfl<|kC a fun x a=>rX x rfl<|rz rfl<|Aa fun Q y=>Ag<|rn 3 rfl<|AG 4 47 [(2,vI (max (-4) (min n 4))),(3,U s),(9,vI e.1),(10,vI e.2.1),(12,U f),(13,vI b),(14,vI (b - max (-4) (min n 4))),(29,vI e.2.1),(30,vI b)] vB (fun b_=>GZ N n s e b (Ba N n s e d) f b_=some r) (fun K a T=> ?_) (fun z=> ?_)
  ·unfold GZ at a
   refine rn 1 rfl<|AG 6 54 [(2,vI (max (-4) (min n 4))),(3,U s),(9,vI e.1),(10,vI e.2.1),(12,U f),(13,vI b),(29,vI e.2.1),(30,vI b)] vB (fun b_=>GY N e b (Ba N n s e d) f b_=some r) (fun R a T=> ?_) (fun z=> ?_)
   ·unfold GY at a
    refine Af<|y _ _ ?_
    refine aB a rfl (fun A a=> ?_) (fun A a=> ?_)
    ·refine Ag<|rn 3 rfl<|kC a fun B a=>rX B rfl<|kB a fun L C a=>rc _ (cF Zq) (Mz N f (e.1+b) _ C)<|rz rfl<|g _ _ ?_
     refine Ag<|kC a fun D a=>rX D rfl<|rz rfl<|fg _ (Sub.of suN) ?_
     exact⟨d+1,by omega,d,L,(b+1),a,Ah rfl rfl,rfl⟩
    refine Ab<|g _ _ ?_
    refine Ag<|kC a fun E a=>rX E rfl<|rz rfl<|fg _ (Sub.of suN) ?_
    exact⟨d+1,by omega,d,f,(b+1),a,Ah rfl rfl,rfl⟩
   rcases h:K with _|_
   ·replace a:=iB h a
    refine rn 6 rfl ?_
    exact z _ _ a rfl rfl
   replace a:=ifp h a
   refine rn 3 rfl<|r_y rfl<|kC a fun F a=>rX F rfl<|r_y rfl<|kB a fun S G a=>rc _ (cF Zy) (Nr N s (e.1+(b - max (-4) (min n 4))) _ G)<|rn 1 rfl ?_
   exact z _ _ a rfl rfl
  rcases i:(decide (((b - max (-4) (min n 4)):Int)≥0))with _|_
  ·replace a:=iF i a
   refine rn 4 rfl ?_
   exact z _ _ a rfl rfl
  replace a:=iD i a
  refine rn 4 rfl ?_
  exact z _ _ a rfl rfl
 refine AI<|k _ _ ?_
 refine AZ rfl ?_
 cases a
 exact aR eV1
def GA(N:Nat)(m:Ao)(x:Aa0)(s:BitVec 64):Option ((BitVec 64)×Int):=Aa0.on x (some (s,0)) (fun _ _=>some (s,0)) (fun g _=>(Cx N s g).bind fun k=>some (k,0)) (some (s,0)) (fun _ e _=>(Ed N s e).bind fun j=>if j=true then some (s,0)else some (0#64,11)) (fun d b=>(Mh N d b s).bind fun i=>some (i,0)) (fun f a c=>(JL N f a c).bind fun l=>(GO N m a l s).bind fun h=>some (h,0)) (fun _ _=>some (s,0)) (fun _ _=>some (s,0)) (fun _ _=>some (s,0)) (fun _ _=>some (s,0)) (fun _=>some (s,0))
theorem SW(N m x s r)(b:GA N m x s=some r)(ro)(mv:AD)(hm:Aa1 ro mv m):Does prog 29 #[vA (Ac m mv),Aa0.v x,U s] ro [] (pV (vT #[U r.1,vI r.2])):=by
 unfold GA at b
 refine Al follows func29 rfl 45 rfl _ fz3 (fun p=> ?_)
 refine Ad<|rA rfl fun F=>rz rfl<|Aa fun G d=>AZ rfl<|Ai<|Aa fun H c=>Ag ?_
 rcases Aa0.cases x with a|⟨x7_0,x8_1,a⟩|⟨x9_0,x10_1,a⟩|a|⟨x11_0,x12_1,x13_2,a⟩|⟨x14_0,x15_1,a⟩|⟨x16_0,x17_1,x18_2,a⟩|⟨x19_0,x20_1,a⟩|⟨x21_0,x22_1,a⟩|⟨x23_0,x24_1,a⟩|⟨x25_0,x26_1,a⟩|⟨x27_0,a⟩
 ·replace b:=Aa0.on_nil a b
  refine r_W (vT #[vA #[vI 0,vI 0,vI 0],vB false]) rfl (AC ((rfl:_=Aa0.v x).trans (show Aa0.v x=Value.nilIface from by rw [a];rfl)) rfl) ?_
  refine rz rfl<|c _ _ ?_
  refine BZ rfl ?_
  refine Ad<|r_W (vT #[vA #[vI 0,vI 0],vB false]) rfl (AC ((rfl:_=Aa0.v x).trans (show Aa0.v x=Value.nilIface from by rw [a];rfl)) rfl) ?_
  refine rz rfl<|BZ rfl ?_
  refine Ad<|r_W (vT #[vA #[vI 0,vI 0,vI 0],vB false]) rfl (AC ((rfl:_=Aa0.v x).trans (show Aa0.v x=Value.nilIface from by rw [a];rfl)) rfl) ?_
  refine rz rfl<|BZ rfl ?_
  refine Ad<|r_W (vT #[vA #[vI 0,vI 0],vB false]) rfl (AC ((rfl:_=Aa0.v x).trans (show Aa0.v x=Value.nilIface from by rw [a];rfl)) rfl) ?_
  refine rz rfl<|BZ rfl ?_
  refine Ab<|d _ _ ?_
  refine AZ rfl ?_
  cases b
  exact aR eV2
 ·replace b:=Aa0.on_t107 a b
  refine r_W (vT #[vA #[vI 0,vI 0,vI 0],vB false]) rfl (AC ((rfl:_=Aa0.v x).trans (show Aa0.v x=Value.iface 107 (vA #[vI x7_0,vI x8_1])from by rw [a];rfl)) rfl) ?_
  refine rz rfl<|c _ _ ?_
  refine BZ rfl ?_
  refine Ad<|r_W (vT #[vA #[vI 0,vI 0],vB false]) rfl (AC ((rfl:_=Aa0.v x).trans (show Aa0.v x=Value.iface 107 (vA #[vI x7_0,vI x8_1])from by rw [a];rfl)) rfl) ?_
  refine rz rfl<|BZ rfl ?_
  refine Ad<|r_W (vT #[vA #[vI 0,vI 0,vI 0],vB false]) rfl (AC ((rfl:_=Aa0.v x).trans (show Aa0.v x=Value.iface 107 (vA #[vI x7_0,vI x8_1])from by rw [a];rfl)) rfl) ?_
  refine rz rfl<|BZ rfl ?_
  refine Ad<|r_W (vT #[vA #[vI 0,vI 0],vB false]) rfl (AC ((rfl:_=Aa0.v x).trans (show Aa0.v x=Value.iface 107 (vA #[vI x7_0,vI x8_1])from by rw [a];rfl)) rfl) ?_
  refine rz rfl<|BZ rfl ?_
  refine Ab<|d _ _ ?_
  refine AZ rfl ?_
  cases b
  exact aR eV2
 ·replace b:=Aa0.on_t109 a b
  refine r_W (vT #[vA #[vI 0,vI 0,vI 0],vB false]) rfl (AC ((rfl:_=Aa0.v x).trans (show Aa0.v x=Value.iface 109 (vA #[vI x9_0,vI x10_1])from by rw [a];rfl)) rfl) ?_
  refine rz rfl<|c _ _ ?_
  refine BZ rfl ?_
  refine Ad<|r_W (vT #[vA #[vI 0,vI 0],vB false]) rfl (AC ((rfl:_=Aa0.v x).trans (show Aa0.v x=Value.iface 109 (vA #[vI x9_0,vI x10_1])from by rw [a];rfl)) rfl) ?_
  refine rz rfl<|BZ rfl ?_
  refine Ad<|r_W (vT #[vA #[vI 0,vI 0,vI 0],vB false]) rfl (AC ((rfl:_=Aa0.v x).trans (show Aa0.v x=Value.iface 109 (vA #[vI x9_0,vI x10_1])from by rw [a];rfl)) rfl) ?_
  refine rz rfl<|BZ rfl ?_
  refine Ad<|r_W (vT #[vA #[vI x9_0,vI x10_1],vB true]) rfl (AC ((rfl:_=Aa0.v x).trans (show Aa0.v x=Value.iface 109 (vA #[vI x9_0,vI x10_1])from by rw [a];rfl)) rfl) ?_
  refine rz rfl<|MP rfl ?_
  refine Ad<|rA rfl fun t=>ry [0] rfl<|Ad<|rm 3 [0] rfl<|kB b fun u h b=>rc _ (cF Zq) (Mz N s x9_0 _ h)<|rz rfl ?_
  cases b
  exact aR eV2
 ·replace b:=Aa0.on_t111 a b
  refine r_W (vT #[vA #[vI 0,vI 0,vI 0],vB false]) rfl (AC ((rfl:_=Aa0.v x).trans (show Aa0.v x=Value.iface 111 (vA #[])from by rw [a];rfl)) rfl) ?_
  refine rz rfl<|c _ _ ?_
  refine BZ rfl ?_
  refine Ad<|r_W (vT #[vA #[vI 0,vI 0],vB false]) rfl (AC ((rfl:_=Aa0.v x).trans (show Aa0.v x=Value.iface 111 (vA #[])from by rw [a];rfl)) rfl) ?_
  refine rz rfl<|BZ rfl ?_
  refine Ad<|r_W (vT #[vA #[vI 0,vI 0,vI 0],vB false]) rfl (AC ((rfl:_=Aa0.v x).trans (show Aa0.v x=Value.iface 111 (vA #[])from by rw [a];rfl)) rfl) ?_
  refine rz rfl<|BZ rfl ?_
  refine Ad<|r_W (vT #[vA #[vI 0,vI 0],vB false]) rfl (AC ((rfl:_=Aa0.v x).trans (show Aa0.v x=Value.iface 111 (vA #[])from by rw [a];rfl)) rfl) ?_
  refine rz rfl<|BZ rfl ?_
  refine Ab<|d _ _ ?_
  refine AZ rfl ?_
  cases b
  exact aR eV2
 ·replace b:=Aa0.on_t150 a b
  refine r_W (vT #[vA #[vI x11_0,vI x12_1,vI x13_2],vB true]) rfl (AC ((rfl:_=Aa0.v x).trans (show Aa0.v x=Value.iface 150 (vA #[vI x11_0,vI x12_1,vI x13_2])from by rw [a];rfl)) rfl) ?_
  refine rz rfl<|c _ _ ?_
  refine MP rfl ?_
  refine Ad<|rA rfl fun y=>ry [0] rfl<|Ad<|rm 3 [0] rfl<|kB b fun z i b=>rc _ (cF Zy) (Nr N s x12_1 _ i)<|rz rfl<|Bf _ rfl (fun e=> ?_) (fun e=> ?_)
  ·replace b:=ifn (Bool.eq_false_iff.1 (Da e)) b
   refine AZ rfl ?_
   cases b
   exact aR eV2
  replace b:=ifp (Db e) b
  refine Ab<|d _ _ ?_
  refine AZ rfl ?_
  cases b
  exact aR eV2
 ·replace b:=Aa0.on_t152 a b
  refine r_W (vT #[vA #[vI 0,vI 0,vI 0],vB false]) rfl (AC ((rfl:_=Aa0.v x).trans (show Aa0.v x=Value.iface 152 (vA #[vI x14_0,vI x15_1])from by rw [a];rfl)) rfl) ?_
  refine rz rfl<|c _ _ ?_
  refine BZ rfl ?_
  refine Ad<|r_W (vT #[vA #[vI x14_0,vI x15_1],vB true]) rfl (AC ((rfl:_=Aa0.v x).trans (show Aa0.v x=Value.iface 152 (vA #[vI x14_0,vI x15_1])from by rw [a];rfl)) rfl) ?_
  refine rz rfl<|MP rfl ?_
  refine Ad<|rA rfl fun A=>ry [0] rfl<|Ad<|rm 2 [0] rfl<|kB b fun B j b=>rc _ (cF qz) (WL N x14_0 x15_1 s _ j)<|rz rfl ?_
  cases b
  exact aR eV2
 ·replace b:=Aa0.on_t155 a b
  refine r_W (vT #[vA #[vI 0,vI 0,vI 0],vB false]) rfl (AC ((rfl:_=Aa0.v x).trans (show Aa0.v x=Value.iface 155 (vA #[vI x16_0,vI x17_1,vI x18_2])from by rw [a];rfl)) rfl) ?_
  refine rz rfl<|c _ _ ?_
  refine BZ rfl ?_
  refine Ad<|r_W (vT #[vA #[vI 0,vI 0],vB false]) rfl (AC ((rfl:_=Aa0.v x).trans (show Aa0.v x=Value.iface 155 (vA #[vI x16_0,vI x17_1,vI x18_2])from by rw [a];rfl)) rfl) ?_
  refine rz rfl<|BZ rfl ?_
  refine Ad<|r_W (vT #[vA #[vI x16_0,vI x17_1,vI x18_2],vB true]) rfl (AC ((rfl:_=Aa0.v x).trans (show Aa0.v x=Value.iface 155 (vA #[vI x16_0,vI x17_1,vI x18_2])from by rw [a];rfl)) rfl) ?_
  refine rz rfl<|MP rfl ?_
  refine Ad<|rA rfl fun C=>ry [0] rfl<|Aa fun D k=>BE [(some 36,false)] (conG prog [(36,fun _ _ v_ L_ U_=> ∀l,JL N x16_0 x17_1 x18_2=some l→ ∀n,GO N m x17_1 l s=some n→(pV (U n)) v_ L_ U_)]) [] (by decide+kernel) (fun I=>AQ)<|rm 4 [1,0,0] rfl<|kB b fun q f b=>rc _ (cF qx) (dO N x16_0 x17_1 x18_2 _ f)<|rn 1 rfl<|kB b fun E g b=>rg _ (cF qy) (fun o w z_=>Vq N m x17_1 q s _ g z_.view mv (Aa1.mono z_.ro_cell hm)) (fun _ _ v_ L_ U_=>⟨fun h_=>h_ _ f _ g,fun h_=>by intro _ e_;cases q1 (e_.symm.trans f);intro _ e_;cases q1 (e_.symm.trans g);exact h_⟩) ?_
  refine rz rfl<|k _ _ ?_
  cases b
  exact aR eV2
 ·replace b:=Aa0.on_t228 a b
  refine r_W (vT #[vA #[vI 0,vI 0,vI 0],vB false]) rfl (AC ((rfl:_=Aa0.v x).trans (show Aa0.v x=Value.iface 228 (vA #[vI x19_0,U (hi x20_1),U (lo x20_1)])from by rw [a];rfl)) rfl) ?_
  refine rz rfl<|c _ _ ?_
  refine BZ rfl ?_
  refine Ad<|r_W (vT #[vA #[vI 0,vI 0],vB false]) rfl (AC ((rfl:_=Aa0.v x).trans (show Aa0.v x=Value.iface 228 (vA #[vI x19_0,U (hi x20_1),U (lo x20_1)])from by rw [a];rfl)) rfl) ?_
  refine rz rfl<|BZ rfl ?_
  refine Ad<|r_W (vT #[vA #[vI 0,vI 0,vI 0],vB false]) rfl (AC ((rfl:_=Aa0.v x).trans (show Aa0.v x=Value.iface 228 (vA #[vI x19_0,U (hi x20_1),U (lo x20_1)])from by rw [a];rfl)) rfl) ?_
  refine rz rfl<|BZ rfl ?_
  refine Ad<|r_W (vT #[vA #[vI 0,vI 0],vB false]) rfl (AC ((rfl:_=Aa0.v x).trans (show Aa0.v x=Value.iface 228 (vA #[vI x19_0,U (hi x20_1),U (lo x20_1)])from by rw [a];rfl)) rfl) ?_
  refine rz rfl<|BZ rfl ?_
  refine Ab<|d _ _ ?_
  refine AZ rfl ?_
  cases b
  exact aR eV2
 ·replace b:=Aa0.on_t229 a b
  refine r_W (vT #[vA #[vI 0,vI 0,vI 0],vB false]) rfl (AC ((rfl:_=Aa0.v x).trans (show Aa0.v x=Value.iface 229 (vA #[vI x21_0,vI x22_1])from by rw [a];rfl)) rfl) ?_
  refine rz rfl<|c _ _ ?_
  refine BZ rfl ?_
  refine Ad<|r_W (vT #[vA #[vI 0,vI 0],vB false]) rfl (AC ((rfl:_=Aa0.v x).trans (show Aa0.v x=Value.iface 229 (vA #[vI x21_0,vI x22_1])from by rw [a];rfl)) rfl) ?_
  refine rz rfl<|BZ rfl ?_
  refine Ad<|r_W (vT #[vA #[vI 0,vI 0,vI 0],vB false]) rfl (AC ((rfl:_=Aa0.v x).trans (show Aa0.v x=Value.iface 229 (vA #[vI x21_0,vI x22_1])from by rw [a];rfl)) rfl) ?_
  refine rz rfl<|BZ rfl ?_
  refine Ad<|r_W (vT #[vA #[vI 0,vI 0],vB false]) rfl (AC ((rfl:_=Aa0.v x).trans (show Aa0.v x=Value.iface 229 (vA #[vI x21_0,vI x22_1])from by rw [a];rfl)) rfl) ?_
  refine rz rfl<|BZ rfl ?_
  refine Ab<|d _ _ ?_
  refine AZ rfl ?_
  cases b
  exact aR eV2
 ·replace b:=Aa0.on_t230 a b
  refine r_W (vT #[vA #[vI 0,vI 0,vI 0],vB false]) rfl (AC ((rfl:_=Aa0.v x).trans (show Aa0.v x=Value.iface 230 (vA #[vI x23_0,vI x24_1])from by rw [a];rfl)) rfl) ?_
  refine rz rfl<|c _ _ ?_
  refine BZ rfl ?_
  refine Ad<|r_W (vT #[vA #[vI 0,vI 0],vB false]) rfl (AC ((rfl:_=Aa0.v x).trans (show Aa0.v x=Value.iface 230 (vA #[vI x23_0,vI x24_1])from by rw [a];rfl)) rfl) ?_
  refine rz rfl<|BZ rfl ?_
  refine Ad<|r_W (vT #[vA #[vI 0,vI 0,vI 0],vB false]) rfl (AC ((rfl:_=Aa0.v x).trans (show Aa0.v x=Value.iface 230 (vA #[vI x23_0,vI x24_1])from by rw [a];rfl)) rfl) ?_
  refine rz rfl<|BZ rfl ?_
  refine Ad<|r_W (vT #[vA #[vI 0,vI 0],vB false]) rfl (AC ((rfl:_=Aa0.v x).trans (show Aa0.v x=Value.iface 230 (vA #[vI x23_0,vI x24_1])from by rw [a];rfl)) rfl) ?_
  refine rz rfl<|BZ rfl ?_
  refine Ab<|d _ _ ?_
  refine AZ rfl ?_
  cases b
  exact aR eV2
 ·replace b:=Aa0.on_t232 a b
  refine r_W (vT #[vA #[vI 0,vI 0,vI 0],vB false]) rfl (AC ((rfl:_=Aa0.v x).trans (show Aa0.v x=Value.iface 232 (vA #[vI x25_0,vI x26_1])from by rw [a];rfl)) rfl) ?_
  refine rz rfl<|c _ _ ?_
  refine BZ rfl ?_
  refine Ad<|r_W (vT #[vA #[vI 0,vI 0],vB false]) rfl (AC ((rfl:_=Aa0.v x).trans (show Aa0.v x=Value.iface 232 (vA #[vI x25_0,vI x26_1])from by rw [a];rfl)) rfl) ?_
  refine rz rfl<|BZ rfl ?_
  refine Ad<|r_W (vT #[vA #[vI 0,vI 0,vI 0],vB false]) rfl (AC ((rfl:_=Aa0.v x).trans (show Aa0.v x=Value.iface 232 (vA #[vI x25_0,vI x26_1])from by rw [a];rfl)) rfl) ?_
  refine rz rfl<|BZ rfl ?_
  refine Ad<|r_W (vT #[vA #[vI 0,vI 0],vB false]) rfl (AC ((rfl:_=Aa0.v x).trans (show Aa0.v x=Value.iface 232 (vA #[vI x25_0,vI x26_1])from by rw [a];rfl)) rfl) ?_
  refine rz rfl<|BZ rfl ?_
  refine Ab<|d _ _ ?_
  refine AZ rfl ?_
  cases b
  exact aR eV2
 replace b:=Aa0.on_t234 a b
 refine r_W (vT #[vA #[vI 0,vI 0,vI 0],vB false]) rfl (AC ((rfl:_=Aa0.v x).trans (show Aa0.v x=Value.iface 234 (vA #[vI x27_0])from by rw [a];rfl)) rfl) ?_
 refine rz rfl<|c _ _ ?_
 refine BZ rfl ?_
 refine Ad<|r_W (vT #[vA #[vI 0,vI 0],vB false]) rfl (AC ((rfl:_=Aa0.v x).trans (show Aa0.v x=Value.iface 234 (vA #[vI x27_0])from by rw [a];rfl)) rfl) ?_
 refine rz rfl<|BZ rfl ?_
 refine Ad<|r_W (vT #[vA #[vI 0,vI 0,vI 0],vB false]) rfl (AC ((rfl:_=Aa0.v x).trans (show Aa0.v x=Value.iface 234 (vA #[vI x27_0])from by rw [a];rfl)) rfl) ?_
 refine rz rfl<|BZ rfl ?_
 refine Ad<|r_W (vT #[vA #[vI 0,vI 0],vB false]) rfl (AC ((rfl:_=Aa0.v x).trans (show Aa0.v x=Value.iface 234 (vA #[vI x27_0])from by rw [a];rfl)) rfl) ?_
 refine rz rfl<|BZ rfl ?_
 refine Ab<|d _ _ ?_
 refine AZ rfl ?_
 cases b
 exact aR eV2
def Ar(N:Nat)(e:Ao)(d:(BitVec 64)×Int)(a:Int)(b:List (Bool×BitVec 64)):Option (Int×(List (Bool×BitVec 64))):=(AK N e b a d.1).bind fun c=>ck ((c).length=(b).length) (some (0,c))
def BH(N:Nat)(d:Ao)(a:List (Bool×BitVec 64))(b:Int)(x:Aa0):Option (Int×(List (Bool×BitVec 64))):=ck (0≤b∧b<(a.length:Int)) (if((a[b.toNat]!).1)=true then(GA N d x ((a[b.toNat]!).2)).bind fun c=>if(c.2:Int)≠0 then some (c.2,a)else ck (R64 (b+1)) (Aa0.on x (Ar N d c (b+1) a) (fun f g=>(AK N d a g c.1).bind fun e=>ck ((e).length=(a).length) (if f=31 then some (0,e)else Ar N d c (b+1) e)) (fun i h=>(BA N ((a[b.toNat]!).2) i).bind fun e=>(AK N d a h e).bind fun j=>ck ((j).length=(a).length) (Ar N d c (b+1) j)) (ck ((R64 ((a.length:Int) - 1))) (Ar N d c ((a.length:Int) - 1) a)) (fun _ _ _=>Ar N d c (b+1) a) (fun _ _=>Ar N d c (b+1) a) (fun _ _ _=>Ar N d c (b+1) a) (fun _ _=>Ar N d c (b+1) a) (fun _ _=>Ar N d c (b+1) a) (fun _ _=>Ar N d c (b+1) a) (fun _ _=>Ar N d c (b+1) a) (fun _=>Ar N d c (b+1) a))else some (0,a))
theorem PD(N w_0 w_1 at' x r)(b:BH N w_0 w_1 at' x=some r)(ro)(w_0v:AD)(hw_0:Aa1 ro w_0v w_0)(w_1v:Value)(Sw_1:List Bl)(hw_1:Sl 72 MA w_1v w_1 Sw_1):Does prog 16 #[vA #[vS w_0.1,w_0v.1,w_0v.2.1,w_0v.2.2.1,w_0v.2.2.2.1,w_0v.2.2.2.2.1,w_0v.2.2.2.2.2.1,w_0v.2.2.2.2.2.2.1,w_0v.2.2.2.2.2.2.2.1,w_0v.2.2.2.2.2.2.2.2.1,w_0v.2.2.2.2.2.2.2.2.2.1,w_0v.2.2.2.2.2.2.2.2.2.2.1,w_0v.2.2.2.2.2.2.2.2.2.2.2.1,w_0v.2.2.2.2.2.2.2.2.2.2.2.2.1,w_0v.2.2.2.2.2.2.2.2.2.2.2.2.2,vI w_0.2.2.2.2.2.2.2.2.2.2.2.2.2.2.2.1,vI w_0.2.2.2.2.2.2.2.2.2.2.2.2.2.2.2.2.1,vI w_0.2.2.2.2.2.2.2.2.2.2.2.2.2.2.2.2.2,w_1v],vI at',Aa0.v x] ro (List.flatten [Sw_1]) (pO (List.flatten [Sw_1]) (oI 72 MA w_1v r.2 (oE (vI r.1) []))):=by
 unfold BH at b
 refine Eg follows func16 rfl 71 rfl _ fz3 (fun _ _ h_ _=>h_) (fun P=> ?_)
 refine Ad<|rA rfl fun d=>rz rfl<|Ad<|rm 3 [0] rfl<|kC b fun B b=>rI (Sl.shp hw_1) B rfl ?_
 refine rE (Ax hw_1 (Ak (Ls:=[(kW d w_0 w_0v w_1v),Sw_1]) (k:=1) rfl rfl)) B 0 rfl ?_
 refine rA rfl fun f=>ry [0] rfl ?_
 refine Aa fun K6 S=>AY [0] rfl<|Bf _ rfl (fun y=> ?_) (fun y=> ?_)
 ·replace b:=ifn (Bool.eq_false_iff.1 (Da y)) b
  refine AZ rfl ?_
  cases b
  refine Bb (fun Q=>GP (v0:=vI 0) (O:=[Sw_1]) (EJ rfl) (Sub.pick [(FW f ((w_1[at'.toNat]!).1) ((w_1[at'.toNat]!).2)),(kW d w_0 w_0v w_1v),Sw_1] [2] rfl) ⟨Sw_1,_,hw_1,⟨rfl,rfl⟩,rfl⟩)
 replace b:=ifp (Db y) b
 refine Ab<|S _ _ ?_
 refine Ad<|rm 5 [1,0] rfl<|kB b fun i C b=>gV _ (cF rh) (fun o w z_=>SW N w_0 x ((w_1[at'.toNat]!).2) _ C z_.view w_0v (Aa1.mono z_.ro_cell hw_0))<|rz rfl<|Aa fun ab D=>AZ rfl<|aN b rfl (fun E b=> ?_) (fun E b=> ?_)
 ·refine AZ rfl<|GQ [(6,vI i.2)] rfl (fun T=> ?_)
  cases b
  refine Bb (fun Q=>GP (v0:=vI i.2) (O:=[Sw_1]) (EJ rfl) (Sub.pick [(FW f ((w_1[at'.toNat]!).1) ((w_1[at'.toNat]!).2)),(kW d w_0 w_0v w_1v),Sw_1] [2] rfl) ⟨Sw_1,_,hw_1,⟨rfl,rfl⟩,rfl⟩)
 refine Ab<|D _ _ ?_
 refine Ad<|rn 1 rfl<|kC b fun F b=>rX F rfl<|rz rfl ?_
 refine Cb (fun tt ll=> ∃(g:Int) (m:List (Bool×BitVec 64)),(Ar N w_0 i g m=some r)∧ ∃(e:List Bl),Sl 72 MA w_1v m e∧Is [(3,vP d 0),(8,U i.1),(10,vI g)] (List.flatten [(kW d w_0 w_0v w_1v),e]) tt ll) ?_ ?_
 ·refine AZ rfl<|GQ [(3,vP d 0),(7,vP f 0),(8,U i.1),(10,vI (at'+1)),(36,Aa0.v x)] rfl (fun T=> ?_)
  refine Ai<|Aa fun ac c=>Ag ?_
  rcases Aa0.cases x with a|⟨x29_0,x30_1,a⟩|⟨x31_0,x32_1,a⟩|a|⟨x33_0,x34_1,x35_2,a⟩|⟨x36_0,x37_1,a⟩|⟨x38_0,x39_1,x40_2,a⟩|⟨x41_0,x42_1,a⟩|⟨x43_0,x44_1,a⟩|⟨x45_0,x46_1,a⟩|⟨x47_0,x48_1,a⟩|⟨x49_0,a⟩
  ·replace b:=Aa0.on_nil a b
   refine r_W (vT #[vA #[vI 0,vI 0],vB false]) rfl (AC ((rfl:_=Aa0.v x).trans (show Aa0.v x=Value.nilIface from by rw [a];rfl)) rfl) ?_
   refine rz rfl<|c _ _ ?_
   refine BZ rfl ?_
   refine Ad<|r_W (vT #[vA #[vI 0,vI 0],vB false]) rfl (AC ((rfl:_=Aa0.v x).trans (show Aa0.v x=Value.nilIface from by rw [a];rfl)) rfl) ?_
   refine rz rfl<|BZ rfl ?_
   refine Ad<|r_W (vT #[vA #[],vB false]) rfl (AC ((rfl:_=Aa0.v x).trans (show Aa0.v x=Value.nilIface from by rw [a];rfl)) rfl) ?_
   refine rz rfl<|BZ rfl ?_
   refine Ab<|fg _ (Sub.pick [(FW f ((w_1[at'.toNat]!).1) ((w_1[at'.toNat]!).2)),(kW d w_0 w_0v w_1v),Sw_1] [1,2] rfl) ?_
   exact⟨(at'+1),w_1,b,Sw_1,hw_1,Ah rfl rfl⟩
  ·replace b:=Aa0.on_t107 a b
   refine r_W (vT #[vA #[vI x29_0,vI x30_1],vB true]) rfl (AC ((rfl:_=Aa0.v x).trans (show Aa0.v x=Value.iface 107 (vA #[vI x29_0,vI x30_1])from by rw [a];rfl)) rfl) ?_
   refine rz rfl<|c _ _ ?_
   refine MP rfl ?_
   refine Ad<|rA rfl fun n=>ry [0] rfl<|Ad ?_
   refine rm 4 [2,0] rfl<|kB b fun z h b=>kC b fun Z b=>gM (Ls:=[(OH n x29_0 x30_1),(FW f ((w_1[at'.toNat]!).1) ((w_1[at'.toNat]!).2)),(kW d w_0 w_0v w_1v),Sw_1]) (FL:=[Sw_1]) [3] (cF TX) (fun o w hn_ z_=>Hg N w_0 w_1 x30_1 i.1 _ h _ w_0v (Aa1.mono (Lf (Ls:=[(OH n x29_0 x30_1),(FW f ((w_1[at'.toNat]!).1) ((w_1[at'.toNat]!).2)),(kW d w_0 w_0v w_1v),Sw_1]) (is:=[3]) rfl z_) hw_0) w_1v Sw_1 hw_1) ?_
   rintro _ _ ⟨j,_,G,⟨rfl,rfl⟩,rfl⟩
   refine CZ (Ls:=[(OH n x29_0 x30_1),(FW f ((w_1[at'.toNat]!).1) ((w_1[at'.toNat]!).2)),(kW d w_0 w_0v w_1v),j]) (Ls':=[(OH n x29_0 x30_1),(FW f ((w_1[at'.toNat]!).1) ((w_1[at'.toNat]!).2)),(kW d w_0 w_0v w_1v),j]) [0,1,2,3] rfl rfl ?_
   refine Af<|AY [0] rfl<|aE b rfl (fun H b=> ?_) (fun H b=> ?_)
   ·refine AZ rfl ?_
    cases b
    refine Bb (fun Q=>GP (v0:=vI 0) (O:=[j]) (EJ rfl) (Sub.pick [(OH n x29_0 x30_1),(FW f ((w_1[at'.toNat]!).1) ((w_1[at'.toNat]!).2)),(kW d w_0 w_0v w_1v),j] [3] rfl) ⟨j,_,G,⟨rfl,rfl⟩,rfl⟩)
   refine Ab<|fg _ (Sub.pick [(OH n x29_0 x30_1),(FW f ((w_1[at'.toNat]!).1) ((w_1[at'.toNat]!).2)),(kW d w_0 w_0v w_1v),j] [2,3] rfl) ?_
   exact⟨(at'+1),z,b,j,G,Ah rfl rfl⟩
  ·replace b:=Aa0.on_t109 a b
   refine r_W (vT #[vA #[vI 0,vI 0],vB false]) rfl (AC ((rfl:_=Aa0.v x).trans (show Aa0.v x=Value.iface 109 (vA #[vI x31_0,vI x32_1])from by rw [a];rfl)) rfl) ?_
   refine rz rfl<|c _ _ ?_
   refine BZ rfl ?_
   refine Ad<|r_W (vT #[vA #[vI x31_0,vI x32_1],vB true]) rfl (AC ((rfl:_=Aa0.v x).trans (show Aa0.v x=Value.iface 109 (vA #[vI x31_0,vI x32_1])from by rw [a];rfl)) rfl) ?_
   refine rz rfl<|MP rfl ?_
   refine Ad<|rA rfl fun p=>ry [0] rfl ?_
   refine BE [(some 59,true)] (conG prog [(59,fun _ _ v_ L_ U_=> ∀I,BA N ((w_1[at'.toNat]!).2) x31_0=some I→ ∀J,AK N w_0 w_1 x32_1 I=some J→(pO (List.flatten [Sw_1]) (oI 72 MA w_1v J (oE (vT #[]) []))) v_ L_ U_)]) [] (by decide+kernel) (fun Q=>AQ) ?_
   refine rm 6 [2,0,1] rfl ?_
   refine rm 1 [0] rfl<|kB b fun z h b=>rc _ (cF Zv) (KK N ((w_1[at'.toNat]!).2) x31_0 _ h)<|kB b fun V q b=>kC b fun K b=>gt (Ls:=[(Qb p x31_0 x32_1),(FW f ((w_1[at'.toNat]!).1) ((w_1[at'.toNat]!).2)),(kW d w_0 w_0v w_1v),Sw_1]) (FL:=[Sw_1]) [3] _ (some 59) 15 _ rfl rfl rfl rfl rfl (cF TX) (fun o w hn_ z_=>Hg N w_0 w_1 x32_1 z _ q _ w_0v (Aa1.mono (Lf (Ls:=[(Qb p x31_0 x32_1),(FW f ((w_1[at'.toNat]!).1) ((w_1[at'.toNat]!).2)),(kW d w_0 w_0v w_1v),Sw_1]) (is:=[3]) rfl z_) hw_0) w_1v Sw_1 hw_1) (fun _ _ v_ L_ U_=>⟨fun h_=>h_ _ h _ q,fun h_=>by intro _ e_;cases q1 (e_.symm.trans h);intro _ e_;cases q1 (e_.symm.trans q);exact h_⟩) (fun _=>(Ab8.sub (R:=(Sw_1++ [])) (sa hw_1 K (Tl rfl)) (Sub.pick [Sw_1] [0] rfl))) ?_
   rintro _ _ ⟨u,_,W,⟨rfl,rfl⟩,rfl⟩
   refine CZ (Ls:=[(Qb p x31_0 x32_1),(FW f ((w_1[at'.toNat]!).1) ((w_1[at'.toNat]!).2)),(kW d w_0 w_0v w_1v),u]) (Ls':=[(Qb p x31_0 x32_1),(FW f ((w_1[at'.toNat]!).1) ((w_1[at'.toNat]!).2)),(kW d w_0 w_0v w_1v),u]) [0,1,2,3] rfl rfl ?_
   refine Af<|fg _ (Sub.pick [(Qb p x31_0 x32_1),(FW f ((w_1[at'.toNat]!).1) ((w_1[at'.toNat]!).2)),(kW d w_0 w_0v w_1v),u] [2,3] rfl) ?_
   exact⟨(at'+1),V,b,u,W,Ah rfl rfl⟩
  ·replace b:=Aa0.on_t111 a b
   refine r_W (vT #[vA #[vI 0,vI 0],vB false]) rfl (AC ((rfl:_=Aa0.v x).trans (show Aa0.v x=Value.iface 111 (vA #[])from by rw [a];rfl)) rfl) ?_
   refine rz rfl<|c _ _ ?_
   refine BZ rfl ?_
   refine Ad<|r_W (vT #[vA #[vI 0,vI 0],vB false]) rfl (AC ((rfl:_=Aa0.v x).trans (show Aa0.v x=Value.iface 111 (vA #[])from by rw [a];rfl)) rfl) ?_
   refine rz rfl<|BZ rfl ?_
   refine Ad<|r_W (vT #[vA #[],vB true]) rfl (AC ((rfl:_=Aa0.v x).trans (show Aa0.v x=Value.iface 111 (vA #[])from by rw [a];rfl)) rfl) ?_
   refine rz rfl<|MP rfl ?_
   refine Ad<|rA rfl fun X=>ry [0] rfl<|Ag<|rn 1 rfl ?_
   refine rm 1 [2] rfl<|rL (Sl.shp hw_1) rfl<|kC b fun L b=>rX L rfl<|rz rfl ?_
   refine fg _ (Sub.pick [(jX X),(FW f ((w_1[at'.toNat]!).1) ((w_1[at'.toNat]!).2)),(kW d w_0 w_0v w_1v),Sw_1] [2,3] rfl) ?_
   exact⟨((w_1.length:Int) - 1),w_1,b,Sw_1,hw_1,Ah rfl rfl⟩
  ·replace b:=Aa0.on_t150 a b
   refine r_W (vT #[vA #[vI 0,vI 0],vB false]) rfl (AC ((rfl:_=Aa0.v x).trans (show Aa0.v x=Value.iface 150 (vA #[vI x33_0,vI x34_1,vI x35_2])from by rw [a];rfl)) rfl) ?_
   refine rz rfl<|c _ _ ?_
   refine BZ rfl ?_
   refine Ad<|r_W (vT #[vA #[vI 0,vI 0],vB false]) rfl (AC ((rfl:_=Aa0.v x).trans (show Aa0.v x=Value.iface 150 (vA #[vI x33_0,vI x34_1,vI x35_2])from by rw [a];rfl)) rfl) ?_
   refine rz rfl<|BZ rfl ?_
   refine Ad<|r_W (vT #[vA #[],vB false]) rfl (AC ((rfl:_=Aa0.v x).trans (show Aa0.v x=Value.iface 150 (vA #[vI x33_0,vI x34_1,vI x35_2])from by rw [a];rfl)) rfl) ?_
   refine rz rfl<|BZ rfl ?_
   refine Ab<|fg _ (Sub.pick [(FW f ((w_1[at'.toNat]!).1) ((w_1[at'.toNat]!).2)),(kW d w_0 w_0v w_1v),Sw_1] [1,2] rfl) ?_
   exact⟨(at'+1),w_1,b,Sw_1,hw_1,Ah rfl rfl⟩
  ·replace b:=Aa0.on_t152 a b
   refine r_W (vT #[vA #[vI 0,vI 0],vB false]) rfl (AC ((rfl:_=Aa0.v x).trans (show Aa0.v x=Value.iface 152 (vA #[vI x36_0,vI x37_1])from by rw [a];rfl)) rfl) ?_
   refine rz rfl<|c _ _ ?_
   refine BZ rfl ?_
   refine Ad<|r_W (vT #[vA #[vI 0,vI 0],vB false]) rfl (AC ((rfl:_=Aa0.v x).trans (show Aa0.v x=Value.iface 152 (vA #[vI x36_0,vI x37_1])from by rw [a];rfl)) rfl) ?_
   refine rz rfl<|BZ rfl ?_
   refine Ad<|r_W (vT #[vA #[],vB false]) rfl (AC ((rfl:_=Aa0.v x).trans (show Aa0.v x=Value.iface 152 (vA #[vI x36_0,vI x37_1])from by rw [a];rfl)) rfl) ?_
   refine rz rfl<|BZ rfl ?_
   refine Ab<|fg _ (Sub.pick [(FW f ((w_1[at'.toNat]!).1) ((w_1[at'.toNat]!).2)),(kW d w_0 w_0v w_1v),Sw_1] [1,2] rfl) ?_
   exact⟨(at'+1),w_1,b,Sw_1,hw_1,Ah rfl rfl⟩
  ·replace b:=Aa0.on_t155 a b
   refine r_W (vT #[vA #[vI 0,vI 0],vB false]) rfl (AC ((rfl:_=Aa0.v x).trans (show Aa0.v x=Value.iface 155 (vA #[vI x38_0,vI x39_1,vI x40_2])from by rw [a];rfl)) rfl) ?_
   refine rz rfl<|c _ _ ?_
   refine BZ rfl ?_
   refine Ad<|r_W (vT #[vA #[vI 0,vI 0],vB false]) rfl (AC ((rfl:_=Aa0.v x).trans (show Aa0.v x=Value.iface 155 (vA #[vI x38_0,vI x39_1,vI x40_2])from by rw [a];rfl)) rfl) ?_
   refine rz rfl<|BZ rfl ?_
   refine Ad<|r_W (vT #[vA #[],vB false]) rfl (AC ((rfl:_=Aa0.v x).trans (show Aa0.v x=Value.iface 155 (vA #[vI x38_0,vI x39_1,vI x40_2])from by rw [a];rfl)) rfl) ?_
   refine rz rfl<|BZ rfl ?_
   refine Ab<|fg _ (Sub.pick [(FW f ((w_1[at'.toNat]!).1) ((w_1[at'.toNat]!).2)),(kW d w_0 w_0v w_1v),Sw_1] [1,2] rfl) ?_
   exact⟨(at'+1),w_1,b,Sw_1,hw_1,Ah rfl rfl⟩
  ·replace b:=Aa0.on_t228 a b
   refine r_W (vT #[vA #[vI 0,vI 0],vB false]) rfl (AC ((rfl:_=Aa0.v x).trans (show Aa0.v x=Value.iface 228 (vA #[vI x41_0,U (hi x42_1),U (lo x42_1)])from by rw [a];rfl)) rfl) ?_
   refine rz rfl<|c _ _ ?_
   refine BZ rfl ?_
   refine Ad<|r_W (vT #[vA #[vI 0,vI 0],vB false]) rfl (AC ((rfl:_=Aa0.v x).trans (show Aa0.v x=Value.iface 228 (vA #[vI x41_0,U (hi x42_1),U (lo x42_1)])from by rw [a];rfl)) rfl) ?_
   refine rz rfl<|BZ rfl ?_
   refine Ad<|r_W (vT #[vA #[],vB false]) rfl (AC ((rfl:_=Aa0.v x).trans (show Aa0.v x=Value.iface 228 (vA #[vI x41_0,U (hi x42_1),U (lo x42_1)])from by rw [a];rfl)) rfl) ?_
   refine rz rfl<|BZ rfl ?_
   refine Ab<|fg _ (Sub.pick [(FW f ((w_1[at'.toNat]!).1) ((w_1[at'.toNat]!).2)),(kW d w_0 w_0v w_1v),Sw_1] [1,2] rfl) ?_
   exact⟨(at'+1),w_1,b,Sw_1,hw_1,Ah rfl rfl⟩
  ·replace b:=Aa0.on_t229 a b
   refine r_W (vT #[vA #[vI 0,vI 0],vB false]) rfl (AC ((rfl:_=Aa0.v x).trans (show Aa0.v x=Value.iface 229 (vA #[vI x43_0,vI x44_1])from by rw [a];rfl)) rfl) ?_
   refine rz rfl<|c _ _ ?_
   refine BZ rfl ?_
   refine Ad<|r_W (vT #[vA #[vI 0,vI 0],vB false]) rfl (AC ((rfl:_=Aa0.v x).trans (show Aa0.v x=Value.iface 229 (vA #[vI x43_0,vI x44_1])from by rw [a];rfl)) rfl) ?_
   refine rz rfl<|BZ rfl ?_
   refine Ad<|r_W (vT #[vA #[],vB false]) rfl (AC ((rfl:_=Aa0.v x).trans (show Aa0.v x=Value.iface 229 (vA #[vI x43_0,vI x44_1])from by rw [a];rfl)) rfl) ?_
   refine rz rfl<|BZ rfl ?_
   refine Ab<|fg _ (Sub.pick [(FW f ((w_1[at'.toNat]!).1) ((w_1[at'.toNat]!).2)),(kW d w_0 w_0v w_1v),Sw_1] [1,2] rfl) ?_
   exact⟨(at'+1),w_1,b,Sw_1,hw_1,Ah rfl rfl⟩
  ·replace b:=Aa0.on_t230 a b
   refine r_W (vT #[vA #[vI 0,vI 0],vB false]) rfl (AC ((rfl:_=Aa0.v x).trans (show Aa0.v x=Value.iface 230 (vA #[vI x45_0,vI x46_1])from by rw [a];rfl)) rfl) ?_
   refine rz rfl<|c _ _ ?_
   refine BZ rfl ?_
   refine Ad<|r_W (vT #[vA #[vI 0,vI 0],vB false]) rfl (AC ((rfl:_=Aa0.v x).trans (show Aa0.v x=Value.iface 230 (vA #[vI x45_0,vI x46_1])from by rw [a];rfl)) rfl) ?_
   refine rz rfl<|BZ rfl ?_
   refine Ad<|r_W (vT #[vA #[],vB false]) rfl (AC ((rfl:_=Aa0.v x).trans (show Aa0.v x=Value.iface 230 (vA #[vI x45_0,vI x46_1])from by rw [a];rfl)) rfl) ?_
   refine rz rfl<|BZ rfl ?_
   refine Ab<|fg _ (Sub.pick [(FW f ((w_1[at'.toNat]!).1) ((w_1[at'.toNat]!).2)),(kW d w_0 w_0v w_1v),Sw_1] [1,2] rfl) ?_
   exact⟨(at'+1),w_1,b,Sw_1,hw_1,Ah rfl rfl⟩
  ·replace b:=Aa0.on_t232 a b
   refine r_W (vT #[vA #[vI 0,vI 0],vB false]) rfl (AC ((rfl:_=Aa0.v x).trans (show Aa0.v x=Value.iface 232 (vA #[vI x47_0,vI x48_1])from by rw [a];rfl)) rfl) ?_
   refine rz rfl<|c _ _ ?_
   refine BZ rfl ?_
   refine Ad<|r_W (vT #[vA #[vI 0,vI 0],vB false]) rfl (AC ((rfl:_=Aa0.v x).trans (show Aa0.v x=Value.iface 232 (vA #[vI x47_0,vI x48_1])from by rw [a];rfl)) rfl) ?_
   refine rz rfl<|BZ rfl ?_
   refine Ad<|r_W (vT #[vA #[],vB false]) rfl (AC ((rfl:_=Aa0.v x).trans (show Aa0.v x=Value.iface 232 (vA #[vI x47_0,vI x48_1])from by rw [a];rfl)) rfl) ?_
   refine rz rfl<|BZ rfl ?_
   refine Ab<|fg _ (Sub.pick [(FW f ((w_1[at'.toNat]!).1) ((w_1[at'.toNat]!).2)),(kW d w_0 w_0v w_1v),Sw_1] [1,2] rfl) ?_
   exact⟨(at'+1),w_1,b,Sw_1,hw_1,Ah rfl rfl⟩
  replace b:=Aa0.on_t234 a b
  refine r_W (vT #[vA #[vI 0,vI 0],vB false]) rfl (AC ((rfl:_=Aa0.v x).trans (show Aa0.v x=Value.iface 234 (vA #[vI x49_0])from by rw [a];rfl)) rfl) ?_
  refine rz rfl<|c _ _ ?_
  refine BZ rfl ?_
  refine Ad<|r_W (vT #[vA #[vI 0,vI 0],vB false]) rfl (AC ((rfl:_=Aa0.v x).trans (show Aa0.v x=Value.iface 234 (vA #[vI x49_0])from by rw [a];rfl)) rfl) ?_
  refine rz rfl<|BZ rfl ?_
  refine Ad<|r_W (vT #[vA #[],vB false]) rfl (AC ((rfl:_=Aa0.v x).trans (show Aa0.v x=Value.iface 234 (vA #[vI x49_0])from by rw [a];rfl)) rfl) ?_
  refine rz rfl<|BZ rfl ?_
  refine Ab<|fg _ (Sub.pick [(FW f ((w_1[at'.toNat]!).1) ((w_1[at'.toNat]!).2)),(kW d w_0 w_0v w_1v),Sw_1] [1,2] rfl) ?_
  exact⟨(at'+1),w_1,b,Sw_1,hw_1,Ah rfl rfl⟩
 clear b;rintro t l ⟨g,m,b,e,A,⟨T,rfl⟩,rfl⟩
 unfold Ar at b
 refine Ad<|rm 3 [0] rfl<|kB b fun ad M b=>kC b fun aa b=>gM (Ls:=[(kW d w_0 w_0v w_1v),e]) (FL:=[e]) [1] (cF TX) (fun o w hn_ z_=>Hg N w_0 m g i.1 _ M _ w_0v (Aa1.mono (Lf (Ls:=[(kW d w_0 w_0v w_1v),e]) (is:=[1]) rfl z_) hw_0) w_1v e A) ?_
 rintro _ _ ⟨s,_,Y,⟨rfl,rfl⟩,rfl⟩
 refine CZ (Ls:=[(kW d w_0 w_0v w_1v),s]) (Ls':=[(kW d w_0 w_0v w_1v),s]) [0,1] rfl rfl ?_
 refine Af<|AZ rfl ?_
 cases b
 refine Bb (fun Q=>GP (v0:=vI 0) (O:=[s]) (EJ rfl) (Sub.pick [(kW d w_0 w_0v w_1v),s] [1] rfl) ⟨s,_,Y,⟨rfl,rfl⟩,rfl⟩)
def Dd(N:Nat)(m:Ao)(b:(List Aa0)×Int×Int):Nat→Int→List (Bool×BitVec 64)→Option ((BitVec 64)×Int×Int)
  |0,_,_=>none
  |e+1,a,d=>if a<b.2.1 then ck (0≤a∧a<(b.1.length:Int)) ((BH N m d a ((b.1)[a.toNat]!)).bind fun c=>ck ((c.2).length=(d).length) (if(c.1:Int)≠0 then some (0#64,a,c.1)else ck (R64 (a+1)) ((Dd N m b e) (a+1) c.2)))else ck (0≤b.2.1∧b.2.1<(d.length:Int)) (some ((d[(b.2.1).toNat]!).2,0,0))
def Jc(N:Nat)(m:Ao)(c:List (Int×Int×Int×Int×BitVec 128))(s:BitVec 64):Option ((BitVec 64)×Int×Int):=(QB N c).bind fun a=>ck (R64 (a.2.1+1)) (ck (0≤(a.2.1+1)∧(a.2.1+1)≤8796093022208) ((AK N m (List.replicate ((a.2.1+1)).toNat (false,0#64)) 0 s).bind fun b=>ck ((b).length=((List.replicate ((a.2.1+1)).toNat (false,0#64))).length) (Dd N m a N 0 b)))
def Ee(N:Nat)(m:Ao)(c:List (Int×Int×Int×Int×BitVec 128))(s:BitVec 64):Option ((BitVec 64)×Int×Int):=(JU N m).bind fun a=>Ac1.on a ((FC N).bind fun d=>(Hi N m d c).bind fun b=>if(b:Int)≠0 then some (0#64,0,1)else Jc N m c s) (fun _ _ _=>some (0#64,0,1))
theorem LA(N m l' s r)(a:Ee N m l' s=some r)(ro)(mv:AD)(hm:Aa1 ro mv m)(l'v)(hl':Rd Ac7 ro l'v l'):DoesI prog 6 #[vA (Ac m mv),l'v,U s] Ie ro [] (pV (vT #[U r.1,vI r.2.1,vI r.2.2])):=by
 unfold Ee at a
 refine AX follows func6 rfl 61 rfl _ fz3 Bg (fun ad=> ?_)
 refine Ad<|rA rfl fun g=>rz rfl<|Cb (fun tt ll=>(Jc N m l' s  =some r)∧Is [(1,l'v),(2,U s),(3,vP g 0)] [(g,35,(Ac m mv))] tt ll) ?_ ?_
 ·refine Aa fun ap C=>BE [(some 16,true),(some 20,false),(some 22,false)] (conG prog [(16,fun _ _ v_ L_ U_=> ∀f,JU N m=some f→(pO (List.flatten []) (Ac1.onP f (oE Value.nilIface []) (fun y0_0 y0_1 y0_2=>(oB 95 #[vI y0_0,vI y0_1,vI y0_2] fun bs_0=>(oE (Value.iface 93 (vP bs_0 0)) []))))) v_ L_ U_),(20,fun _ _ v_ L_ U_=> ∀f,FC N  =some f→(p1 (fun s_=>s_) 3 BI f) v_ L_ U_),(22,fun _ _ v_ L_ U_=> ∀f,FC N  =some f→ ∀J,Hi N m f l'=some J→(pV (vI J)) v_ L_ U_)]) [] (by decide+kernel) (fun hn=>AQ) ?_
  refine rm 1 [0] rfl<|kB a fun ae D a=>gt (Ls:=[[(g,35,(Ac m mv))]]) (FL:=[]) [] _ (some 16) 11 _ rfl rfl rfl rfl rfl (cF rB) (fun o w hn_ z_=>Yr N m _ D _ mv (Aa1.mono (Lf (Ls:=[[(g,35,(Ac m mv))]]) (is:=[]) rfl z_) hm)) (Ha D) (fun _=>(Ab8.sub (R:=[]) (Ac1.niceP (Tl rfl) (fun _ _ _=>(eX fun _=>(Tl rfl)))) (Sub.pick [] [] rfl))) ?_
  rintro _ _ hp_
  rcases Ac1.cases ae with h|⟨x47_0,x48_1,x49_2,h⟩
  ·obtain⟨rfl,rfl⟩:=Ac1.onP_nil h hp_
   replace a:=Ac1.on_nil h a
   refine CZ (Ls:=[[(g,35,(Ac m mv))]]) (Ls':=[[(g,35,(Ac m mv))]]) [0] rfl rfl<|rn 2 rfl<|r_y rfl<|rm 1 [0] rfl<|r_y rfl<|kB a fun K q a=>ZZ (Ls:=[[(g,35,(Ac m mv))]]) (fun H=>H) 3 BI K 13 _ rfl rfl rfl (cF rx) (fun o w z_=>(Does.inv (SX N  _ q z_.view) _)) (Ha q) (fun H L af=> ?_)
   refine rn 1 rfl<|r_y rfl<|kB a fun aq u a=>rg _ (cF Zx) (fun o w z_=>Qd N m K l' _ u z_.view mv (Aa1.mono z_.ro_cell hm) H ((Ax af (Ak (Ls:=[[(g,35,(Ac m mv))],L]) (k:=1) rfl rfl)) o w z_) l'v ((Aw hl') o w z_)) (fun _ _ v_ L_ U_=>⟨fun h_=>h_ _ q _ u,fun h_=>by intro _ e_;cases q1 (e_.symm.trans q);intro _ e_;cases q1 (e_.symm.trans u);exact h_⟩) ?_
   refine rz rfl<|C _ _ ?_
   refine aN a rfl (fun M a=> ?_) (fun M a=> ?_)
   ·refine AZ rfl ?_
    cases a
    exact aR eV3
   refine Ab<|fg _ (Sub.pick [[(g,35,(Ac m mv))],L] [0] rfl) ?_
   exact⟨a,Ah rfl rfl⟩
  obtain⟨O,_,⟨rfl,rfl⟩,rfl⟩:=Ac1.onP_t93 h hp_
  replace a:=Ac1.on_t93 h a
  refine CZ (Ls:=[[(g,35,(Ac m mv))],(fb O x47_0 x48_1 x49_2)]) (Ls':=[[(g,35,(Ac m mv))],(fb O x47_0 x48_1 x49_2)]) [0,1] rfl rfl<|rz rfl<|C _ _ ?_
  refine MP rfl ?_
  refine AZ rfl ?_
  cases a
  exact aR eV3
 clear a;rintro t l ⟨a,⟨T,rfl⟩,rfl⟩
 unfold Jc at a
 refine Ad<|rn 1 rfl<|kB a fun E ag a=>gS (Ls:=[[(g,35,(Ac m mv))]]) (cF fP) (fun o w z_=>(Does.inv (fE N l' _ ag z_.view l'v ((Aw hl') o w z_)) _)) (fun s6 n H8=> ?_)
 refine rz rfl<|Aa fun K9 ah=>BE [(some 34,false)] (conG prog [(34,fun _ _ v_ L_ U_=>(p1 (fun v=>v) 72 MA (List.replicate ((E.2.1+1)).toNat (false,0#64))) v_ L_ U_)]) [] (by decide+kernel) (fun hn=>AQ)<|rm 2 [0] rfl<|kC a fun P a=>rX P rfl<|kC a fun Q a=>SC (Ls:=[[(g,35,(Ac m mv))],n]) 72 MA (false,0#64) (E.2.1+1) rfl rfl rfl rfl rfl rfl rfl rfl rfl rfl 8796093022208 rfl Q (fun _ _ _ _ _=>Iff.rfl) (fun b x I=> ?_)
 refine r_W (vA #[vS m.1,mv.1,mv.2.1,mv.2.2.1,mv.2.2.2.1,mv.2.2.2.2.1,mv.2.2.2.2.2.1,mv.2.2.2.2.2.2.1,mv.2.2.2.2.2.2.2.1,mv.2.2.2.2.2.2.2.2.1,mv.2.2.2.2.2.2.2.2.2.1,mv.2.2.2.2.2.2.2.2.2.2.1,mv.2.2.2.2.2.2.2.2.2.2.2.1,mv.2.2.2.2.2.2.2.2.2.2.2.2.1,mv.2.2.2.2.2.2.2.2.2.2.2.2.2,vI m.2.2.2.2.2.2.2.2.2.2.2.2.2.2.2.1,vI m.2.2.2.2.2.2.2.2.2.2.2.2.2.2.2.2.1,vI m.2.2.2.2.2.2.2.2.2.2.2.2.2.2.2.2.2,b]) rfl (Nt rfl rfl rfl (IN (c:=(Ac m mv)) rfl (IN (Ga rfl (Sl.shp I)) PZ)) (by kernel_rfl))<|rA rfl fun e=>jh (List.flatten [(kW e m mv b),[(g,35,(Ac m mv))],n,x]) 0 _ _ _ (#[Value.string (⟨#[]⟩),nS,nS,nS,nS,nS,nS,nS,nS,nS,nS,nS,nS,nS,nS,vI 0,vI 0,vI 0,nS]) (#[vS m.1,mv.1,mv.2.1,mv.2.2.1,mv.2.2.2.1,mv.2.2.2.2.1,mv.2.2.2.2.2.1,mv.2.2.2.2.2.2.1,mv.2.2.2.2.2.2.2.1,mv.2.2.2.2.2.2.2.2.1,mv.2.2.2.2.2.2.2.2.2.1,mv.2.2.2.2.2.2.2.2.2.2.1,mv.2.2.2.2.2.2.2.2.2.2.2.1,mv.2.2.2.2.2.2.2.2.2.2.2.2.1,mv.2.2.2.2.2.2.2.2.2.2.2.2.2,vI m.2.2.2.2.2.2.2.2.2.2.2.2.2.2.2.1,vI m.2.2.2.2.2.2.2.2.2.2.2.2.2.2.2.2.1,vI m.2.2.2.2.2.2.2.2.2.2.2.2.2.2.2.2.2,b]) (#[vS m.1,mv.1,mv.2.1,mv.2.2.1,mv.2.2.2.1,mv.2.2.2.2.1,mv.2.2.2.2.2.1,mv.2.2.2.2.2.2.1,mv.2.2.2.2.2.2.2.1,mv.2.2.2.2.2.2.2.2.1,mv.2.2.2.2.2.2.2.2.2.1,mv.2.2.2.2.2.2.2.2.2.2.1,mv.2.2.2.2.2.2.2.2.2.2.2.1,mv.2.2.2.2.2.2.2.2.2.2.2.2.1,mv.2.2.2.2.2.2.2.2.2.2.2.2.2,vI m.2.2.2.2.2.2.2.2.2.2.2.2.2.2.2.1,vI m.2.2.2.2.2.2.2.2.2.2.2.2.2.2.2.2.1,vI m.2.2.2.2.2.2.2.2.2.2.2.2.2.2.2.2.2,b]) rfl rfl rfl rfl rfl (.ofS rfl rfl (Ae rfl (Ae (Shp.one (RdN.shp hm.1)) (Ae (Shp.one (Rd.shp hm.2.1)) (Ae (Shp.one (Rd.shp hm.2.2.1)) (Ae (Shp.one (RdN.shp hm.2.2.2.1)) (Ae (Shp.one (RdN.shp hm.2.2.2.2.1)) (Ae (Shp.one (RdN.shp hm.2.2.2.2.2.1)) (Ae (Shp.one (RdN.shp hm.2.2.2.2.2.2.1)) (Ae (Shp.one (RdN.shp hm.2.2.2.2.2.2.2.1)) (Ae (Shp.one (Rd.shp hm.2.2.2.2.2.2.2.2.1)) (Ae (Shp.one (Rd.shp hm.2.2.2.2.2.2.2.2.2.1)) (Ae (Shp.one (Rd.shp hm.2.2.2.2.2.2.2.2.2.2.1)) (Ae (Shp.one (Rd.shp hm.2.2.2.2.2.2.2.2.2.2.2.1)) (Ae (Shp.one (Rd.shp hm.2.2.2.2.2.2.2.2.2.2.2.2.1)) (Ae (Shp.one (Rd.shp hm.2.2.2.2.2.2.2.2.2.2.2.2.2)) (Ae rfl (Ae rfl (Ae rfl (Ae (Shp.one (Sl.shp I)) Bv)))))))))))))))))))) rfl rfl ?_
 refine Af<|ah _ _ ?_
 refine Ad<|rm 2 [0] rfl<|kB a fun ai S a=>kC a fun ao a=>gM (Ls:=[(kW e m mv b),[(g,35,(Ac m mv))],n,x]) (FL:=[x]) [3] (cF TX) (fun o w hn_ z_=>(Does.inv (Hg N m (List.replicate ((E.2.1+1)).toNat (false,0#64)) 0 s _ S _ mv (Aa1.mono (Lf (Ls:=[(kW e m mv b),[(g,35,(Ac m mv))],n,x]) (is:=[3]) rfl z_) hm) b x I) _)) ?_
 rintro _ _ ⟨A,_,aj,⟨rfl,rfl⟩,rfl⟩
 refine CZ (Ls:=[(kW e m mv b),[(g,35,(Ac m mv))],n,A]) (Ls':=[(kW e m mv b),[(g,35,(Ac m mv))],n,A]) [0,1,2,3] rfl rfl ?_
 refine Af<|Aa fun au V=>AZ rfl<|Ai<|Bw _ (Sub.pick [(kW e m mv b),[(g,35,(Ac m mv))],n,A] [0,2,3] rfl) ?_
 refine AH (fun tt ll nn=> ∃(p:Nat) (i:Int) (y:List (Bool×BitVec 64)),(Dd N m E p i y=some r)∧ ∃(d:List Bl),Sl 72 MA b y d∧Is [(9,s6),(10,vI E.2.1),(12,vP e 0),(39,vI E.2.1),(40,vI i)] (List.flatten [(kW e m mv b),n,d]) tt ll∧nn=p+1) (N+1) ?_ ?_
 ·exact⟨N,0,ai,a,A,aj,Ah rfl rfl,rfl⟩
 clear a;rintro t l _ ⟨p,i,y,a,d,j,⟨⟨T,rfl⟩,rfl⟩,rfl⟩
 rcases p with _|p
 ·exact absurd a (by simp [Dd])
 rw [Dd] at a
 refine AZ rfl<|Aa fun av W=>aD a rfl (fun X a=> ?_) (fun X a=> ?_)
 ·refine Ab<|W _ _ ?_
  refine Aa fun aw Y=>Ai<|AZ rfl<|Aa fun ax Z=>BE [(some 49,true)] (conG prog [(49,fun _ _ v_ L_ U_=> ∀f,BH N m y i ((E.1)[i.toNat]!)=some f→(pO (List.flatten [d]) (oI 72 MA b f.2 (oE (vI f.1) []))) v_ L_ U_)]) [] (by decide+kernel) (fun hn=>AQ) ?_
  refine rm 4 [0] rfl<|kC a fun F a=>rI (Sl.shp H8) F rfl<|rE (Ax H8 (Ak (Ls:=[(kW e m mv b),n,d]) (k:=1) rfl rfl)) F 0 rfl<|kB a fun ak G a=>kC a fun aa a=>gt (Ls:=[(kW e m mv b),n,d]) (FL:=[d]) [2] _ (some 49) 16 _ rfl rfl rfl rfl rfl (cF rv) (fun o w hn_ z_=>(Does.inv (PD N m y i ((E.1)[i.toNat]!) _ G _ mv (Aa1.mono (Lf (Ls:=[(kW e m mv b),n,d]) (is:=[2]) rfl z_) hm) b d j) _)) (Ha G) (fun _=>(Ab8.sub (R:=(d++ [])) (sa j aa (Tl rfl)) (Sub.pick [d] [0] rfl))) ?_
  rintro _ _ ⟨B,_,al,⟨rfl,rfl⟩,rfl⟩
  refine CZ (Ls:=[(kW e m mv b),n,B]) (Ls':=[(kW e m mv b),n,B]) [0,1,2] rfl rfl ?_
  refine rz rfl<|Z _ _ ?_
  refine AZ rfl<|aN a rfl (fun ab a=> ?_) (fun ab a=> ?_)
  ·refine AZ rfl ?_
   cases a
   exact aR eV3
  refine Ab<|Y _ _ ?_
  refine Ag<|kC a fun ac a=>rX ac rfl<|rz rfl<|fg _ (Sub.pick [(kW e m mv b),n,B] [0,1,2] rfl) ?_
  exact⟨p+1,by omega,p,(i+1),ak.2,a,B,al,Ah rfl rfl,rfl⟩
 refine AI<|V _ _ ?_
 refine Ad<|rm 3 [0] rfl<|kC a fun z a=>rI (Sl.shp j) z rfl<|rF (Sl.shp j) (Be z) rfl ?_
 refine rE (Ax j (Ak (Ls:=[(kW e m mv b),n,d]) (k:=2) rfl rfl)) z 1 rfl<|rz rfl ?_
 cases a
 exact aR eV3
theorem Xq {c:Addr→Option Value}{x}{vs:List Value}(h:(Oa).V c x vs):(Ad4).R c x vs:=by obtain⟨_,_,rfl,⟨_,_,⟨a,rfl,b⟩,⟨_,_,rfl,⟨_,_,rfl,⟨_,_,rfl,rfl,rfl⟩,rfl⟩,rfl⟩,rfl⟩,rfl⟩:=h;exact⟨a,b,rfl⟩
theorem Xp {c:Addr→Option Value}{x}{vs:List Value}(h:(NZ).V c x vs):(Ad8).R c x vs:=by obtain⟨_,_,rfl,⟨_,_,⟨a,rfl,b⟩,⟨_,_,⟨d,rfl,e⟩,⟨_,_,⟨f,rfl,g⟩,rfl,rfl⟩,rfl⟩,rfl⟩,rfl⟩:=h;exact⟨a,d,f,b,e,g,rfl⟩
theorem VA {c:Addr→Option Value}{x}{vs:List Value}(h:(VC).V c x vs):(Ad5).R c x vs:=by obtain⟨_,_,rfl,⟨_,_,⟨a,rfl,b⟩,⟨d,rfl,e⟩,rfl⟩,rfl⟩:=h;exact⟨a,d,b,e,rfl⟩
theorem Vz {c:Addr→Option Value}{x}{vs:List Value}(h:(VB).V c x vs):(Ad9).R c x vs:=by obtain⟨_,_,rfl,⟨_,_,rfl,⟨_,_,⟨a,rfl,b⟩,⟨_,_,⟨d,rfl,e⟩,⟨_,_,rfl,⟨_,_,⟨f,rfl,g⟩,rfl,rfl⟩,rfl⟩,rfl⟩,rfl⟩,rfl⟩,rfl⟩:=h;exact⟨a,d,f,b,e,g,rfl⟩
theorem Po {c:Addr→Option Value}{x}{vs:List Value}(h:(Qm).V c x vs):(Ad1).R c x vs:=by obtain⟨_,_,rfl,⟨_,_,rfl,⟨_,_,⟨a,rfl,b⟩,⟨_,_,⟨d,rfl,e⟩,⟨_,_,rfl,rfl,rfl⟩,rfl⟩,rfl⟩,rfl⟩,rfl⟩:=h;exact⟨a,d,b,e,rfl⟩
def Hy(N:Nat)(a:Bool):Option Bool:=if a=true then(Ed N (5#64) 2).bind fun b=>some b else some false
def Hz(N:Nat)(b:(BitVec 64)×Int×Int)(a:Bool):Option Bool:=if a=true then Hy N (b.2.2==11)else Hy N false
def Fz(N:Nat):Option Bool:=(EP N).bind fun d=>(Ee N d ([(33,0,3,0,(0#64)++(0#64)),(1,0,0,0,(0#64)++(0#64)),(23,1,0,0,(0#64)++(0#64))]) (0#64)).bind fun b=>(EP N).bind fun c=>ck (0≤(1:Int)∧(1:Int)≤(([(33,0,3,0,(0#64)++(0#64)),(1,0,0,0,(0#64)++(0#64)),(23,1,0,0,(0#64)++(0#64))]).length:Int)) ((Ee N c ((([(33,0,3,0,(0#64)++(0#64)),(1,0,0,0,(0#64)++(0#64)),(23,1,0,0,(0#64)++(0#64))]).take (([(33,0,3,0,(0#64)++(0#64)),(1,0,0,0,(0#64)++(0#64)),(23,1,0,0,(0#64)++(0#64))]).length)).drop (((1:Int)).toNat)) (0#64)).bind fun a=>if b.2.2=0 then Hz N a (a.2.1==0)else Hz N a false)
theorem Jx(N r)(t:Fz N=some r)(ro:Ro):DoesI prog 5 #[] Ie ro [] (pV (vB r)):=by
 unfold Fz at t
 refine AX follows func5 rfl 40 rfl _ fz0 Bg (fun ac=> ?_)
 refine AZ rfl<|Ad<|r_W (vA #[vI 33,vI 0,vI 3,vI 0,U (0#64),U (0#64)]) rfl (Ap rfl rfl rfl rfl)<|r_W (vA #[vI 1,vI 0,vI 0,vI 0,U (0#64),U (0#64)]) rfl (Ap rfl rfl rfl rfl)<|r_W (vA #[vI 23,vI 1,vI 0,vI 0,U (0#64),U (0#64)]) rfl (Ap rfl rfl rfl rfl)<|cD 11 ?_
 refine Kq (cs0:=[]) (Ls:=[]) 53 Ac7 [(33,0,3,0,(0#64)++(0#64)),(1,0,0,0,(0#64)++(0#64)),(23,1,0,0,(0#64)++(0#64))] [vI 33,vI 0,vI 3,vI 0,U (0#64),U (0#64),vI 1,vI 0,vI 0,vI 0,U (0#64),U (0#64),vI 23,vI 1,vI 0,vI 0,U (0#64),U (0#64)] [vI 0,vI 0,vI 0,vI 0,U (0#64),U (0#64),vI 0,vI 0,vI 0,vI 0,U (0#64),U (0#64),vI 0,vI 0,vI 0,vI 0,U (0#64),U (0#64)] rfl rfl rfl rfl rfl rfl rfl (by kernel_rfl) (by kernel_rfl) (show [vI 33,vI 0,vI 3,vI 0,U (0#64),U (0#64),vI 1,vI 0,vI 0,vI 0,U (0#64),U (0#64),vI 23,vI 1,vI 0,vI 0,U (0#64),U (0#64)]=[vI 33,vI 0,vI 3,vI 0,U (hi ((0#64)++(0#64))),U (lo ((0#64)++(0#64))),vI 1,vI 0,vI 0,vI 0,U (hi ((0#64)++(0#64))),U (lo ((0#64)++(0#64))),vI 23,vI 1,vI 0,vI 0,U (hi ((0#64)++(0#64))),U (lo ((0#64)++(0#64)))] by simp only [Bo]) rfl rfl (fun s3 s H5=> ?_)
 refine rz rfl<|Ad<|kB t fun r7 af t=>gM (Ls:=[s]) (FL:=[]) [] (cF lq) (fun o w hn_ z_=>(Does.inv (LI N  _ af _) _)) ?_
 rintro _ _ ⟨ag,a,_,ah,⟨ai,b,_,aj,⟨ak,c,_,al,⟨am,d,_,an,⟨ao,e,_,ap,⟨aq,f,_,ar,⟨au,g,_,av,⟨aw,h,_,ax,⟨ay,i,_,az,⟨ba,j,_,bb,⟨bc,l,_,bd,⟨be,m,_,bf,⟨bg,n,_,bh,⟨s9,p,_,bi,⟨rfl,rfl⟩,rfl⟩,rfl⟩,rfl⟩,rfl⟩,rfl⟩,rfl⟩,rfl⟩,rfl⟩,rfl⟩,rfl⟩,rfl⟩,rfl⟩,rfl⟩,rfl⟩
 refine CZ (Ls:=[s,a,b,c,d,e,f,g,h,i,j,l,m,n,p]) (Ls':=[s,a,b,c,d,e,f,g,h,i,j,l,m,n,p]) [0,1,2,3,4,5,6,7,8,9,10,11,12,13,14] rfl rfl<|rn 1 rfl<|kB t fun bj W t=>gV _ (cF Zt) (fun o w z_=>LA N r7 ([(33,0,3,0,(0#64)++(0#64)),(1,0,0,0,(0#64)++(0#64)),(23,1,0,0,(0#64)++(0#64))]) (0#64) _ W z_.view (ag,ai,ak,am,ao,aq,au,aw,ay,ba,bc,be,bg,s9) ⟨(RdN.map (E':=Ad4) (SlO.view ah (IX (Ak (Ls:=[s,a,b,c,d,e,f,g,h,i,j,l,m,n,p]) (k:=1) rfl rfl) o w z_)) rfl (fun _ _ h_=>Xq h_)),((Ax aj (Ak (Ls:=[s,a,b,c,d,e,f,g,h,i,j,l,m,n,p]) (k:=2) rfl rfl)) o w z_),((Ax al (Ak (Ls:=[s,a,b,c,d,e,f,g,h,i,j,l,m,n,p]) (k:=3) rfl rfl)) o w z_),(RdN.map (E':=Ad8) (SlO.view an (IX (Ak (Ls:=[s,a,b,c,d,e,f,g,h,i,j,l,m,n,p]) (k:=4) rfl rfl) o w z_)) rfl (fun _ _ h_=>Xp h_)),(RdN.map (E':=Ad5) (SlO.view ap (IX (Ak (Ls:=[s,a,b,c,d,e,f,g,h,i,j,l,m,n,p]) (k:=5) rfl rfl) o w z_)) rfl (fun _ _ h_=>VA h_)),(RdN.map (E':=Ad9) (SlO.view ar (IX (Ak (Ls:=[s,a,b,c,d,e,f,g,h,i,j,l,m,n,p]) (k:=6) rfl rfl) o w z_)) rfl (fun _ _ h_=>Vz h_)),(RdN.map (E':=Ad1) (SlO.view av (IX (Ak (Ls:=[s,a,b,c,d,e,f,g,h,i,j,l,m,n,p]) (k:=7) rfl rfl) o w z_)) rfl (fun _ _ h_=>Po h_)),(RdN.map (E':=Ad1) (SlO.view ax (IX (Ak (Ls:=[s,a,b,c,d,e,f,g,h,i,j,l,m,n,p]) (k:=8) rfl rfl) o w z_)) rfl (fun _ _ h_=>Po h_)),((Ax az (Ak (Ls:=[s,a,b,c,d,e,f,g,h,i,j,l,m,n,p]) (k:=9) rfl rfl)) o w z_),((Ax bb (Ak (Ls:=[s,a,b,c,d,e,f,g,h,i,j,l,m,n,p]) (k:=10) rfl rfl)) o w z_),((Ax bd (Ak (Ls:=[s,a,b,c,d,e,f,g,h,i,j,l,m,n,p]) (k:=11) rfl rfl)) o w z_),((Ax bf (Ak (Ls:=[s,a,b,c,d,e,f,g,h,i,j,l,m,n,p]) (k:=12) rfl rfl)) o w z_),((Ax bh (Ak (Ls:=[s,a,b,c,d,e,f,g,h,i,j,l,m,n,p]) (k:=13) rfl rfl)) o w z_),((Ax bi (Ak (Ls:=[s,a,b,c,d,e,f,g,h,i,j,l,m,n,p]) (k:=14) rfl rfl)) o w z_)⟩ s3 ((Ax H5 (Ak (Ls:=[s,a,b,c,d,e,f,g,h,i,j,l,m,n,p]) (k:=0) rfl rfl)) o w z_)) ?_
 refine rz rfl<|Aa fun cs X=> ?_
 refine BE [(some 20,true),(some 23,false)] (conG prog [(20,fun _ _ v_ L_ U_=> ∀q,EP N  =some q→(pO (List.flatten []) (oSO 79 Oa q.2.1 fun s_0=>(oS 81 Ad6 q.2.2.1 fun s_1=>(oS 77 Ab2 q.2.2.2.1 fun s_2=>(oSO 86 NZ q.2.2.2.2.1 fun s_3=>(oSO 172 VC q.2.2.2.2.2.1 fun s_4=>(oSO 177 VB q.2.2.2.2.2.2.1 fun s_5=>(oSO 166 Qm q.2.2.2.2.2.2.2.1 fun s_6=>(oSO 166 Qm q.2.2.2.2.2.2.2.2.1 fun s_7=>(oS 3 BI q.2.2.2.2.2.2.2.2.2.1 fun s_8=>(oS 169 Ae3 q.2.2.2.2.2.2.2.2.2.2.1 fun s_9=>(oS 169 Ae3 q.2.2.2.2.2.2.2.2.2.2.2.1 fun s_10=>(oS 132 Ae6 q.2.2.2.2.2.2.2.2.2.2.2.2.1 fun s_11=>(oS 135 Ae7 q.2.2.2.2.2.2.2.2.2.2.2.2.2.1 fun s_12=>(oS 138 Ae8 q.2.2.2.2.2.2.2.2.2.2.2.2.2.2.1 fun s_13=>(oE (vA #[vS q.1,s_0,s_1,s_2,s_3,s_4,s_5,s_6,s_7,s_8,s_9,s_10,s_11,s_12,s_13,vI q.2.2.2.2.2.2.2.2.2.2.2.2.2.2.2.1,vI q.2.2.2.2.2.2.2.2.2.2.2.2.2.2.2.2.1,vI q.2.2.2.2.2.2.2.2.2.2.2.2.2.2.2.2.2]) [])))))))))))))))) v_ L_ U_),(23,fun _ _ v_ L_ U_=> ∀q,EP N  =some q→ ∀Q,Ee N q ((([(33,0,3,0,(0#64)++(0#64)),(1,0,0,0,(0#64)++(0#64)),(23,1,0,0,(0#64)++(0#64))]).take (([(33,0,3,0,(0#64)++(0#64)),(1,0,0,0,(0#64)++(0#64)),(23,1,0,0,(0#64)++(0#64))]).length)).drop (((1:Int)).toNat)) (0#64)=some Q→(pV (vT #[U Q.1,vI Q.2.1,vI Q.2.2])) v_ L_ U_)]) [] (by decide+kernel) (fun hn=>AQ)<|kB t fun bk K t=>gt (Ls:=[s,a,b,c,d,e,f,g,h,i,j,l,m,n,p]) (FL:=[]) [] _ (some 20) 9 _ rfl rfl rfl rfl rfl (cF lq) (fun o w hn_ z_=>(Does.inv (LI N  _ K _) _)) (Ha K) (fun _=>(Ab8.sub (R:=[]) (SH fun s_0=>(Tk fun s_1=>(Tk fun s_2=>(SH fun s_3=>(SH fun s_4=>(SH fun s_5=>(SH fun s_6=>(SH fun s_7=>(Tk fun s_8=>(Tk fun s_9=>(Tk fun s_10=>(Tk fun s_11=>(Tk fun s_12=>(Tk fun s_13=>(Tl rfl))))))))))))))) (Sub.pick [] [] rfl))) ?_
 rintro _ _ ⟨bl,u,_,bm,⟨bn,v,_,bo,⟨bp,x,_,bq,⟨br,y,_,bs,⟨bt,z,_,bu,⟨bv,A,_,bw,⟨bx,B,_,bz,⟨ca,C,_,cb,⟨cc,D,_,cd,⟨ce,E,_,cf,⟨cg,F,_,ch,⟨ci,G,_,cj,⟨ck,H,_,cl,⟨cm,I,_,cn,⟨rfl,rfl⟩,rfl⟩,rfl⟩,rfl⟩,rfl⟩,rfl⟩,rfl⟩,rfl⟩,rfl⟩,rfl⟩,rfl⟩,rfl⟩,rfl⟩,rfl⟩,rfl⟩
 refine CZ (Ls:=[s,a,b,c,d,e,f,g,h,i,j,l,m,n,p,u,v,x,y,z,A,B,C,D,E,F,G,H,I]) (Ls':=[s,a,b,c,d,e,f,g,h,i,j,l,m,n,p,u,v,x,y,z,A,B,C,D,E,F,G,H,I]) [0,1,2,3,4,5,6,7,8,9,10,11,12,13,14,15,16,17,18,19,20,21,22,23,24,25,26,27,28] rfl rfl<|rn 1 rfl<|kC t fun S t=>r_W (FG s3 (((1:Int)).toNat) (([(33,0,3,0,(0#64)++(0#64)),(1,0,0,0,(0#64)++(0#64)),(23,1,0,0,(0#64)++(0#64))]).length) 6) rfl (Ef (Xn rfl rfl rfl rfl (Sl.shp H5) S))<|kB t fun Y J t=>rg _ (cF Zt) (fun o w z_=>LA N bk ((([(33,0,3,0,(0#64)++(0#64)),(1,0,0,0,(0#64)++(0#64)),(23,1,0,0,(0#64)++(0#64))]).take (([(33,0,3,0,(0#64)++(0#64)),(1,0,0,0,(0#64)++(0#64)),(23,1,0,0,(0#64)++(0#64))]).length)).drop (((1:Int)).toNat)) (0#64) _ J z_.view (bl,bn,bp,br,bt,bv,bx,ca,cc,ce,cg,ci,ck,cm) ⟨(RdN.map (E':=Ad4) (SlO.view bm (IX (Ak (Ls:=[s,a,b,c,d,e,f,g,h,i,j,l,m,n,p,u,v,x,y,z,A,B,C,D,E,F,G,H,I]) (k:=15) rfl rfl) o w z_)) rfl (fun _ _ h_=>Xq h_)),((Ax bo (Ak (Ls:=[s,a,b,c,d,e,f,g,h,i,j,l,m,n,p,u,v,x,y,z,A,B,C,D,E,F,G,H,I]) (k:=16) rfl rfl)) o w z_),((Ax bq (Ak (Ls:=[s,a,b,c,d,e,f,g,h,i,j,l,m,n,p,u,v,x,y,z,A,B,C,D,E,F,G,H,I]) (k:=17) rfl rfl)) o w z_),(RdN.map (E':=Ad8) (SlO.view bs (IX (Ak (Ls:=[s,a,b,c,d,e,f,g,h,i,j,l,m,n,p,u,v,x,y,z,A,B,C,D,E,F,G,H,I]) (k:=18) rfl rfl) o w z_)) rfl (fun _ _ h_=>Xp h_)),(RdN.map (E':=Ad5) (SlO.view bu (IX (Ak (Ls:=[s,a,b,c,d,e,f,g,h,i,j,l,m,n,p,u,v,x,y,z,A,B,C,D,E,F,G,H,I]) (k:=19) rfl rfl) o w z_)) rfl (fun _ _ h_=>VA h_)),(RdN.map (E':=Ad9) (SlO.view bw (IX (Ak (Ls:=[s,a,b,c,d,e,f,g,h,i,j,l,m,n,p,u,v,x,y,z,A,B,C,D,E,F,G,H,I]) (k:=20) rfl rfl) o w z_)) rfl (fun _ _ h_=>Vz h_)),(RdN.map (E':=Ad1) (SlO.view bz (IX (Ak (Ls:=[s,a,b,c,d,e,f,g,h,i,j,l,m,n,p,u,v,x,y,z,A,B,C,D,E,F,G,H,I]) (k:=21) rfl rfl) o w z_)) rfl (fun _ _ h_=>Po h_)),(RdN.map (E':=Ad1) (SlO.view cb (IX (Ak (Ls:=[s,a,b,c,d,e,f,g,h,i,j,l,m,n,p,u,v,x,y,z,A,B,C,D,E,F,G,H,I]) (k:=22) rfl rfl) o w z_)) rfl (fun _ _ h_=>Po h_)),((Ax cd (Ak (Ls:=[s,a,b,c,d,e,f,g,h,i,j,l,m,n,p,u,v,x,y,z,A,B,C,D,E,F,G,H,I]) (k:=23) rfl rfl)) o w z_),((Ax cf (Ak (Ls:=[s,a,b,c,d,e,f,g,h,i,j,l,m,n,p,u,v,x,y,z,A,B,C,D,E,F,G,H,I]) (k:=24) rfl rfl)) o w z_),((Ax ch (Ak (Ls:=[s,a,b,c,d,e,f,g,h,i,j,l,m,n,p,u,v,x,y,z,A,B,C,D,E,F,G,H,I]) (k:=25) rfl rfl)) o w z_),((Ax cj (Ak (Ls:=[s,a,b,c,d,e,f,g,h,i,j,l,m,n,p,u,v,x,y,z,A,B,C,D,E,F,G,H,I]) (k:=26) rfl rfl)) o w z_),((Ax cl (Ak (Ls:=[s,a,b,c,d,e,f,g,h,i,j,l,m,n,p,u,v,x,y,z,A,B,C,D,E,F,G,H,I]) (k:=27) rfl rfl)) o w z_),((Ax cn (Ak (Ls:=[s,a,b,c,d,e,f,g,h,i,j,l,m,n,p,u,v,x,y,z,A,B,C,D,E,F,G,H,I]) (k:=28) rfl rfl)) o w z_)⟩ (FG s3 (((1:Int)).toNat) (([(33,0,3,0,(0#64)++(0#64)),(1,0,0,0,(0#64)++(0#64)),(23,1,0,0,(0#64)++(0#64))]).length) 6) ((Pc (Ax H5 (Ak (Ls:=[s,a,b,c,d,e,f,g,h,i,j,l,m,n,p,u,v,x,y,z,A,B,C,D,E,F,G,H,I]) (k:=0) rfl rfl)) (GR S.2) (Nat.le_refl _)) o w z_)) (fun _ _ v_ L_ U_=>⟨fun h_=>h_ _ K _ J,fun h_=>by intro _ e_;cases q1 (e_.symm.trans K);intro _ e_;cases q1 (e_.symm.trans J);exact h_⟩) ?_
 refine rz rfl<|X _ _ ?_
 refine Aa fun co L=>Ag<|rn 3 rfl<|AG 3 32 [(0,vB false),(7,vI Y.2.2)] vB (fun b_=>Hz N Y b_=some r) (fun Z t T=> ?_) (fun HJ=> ?_)
 ·unfold Hz at t
  refine rn 1 rfl<|AG 3 36 [(0,vB false)] vB (fun b_=>Hy N b_=some r) (fun ab t T=> ?_) (fun HJ=> ?_)
  ·unfold Hy at t
   refine rn 1 rfl ?_
   rcases M:ab with _|_
   ·replace t:=iB M t
    refine rz rfl<|L _ _ ?_
    cases t
    exact aR eV1
   replace t:=ifp M t
   refine r_y rfl<|kB t fun cp V t=>rc _ (cF Zy) (Nr N (5#64) 2 _ V)<|rz rfl<|L _ _ ?_
   cases t
   exact aR eV1
  rcases O:Z with _|_
  ·replace t:=iB O t
   refine rn 3 rfl ?_
   exact HJ _ _ t rfl rfl
  replace t:=ifp O t
  refine rn 3 rfl ?_
  exact HJ _ _ t rfl rfl
 rcases P:(bj.2.2==0)with _|_
 ·replace t:=iG P t
  refine rn 3 rfl ?_
  exact HJ _ _ t rfl rfl
 replace t:=iE P t
 refine rn 3 rfl ?_
 exact HJ _ _ t rfl rfl
def Jr(N:Nat)(s:BitVec 64)(b:BitVec 64):Option Bool:=(GX N s b).bind fun a=>some (a==s)
theorem RT(N s t' r)(a:Jr N s t'=some r):Gives prog 7 #[U s,U t'] (vB r):=by
 unfold Jr at a
 refine Av follows func7 rfl 10 rfl _ fz2 (fun b=> ?_)
 refine AZ rfl<|Ad<|rn 2 rfl<|kB a fun d c a=>rc _ (cF fO) (Px N s t' _ c)<|rn 1 rfl<|r_X (vB (d==s)) rfl (ob d s) rfl<|rz rfl ?_
 cases a
 exact aR eE1
end Go.Proofs.YtoolcgbcfgnipaaGreatDoor
