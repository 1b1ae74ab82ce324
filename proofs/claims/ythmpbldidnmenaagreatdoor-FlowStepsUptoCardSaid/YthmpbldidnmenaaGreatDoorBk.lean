import Derived.Test.YthmpbldidnmenaaGreatDoorBj
namespace Go.Proofs.YthmpbldidnmenaaGreatDoor
open Go Go.RowKit Go.Eng _root_.Go.Proofs.Tryz
set_option linter.unusedSimpArgs false
set_option linter.unusedVariables false
set_option maxRecDepth 100000
set_option maxHeartbeats 80000000
abbrev nR(b:Nat)(x0:List UInt8)(x1:Value)(x2:Value)(x3:Value)(x4:Value)(x5:Value)(x6:Value)(x7:Value)(x8:Value)(x9:Value)(x10:Value)(x11:Value)(x12:Value)(x13:Value)(x14:Value)(x15:Int)(x16:Int)(x17:Int)(x18:Value):List Bl:=[(b,98, #[vS x0,x1,x2,x3,x4,x5,x6,x7,x8,x9,x10,x11,x12,x13,x14,vI x15,vI x16,vI x17,x18])]
abbrev Bj(b:Nat)(m:An)(v:Ay)(x:Value):List Bl:=nR b m.1 v.1 v.2.1 v.2.2.1 v.2.2.2.1 v.2.2.2.2.1 v.2.2.2.2.2.1 v.2.2.2.2.2.2.1 v.2.2.2.2.2.2.2.1 v.2.2.2.2.2.2.2.2.1 v.2.2.2.2.2.2.2.2.2.1 v.2.2.2.2.2.2.2.2.2.2.1 v.2.2.2.2.2.2.2.2.2.2.2.1 v.2.2.2.2.2.2.2.2.2.2.2.2.1 v.2.2.2.2.2.2.2.2.2.2.2.2.2 m.2.2.2.2.2.2.2.2.2.2.2.2.2.2.2.1 m.2.2.2.2.2.2.2.2.2.2.2.2.2.2.2.2.1 m.2.2.2.2.2.2.2.2.2.2.2.2.2.2.2.2.2 x
abbrev Ei(b:Nat)(x0:Bool)(x1:BitVec 64):List Bl:=[(b,102, #[vB x0,U x1])]
abbrev Py(b:Nat)(x0:Int)(x1:Int):List Bl:=[(b,122, #[vI x0,vI x1])]
abbrev NN(b:Nat)(x0:Int)(x1:Int):List Bl:=[(b,157, #[vI x0,vI x1])]
abbrev iC(b:Nat)  :List Bl:=[(b,159, #[])]
abbrev ae(b:Nat)(x0:Int)(x1:Int)(x2:Int):List Bl:=[(b,148, #[vI x0,vI x1,vI x2])]
def HB(N:Nat):Option (List Int):=(Ie N ([1]) 8).bind fun a=>some a
theorem SN(N r)(a:HB N=some r)(ro:Ro):Does prog 30 #[] ro [] (p1 (fun s_=>s_) 3 BJ r):=by
 unfold HB at a
 refine Aj follows func30 rfl 3 rfl _ fz0 (fun b=> ?_)
 refine AZ rfl<|Ad<|gB (Ls:=[]) 3 BJ [1] (fun f c g=> ?_)
 refine kB a fun j d a=>gS (Ls:=[c]) (cF pb) (fun o w z_=>OT N ([1]) 8 _ d z_.view f ((Av g (Ai (Ls:=[c]) (k:=0) rfl rfl)) o w z_)) (fun h i e=> ?_)
 refine rz rfl ?_
 cases a
 refine Bi (fun l=>Ha (v0:=h) e (EK (Sub.pick [c,i] [1] rfl)) rfl (Gj rfl))
def Lm(_:Nat)(s:BitVec 64)(a:BitVec 64):Option (BitVec 64):=some (s&&&a)
theorem TC(N s t' r)(b:Lm N s t'=some r):Gives prog 60 #[U s,U t'] (U r):=by
 unfold Lm at b
 refine As follows func60 rfl 8 rfl _ fz2 (fun a=> ?_)
 refine AZ rfl<|Ad<|rn 2 rfl<|r_X (U (s&&&t')) rfl (VP s t') rfl<|rz rfl ?_
 cases b
 exact aR eE1
def GJ(b:List (Bool×BitVec 64))(a:Int)(c:BitVec 64):Option (List (Bool×BitVec 64)):=ck (0≤a∧a<(b.length:Int)) (some ((b).set (a.toNat) (true,c)))
def Dc(N:Nat)(_:An)(b:List (Bool×BitVec 64))(a:Int)(s:BitVec 64):Option (List (Bool×BitVec 64)):=ck (0≤a∧a<(b.length:Int)) (if((b[a.toNat]!).1)=true then ck (0≤a∧a<(b.length:Int)) ((Lm N s ((b[a.toNat]!).2)).bind fun c=>GJ b a c)else GJ b a s)
theorem GR(N w_0 w_1 at' s r)(a:Dc N w_0 w_1 at' s=some r)(ro:Ro)(w_0v:Ay)(_hw_0:Aa2 ro w_0v w_0)(w_1v:Value)(Sw_1:List Bl)(hw_1:Sl 102 Ji w_1v w_1 Sw_1):Does prog 32 #[vA #[vS w_0.1,w_0v.1,w_0v.2.1,w_0v.2.2.1,w_0v.2.2.2.1,w_0v.2.2.2.2.1,w_0v.2.2.2.2.2.1,w_0v.2.2.2.2.2.2.1,w_0v.2.2.2.2.2.2.2.1,w_0v.2.2.2.2.2.2.2.2.1,w_0v.2.2.2.2.2.2.2.2.2.1,w_0v.2.2.2.2.2.2.2.2.2.2.1,w_0v.2.2.2.2.2.2.2.2.2.2.2.1,w_0v.2.2.2.2.2.2.2.2.2.2.2.2.1,w_0v.2.2.2.2.2.2.2.2.2.2.2.2.2,vI w_0.2.2.2.2.2.2.2.2.2.2.2.2.2.2.2.1,vI w_0.2.2.2.2.2.2.2.2.2.2.2.2.2.2.2.2.1,vI w_0.2.2.2.2.2.2.2.2.2.2.2.2.2.2.2.2.2,w_1v],vI at',U s] ro (List.flatten [Sw_1]) (pO (List.flatten [Sw_1]) (oI 102 Ji w_1v r (oE (vT #[]) []))):=by
 unfold Dc at a
 refine Ek follows func32 rfl 26 rfl _ fz3 (fun _ _ h_ _=>h_) (fun h=> ?_)
 refine Ad<|rA rfl fun c=>Ak<|BR (fun tt ll=> ∃(b:BitVec 64),(GJ w_1 at' b=some r)∧Is [(1,vI at'),(2,U b),(3,vP c 0)] (List.flatten [(Bj c w_0 w_0v w_1v),Sw_1]) tt ll) ?_ ?_
 ·refine Ad<|rm 3 [0] rfl<|kC a fun d a=>rI (Sl.shp hw_1) d rfl<|rF (Sl.shp hw_1) (Bb d) rfl ?_
  refine rE (Av hw_1 (Ai (Ls:=[(Bj c w_0 w_0v w_1v),Sw_1]) (k:=1) rfl rfl)) d 0 rfl<|Ak ?_
  refine aB a rfl (fun i a=> ?_) (fun i a=> ?_)
  ·refine Ag<|rm 4 [0] rfl<|kC a fun e a=>rI (Sl.shp hw_1) e rfl<|rF (Sl.shp hw_1) (Bb e) rfl ?_
   refine rE (Av hw_1 (Ai (Ls:=[(Bj c w_0 w_0v w_1v),Sw_1]) (k:=1) rfl rfl)) e 1 rfl<|kB a fun j f a=>rc _ (cF pa) (TC N s ((w_1[at'.toNat]!).2) _ f)<|rz rfl<|fg _ (Sub.pick [(Bj c w_0 w_0v w_1v),Sw_1] [0,1] rfl) ?_
   exact⟨j,a,Af rfl rfl⟩
  refine Ab<|fg _ (Sub.pick [(Bj c w_0 w_0v w_1v),Sw_1] [0,1] rfl) ?_
  exact⟨s,a,Af rfl rfl⟩
 clear a;rintro t l ⟨b,a,⟨T,rfl⟩,rfl⟩
 unfold GJ at a
 refine Ag<|r_V (vP c 18) rfl<|rl w_1v 0<|r_R [vI at',U b] rfl<|r_W (vA #[vB true,U b]) rfl (Ap rfl rfl rfl rfl)<|kC a fun g a=>rI (Sl.shp hw_1) g rfl ?_
 refine QS (Ls:=[(Bj c w_0 w_0v w_1v),Sw_1]) 1 (En:=Ji) (w_1[at'.toNat]!) (true,b) (at'.toNat) 0 rfl rfl rfl hw_1 (De g) rfl rfl rfl (HN rfl) rfl (fun m n=> ?_)
 refine Ak ?_
 cases a
 refine Vo (v0:=vT #[]) (O:=[m]) rfl (Sub.pick [(Bj c w_0 w_0v w_1v),m] [1] rfl) ⟨m,_,n,⟨rfl,rfl⟩,rfl⟩
def JY(a:Int)(b:Bool):Option (BitVec 64):=if b=true then some (0#64)else ck ((0:Int)≤a) (some (1#64<<<a.toNat))
def IF(_:Nat)(a:Int):Option (BitVec 64):=if a<0 then JY a true else JY a (decide (a≥64))
theorem PS(N slot r)(a:IF N slot=some r):Gives prog 34 #[vI slot] (U r):=by
 unfold IF at a
 refine As follows func34 rfl 11 rfl _ fz1 (fun c=> ?_)
 refine AZ rfl<|Aa fun i e=>Aa fun j f=>Ag<|rn 3 rfl<|AG 3 8 [(0,vI slot)] vB (fun b_=>JY slot b_=some r) (fun k a T=> ?_) (fun d=> ?_)
 ·unfold JY at a
  refine Ak<|f _ _ ?_
  refine aB a rfl (fun g a=> ?_) (fun g a=> ?_)
  ·refine AZ rfl ?_
   cases a
   exact aR eE1
  refine Ab<|e _ _ ?_
  refine Ad<|rn 1 rfl<|kC a fun h a=>r_W (U (1#64<<<slot.toNat)) rfl (oa (x:=1#64) rfl rfl h)<|rz rfl ?_
  cases a
  exact aR eE1
 rcases b:(decide (slot<0))with _|_
 ·replace a:=iF b a
  refine rn 3 rfl ?_
  first|exact d _ _ a rfl rfl|exact lx_cn _ _ (d _ _ a rfl rfl)
 replace a:=iD b a
 refine rn 3 rfl ?_
 first|exact d _ _ a rfl rfl|exact lx_cn _ _ (d _ _ a rfl rfl)
def Gy(N:Nat)(s:BitVec 64)(a:Int):Option Bool:=(IF N a).bind fun b=>some ((s&&&b) !=(0#64))
theorem Mw(N s slot r)(a:Gy N s slot=some r):Gives prog 17 #[U s,vI slot] (vB r):=by
 unfold Gy at a
 refine As follows func17 rfl 10 rfl _ fz2 (fun b=> ?_)
 refine AZ rfl<|Ad<|rn 2 rfl<|kB a fun c d a=>rc _ (cF Zk) (PS N slot _ d)<|r_X (U (s&&&c)) rfl (VP s c) rfl<|r_X (vB ((s&&&c) !=(0#64))) rfl (sW (s&&&c) (0#64)) rfl<|rz rfl ?_
 cases a
 exact aR eE1
def EU(N:Nat)(s:BitVec 64)(a:Int):Option (BitVec 64):=(IF N a).bind fun b=>some (s|||b)
theorem Jh(N s slot r)(a:EU N s slot=some r):Gives prog 24 #[U s,vI slot] (U r):=by
 unfold EU at a
 refine As follows func24 rfl 9 rfl _ fz2 (fun b=> ?_)
 refine AZ rfl<|Ad<|rn 2 rfl<|kB a fun d c a=>rc _ (cF Zk) (PS N slot _ c)<|r_X (U (s|||d)) rfl (sV s d) rfl<|rz rfl ?_
 cases a
 exact aR eE1
def Ej(N:Nat)(s:BitVec 64)(a:Int):Option (BitVec 64):=(IF N a).bind fun b=>some (s&&&~~~b)
theorem Jk(N s slot r)(a:Ej N s slot=some r):Gives prog 23 #[U s,vI slot] (U r):=by
 unfold Ej at a
 refine As follows func23 rfl 9 rfl _ fz2 (fun b=> ?_)
 refine AZ rfl<|Ad<|rn 2 rfl<|kB a fun d c a=>rc _ (cF Zk) (PS N slot _ c)<|r_X (U (s&&&~~~d)) rfl (mE s d) rfl<|rz rfl ?_
 cases a
 exact aR eE1
def Gn(N:Nat)(a:Int)(b:Int)(s:BitVec 64):Option (BitVec 64):=if a=25 then(EU N s b).bind fun d=>some d else if a=26 then(Ej N s b).bind fun c=>some c else some s
theorem WF(N x_0 x_1 s r)(a:Gn N x_0 x_1 s=some r):Gives prog 37 #[vA #[vI x_0,vI x_1],U s] (U r):=by
 unfold Gn at a
 refine As follows func37 rfl 20 rfl _ fz2 (fun d=> ?_)
 refine Ad<|rA rfl fun i=>rz rfl<|Aa fun j e=>AY [0] rfl<|Ah<|AZ rfl<|aE a rfl (fun f a=> ?_) (fun f a=> ?_)
 ·refine Ad<|rm 3 [0] rfl<|kB a fun k g a=>rc _ (cF TR) (Jh N s x_1 _ g)<|rz rfl ?_
  cases a
  exact aR eE1
 refine AZ rfl<|aE a rfl (fun b a=> ?_) (fun b a=> ?_)
 ·refine Ad<|rm 3 [0] rfl<|kB a fun h c a=>rc _ (cF Zo) (Jk N s x_1 _ c)<|rz rfl ?_
  cases a
  exact aR eE1
 refine Ab<|e _ _ ?_
 refine AZ rfl ?_
 cases a
 exact aR eE1
def IG(_:Nat)(b:Int)(_:Int)(a:Int):Option Int:=if b=28 then ck (R64 (0 - a)) (some (0 - a))else some a
theorem cQ(N x_0 x_1 x_2 r)(a:IG N x_0 x_1 x_2=some r):Gives prog 38 #[vA #[vI x_0,vI x_1,vI x_2]] (vI r):=by
 unfold IG at a
 refine As follows func38 rfl 11 rfl _ fz1 (fun b=> ?_)
 refine Ad<|rA rfl fun f=>rz rfl<|Aa fun g c=>AY [0] rfl<|aE a rfl (fun d a=> ?_) (fun d a=> ?_)
 ·refine Ad<|rm 2 [0] rfl<|kC a fun e a=>rX e rfl<|rz rfl ?_
  cases a
  exact aR eE1
 refine Ab<|c _ _ ?_
 refine AY [0] rfl ?_
 cases a
 exact aR eE1
def GM(N:Nat)(e:Int×Int×Bool)(b:Int)(a:BitVec 64→Int→Option (BitVec 64))(c:BitVec 64)(d:Bool):Option (BitVec 64):=if d=true then ck (R64 (e.1+b)) ((EU N c (e.1+b)).bind fun f=>ck (R64 (b+1)) (a f (b+1)))else ck (R64 (b+1)) (a c (b+1))
def Hm(N:Nat)(n:Int)(s:BitVec 64)(c:Int×Int×Bool)(b:Int)(a:BitVec 64→Int→Option (BitVec 64))(d:BitVec 64)(e:Bool):Option (BitVec 64):=if e=true then ck ((R64 (c.1+(b - max (-4) (min n 4))))) ((Gy N s (c.1+(b - max (-4) (min n 4)))).bind fun f=>GM N c b a d f)else GM N c b a d false
def Cd(N:Nat)(n:Int)(s:BitVec 64)(c:Int×Int×Bool):Nat→BitVec 64→Int→Option (BitVec 64)
  |0,_,_=>none
  |d+1,b,a=>if a<c.2.1 then ck (R64 (c.1+a)) ((Ej N b (c.1+a)).bind fun e=>ck (R64 (a - max (-4) (min n 4))) (if((a - max (-4) (min n 4)):Int)≥0 then Hm N n s c a (Cd N n s c d) e (decide (((a - max (-4) (min n 4)):Int)<c.2.1))else Hm N n s c a (Cd N n s c d) e false))else some b
def Gz(N:Nat)(m:An)(a:Int)(n:Int)(s:BitVec 64):Option (BitVec 64):=(GY N m a).bind fun b=>if b.2.2=true then Cd N n s b N s 0 else some s
theorem PT(N m inst n s r)(a:Gz N m inst n s=some r)(ro)(mv:Ay)(hm:Aa2 ro mv m):Does prog 10 #[vA (Ac m mv),vI inst,vI n,U s] ro [] (pV (U r)):=by
 unfold Gz at a
 refine Aj follows func10 rfl 62 rfl _ fz4 (fun H=> ?_)
 refine Ad<|rA rfl fun V=>rz rfl<|Ad<|rm 2 [0] rfl<|kB a fun e I a=>gV _ (cF Zp) (fun o w z_=>Me N m inst _ I z_.view mv (Aa2.mono z_.ro_cell hm))<|rz rfl<|Aa fun W J=>AZ rfl<|Bv _ rfl (fun k=> ?_) (fun k=> ?_)
 ·replace a:=ifn (Bool.eq_false_iff.1 (CM k)) a
  refine AZ rfl ?_
  cases a
  exact aR eV1
 replace a:=ifp (CN k) a
 refine Ab<|J _ _ ?_
 refine Ad<|rn 1 rfl<|r_W (vI (min n 4)) rfl (cX rfl rfl)<|r_W (vI (max (-4) (min n 4))) rfl (cY rfl rfl)<|rz rfl<|AZ rfl<|Aa fun M p=>AZ rfl<|Ah<|Bo [] (Sub.of (suC _ suN))<|AC (fun tt ll nn=> ∃(d:Nat) (c:BitVec 64) (b:Int),(Cd N n s e d c b=some r)∧Is [(2,vI (max (-4) (min n 4))),(3,U s),(9,vI e.1),(10,vI e.2.1),(12,U c),(29,vI e.2.1),(30,vI b)] [] tt ll∧nn=d+1) (N+1) ?_ ?_
 ·exact⟨N,s,0,a,Af rfl rfl,rfl⟩
 clear a;rintro t l _ ⟨d,c,b,a,⟨⟨T,rfl⟩,rfl⟩,rfl⟩
 rcases d with _|d
 ·exact absurd a (by simp [Cd])
 rw [Cd] at a
 refine AZ rfl<|Aa fun O q=>aD a rfl (fun u a=> ?_) (fun u a=> ?_)
 ·refine Ab<|q _ _ ?_
  refine Aa fun P h=>Ah<|AZ rfl<|Ad<|rn 3 rfl<|kC a fun v a=>rX v rfl<|kB a fun f x a=>rc _ (cF Zo) (Jk N c (e.1+b) _ x)<|rz rfl<|Ad<|rn 2 rfl<|kC a fun y a=>rX y rfl<|rz rfl<|Aa fun Q z=>Ag<|rn 3 rfl<|AG 4 47 [(2,vI (max (-4) (min n 4))),(3,U s),(9,vI e.1),(10,vI e.2.1),(12,U f),(13,vI b),(14,vI (b - max (-4) (min n 4))),(29,vI e.2.1),(30,vI b)] vB (fun b_=>Hm N n s e b (Cd N n s e d) f b_=some r) (fun K a T=> ?_) (fun g=> ?_)
  ·unfold Hm at a
   refine rn 1 rfl<|AG 6 54 [(2,vI (max (-4) (min n 4))),(3,U s),(9,vI e.1),(10,vI e.2.1),(12,U f),(13,vI b),(29,vI e.2.1),(30,vI b)] vB (fun b_=>GM N e b (Cd N n s e d) f b_=some r) (fun R a T=> ?_) (fun g=> ?_)
   ·unfold GM at a
    refine Ak<|z _ _ ?_
    refine aB a rfl (fun A a=> ?_) (fun A a=> ?_)
    ·refine Ag<|rn 3 rfl<|kC a fun B a=>rX B rfl<|kB a fun L C a=>rc _ (cF TR) (Jh N f (e.1+b) _ C)<|rz rfl<|h _ _ ?_
     refine Ag<|kC a fun D a=>rX D rfl<|rz rfl<|fg _ (Sub.of suN) ?_
     exact⟨d+1,by omega,d,L,(b+1),a,Af rfl rfl,rfl⟩
    refine Ab<|h _ _ ?_
    refine Ag<|kC a fun E a=>rX E rfl<|rz rfl<|fg _ (Sub.of suN) ?_
    exact⟨d+1,by omega,d,f,(b+1),a,Af rfl rfl,rfl⟩
   rcases i:K with _|_
   ·replace a:=iB i a
    refine rn 6 rfl ?_
    first|exact g _ _ a rfl rfl|exact lx_cn _ _ (g _ _ a rfl rfl)
   replace a:=ifp i a
   refine rn 3 rfl<|r_y rfl<|kC a fun F a=>rX F rfl<|r_y rfl<|kB a fun S G a=>rc _ (cF Zq) (Mw N s (e.1+(b - max (-4) (min n 4))) _ G)<|rn 1 rfl ?_
   first|exact g _ _ a rfl rfl|exact lx_cn _ _ (g _ _ a rfl rfl)
  rcases j:(decide (((b - max (-4) (min n 4)):Int)≥0))with _|_
  ·replace a:=iF j a
   refine rn 4 rfl ?_
   first|exact g _ _ a rfl rfl|exact lx_cn _ _ (g _ _ a rfl rfl)
  replace a:=iD j a
  refine rn 4 rfl ?_
  first|exact g _ _ a rfl rfl|exact lx_cn _ _ (g _ _ a rfl rfl)
 refine AD<|p _ _ ?_
 refine AZ rfl ?_
 cases a
 exact aR eV1
def Gk(N:Nat)(m:An)(x:Aa0)(s:BitVec 64):Option ((BitVec 64)×Int):=Aa0.on x (some (s,0)) (fun _ g _=>(Gy N s g).bind fun l=>if l=true then some (s,0)else some (0#64,11)) (fun e f=>(Gn N e f s).bind fun i=>some (i,0)) (fun b a d=>(IG N b a d).bind fun j=>(Gz N m a j s).bind fun h=>some (h,0)) (fun c _=>(EU N s c).bind fun k=>some (k,0)) (fun _ _=>some (s,0)) (some (s,0)) (fun _ _=>some (s,0)) (fun _ _=>some (s,0)) (fun _ _=>some (s,0)) (fun _ _=>some (s,0)) (fun _=>some (s,0))
theorem NW(N m x s r)(b:Gk N m x s=some r)(ro)(mv:Ay)(hm:Aa2 ro mv m):Does prog 19 #[vA (Ac m mv),Aa0.v x,U s] ro [] (pV (vT #[U r.1,vI r.2])):=by
 unfold Gk at b
 refine Aj follows func19 rfl 45 rfl _ fz3 (fun p=> ?_)
 refine Ad<|rA rfl fun F=>rz rfl<|Aa fun G d=>AZ rfl<|Ah<|Aa fun H c=>Ag ?_
 rcases Aa0.cases x with a|⟨x7_0,x8_1,x9_2,a⟩|⟨x10_0,x11_1,a⟩|⟨x12_0,x13_1,x14_2,a⟩|⟨x15_0,x16_1,a⟩|⟨x17_0,x18_1,a⟩|a|⟨x19_0,x20_1,a⟩|⟨x21_0,x22_1,a⟩|⟨x23_0,x24_1,a⟩|⟨x25_0,x26_1,a⟩|⟨x27_0,a⟩
 ·replace b:=Aa0.on_nil a b
  refine r_W (vT #[vA #[vI 0,vI 0,vI 0],vB false]) rfl (AB ((rfl:_=Aa0.v x).trans (show Aa0.v x=Value.nilIface from by rw [a];rfl)) rfl) ?_
  refine rz rfl<|c _ _ ?_
  refine Ca rfl ?_
  refine Ad<|r_W (vT #[vA #[vI 0,vI 0],vB false]) rfl (AB ((rfl:_=Aa0.v x).trans (show Aa0.v x=Value.nilIface from by rw [a];rfl)) rfl) ?_
  refine rz rfl<|Ca rfl ?_
  refine Ad<|r_W (vT #[vA #[vI 0,vI 0,vI 0],vB false]) rfl (AB ((rfl:_=Aa0.v x).trans (show Aa0.v x=Value.nilIface from by rw [a];rfl)) rfl) ?_
  refine rz rfl<|Ca rfl ?_
  refine Ad<|r_W (vT #[vA #[vI 0,vI 0],vB false]) rfl (AB ((rfl:_=Aa0.v x).trans (show Aa0.v x=Value.nilIface from by rw [a];rfl)) rfl) ?_
  refine rz rfl<|Ca rfl ?_
  refine Ab<|d _ _ ?_
  refine AZ rfl ?_
  cases b
  exact aR eV2
 ·replace b:=Aa0.on_t114 a b
  refine r_W (vT #[vA #[vI x7_0,vI x8_1,vI x9_2],vB true]) rfl (AB ((rfl:_=Aa0.v x).trans (show Aa0.v x=Value.iface 114 (vA #[vI x7_0,vI x8_1,vI x9_2])from by rw [a];rfl)) rfl) ?_
  refine rz rfl<|c _ _ ?_
  refine Lq rfl ?_
  refine Ad<|rA rfl fun t=>ry [0] rfl<|Ad<|rm 3 [0] rfl<|kB b fun u h b=>rc _ (cF Zq) (Mw N s x8_1 _ h)<|rz rfl<|Bv _ rfl (fun e=> ?_) (fun e=> ?_)
  ·replace b:=ifn (Bool.eq_false_iff.1 (CM e)) b
   refine AZ rfl ?_
   cases b
   exact aR eV2
  replace b:=ifp (CN e) b
  refine Ab<|d _ _ ?_
  refine AZ rfl ?_
  cases b
  exact aR eV2
 ·replace b:=Aa0.on_t116 a b
  refine r_W (vT #[vA #[vI 0,vI 0,vI 0],vB false]) rfl (AB ((rfl:_=Aa0.v x).trans (show Aa0.v x=Value.iface 116 (vA #[vI x10_0,vI x11_1])from by rw [a];rfl)) rfl) ?_
  refine rz rfl<|c _ _ ?_
  refine Ca rfl ?_
  refine Ad<|r_W (vT #[vA #[vI x10_0,vI x11_1],vB true]) rfl (AB ((rfl:_=Aa0.v x).trans (show Aa0.v x=Value.iface 116 (vA #[vI x10_0,vI x11_1])from by rw [a];rfl)) rfl) ?_
  refine rz rfl<|Lq rfl ?_
  refine Ad<|rA rfl fun y=>ry [0] rfl<|Ad<|rm 2 [0] rfl<|kB b fun z i b=>rc _ (cF pr) (WF N x10_0 x11_1 s _ i)<|rz rfl ?_
  cases b
  exact aR eV2
 ·replace b:=Aa0.on_t119 a b
  refine r_W (vT #[vA #[vI 0,vI 0,vI 0],vB false]) rfl (AB ((rfl:_=Aa0.v x).trans (show Aa0.v x=Value.iface 119 (vA #[vI x12_0,vI x13_1,vI x14_2])from by rw [a];rfl)) rfl) ?_
  refine rz rfl<|c _ _ ?_
  refine Ca rfl ?_
  refine Ad<|r_W (vT #[vA #[vI 0,vI 0],vB false]) rfl (AB ((rfl:_=Aa0.v x).trans (show Aa0.v x=Value.iface 119 (vA #[vI x12_0,vI x13_1,vI x14_2])from by rw [a];rfl)) rfl) ?_
  refine rz rfl<|Ca rfl ?_
  refine Ad<|r_W (vT #[vA #[vI x12_0,vI x13_1,vI x14_2],vB true]) rfl (AB ((rfl:_=Aa0.v x).trans (show Aa0.v x=Value.iface 119 (vA #[vI x12_0,vI x13_1,vI x14_2])from by rw [a];rfl)) rfl) ?_
  refine rz rfl<|Lq rfl ?_
  refine Ad<|rA rfl fun A=>ry [0] rfl<|Aa fun B j=>Bw [(some 36,false)] (conG prog [(36,fun _ _ v_ L_ U_=> ∀k,IG N x12_0 x13_1 x14_2=some k→ ∀l,Gz N m x13_1 k s=some l→(pV (U l)) v_ L_ U_)]) [] (by decide+kernel) (fun I=>AH)<|rm 4 [1,0,0] rfl<|kB b fun q f b=>rc _ (cF pp) (cQ N x12_0 x13_1 x14_2 _ f)<|rn 1 rfl<|kB b fun C g b=>rg _ (cF eO) (fun o w z_=>PT N m x13_1 q s _ g z_.view mv (Aa2.mono z_.ro_cell hm)) (fun _ _ v_ L_ U_=>⟨fun h_=>h_ _ f _ g,fun h_=>by intro _ e_;cases q1 (e_.symm.trans f);intro _ e_;cases q1 (e_.symm.trans g);exact h_⟩) ?_
  refine rz rfl<|j _ _ ?_
  cases b
  exact aR eV2
 ·replace b:=Aa0.on_t122 a b
  refine r_W (vT #[vA #[vI 0,vI 0,vI 0],vB false]) rfl (AB ((rfl:_=Aa0.v x).trans (show Aa0.v x=Value.iface 122 (vA #[vI x15_0,vI x16_1])from by rw [a];rfl)) rfl) ?_
  refine rz rfl<|c _ _ ?_
  refine Ca rfl ?_
  refine Ad<|r_W (vT #[vA #[vI 0,vI 0],vB false]) rfl (AB ((rfl:_=Aa0.v x).trans (show Aa0.v x=Value.iface 122 (vA #[vI x15_0,vI x16_1])from by rw [a];rfl)) rfl) ?_
  refine rz rfl<|Ca rfl ?_
  refine Ad<|r_W (vT #[vA #[vI 0,vI 0,vI 0],vB false]) rfl (AB ((rfl:_=Aa0.v x).trans (show Aa0.v x=Value.iface 122 (vA #[vI x15_0,vI x16_1])from by rw [a];rfl)) rfl) ?_
  refine rz rfl<|Ca rfl ?_
  refine Ad<|r_W (vT #[vA #[vI x15_0,vI x16_1],vB true]) rfl (AB ((rfl:_=Aa0.v x).trans (show Aa0.v x=Value.iface 122 (vA #[vI x15_0,vI x16_1])from by rw [a];rfl)) rfl) ?_
  refine rz rfl<|Lq rfl ?_
  refine Ad<|rA rfl fun D=>ry [0] rfl<|Ad<|rm 3 [0] rfl<|kB b fun E n b=>rc _ (cF TR) (Jh N s x15_0 _ n)<|rz rfl ?_
  cases b
  exact aR eV2
 ·replace b:=Aa0.on_t157 a b
  refine r_W (vT #[vA #[vI 0,vI 0,vI 0],vB false]) rfl (AB ((rfl:_=Aa0.v x).trans (show Aa0.v x=Value.iface 157 (vA #[vI x17_0,vI x18_1])from by rw [a];rfl)) rfl) ?_
  refine rz rfl<|c _ _ ?_
  refine Ca rfl ?_
  refine Ad<|r_W (vT #[vA #[vI 0,vI 0],vB false]) rfl (AB ((rfl:_=Aa0.v x).trans (show Aa0.v x=Value.iface 157 (vA #[vI x17_0,vI x18_1])from by rw [a];rfl)) rfl) ?_
  refine rz rfl<|Ca rfl ?_
  refine Ad<|r_W (vT #[vA #[vI 0,vI 0,vI 0],vB false]) rfl (AB ((rfl:_=Aa0.v x).trans (show Aa0.v x=Value.iface 157 (vA #[vI x17_0,vI x18_1])from by rw [a];rfl)) rfl) ?_
  refine rz rfl<|Ca rfl ?_
  refine Ad<|r_W (vT #[vA #[vI 0,vI 0],vB false]) rfl (AB ((rfl:_=Aa0.v x).trans (show Aa0.v x=Value.iface 157 (vA #[vI x17_0,vI x18_1])from by rw [a];rfl)) rfl) ?_
  refine rz rfl<|Ca rfl ?_
  refine Ab<|d _ _ ?_
  refine AZ rfl ?_
  cases b
  exact aR eV2
 ·replace b:=Aa0.on_t159 a b
  refine r_W (vT #[vA #[vI 0,vI 0,vI 0],vB false]) rfl (AB ((rfl:_=Aa0.v x).trans (show Aa0.v x=Value.iface 159 (vA #[])from by rw [a];rfl)) rfl) ?_
  refine rz rfl<|c _ _ ?_
  refine Ca rfl ?_
  refine Ad<|r_W (vT #[vA #[vI 0,vI 0],vB false]) rfl (AB ((rfl:_=Aa0.v x).trans (show Aa0.v x=Value.iface 159 (vA #[])from by rw [a];rfl)) rfl) ?_
  refine rz rfl<|Ca rfl ?_
  refine Ad<|r_W (vT #[vA #[vI 0,vI 0,vI 0],vB false]) rfl (AB ((rfl:_=Aa0.v x).trans (show Aa0.v x=Value.iface 159 (vA #[])from by rw [a];rfl)) rfl) ?_
  refine rz rfl<|Ca rfl ?_
  refine Ad<|r_W (vT #[vA #[vI 0,vI 0],vB false]) rfl (AB ((rfl:_=Aa0.v x).trans (show Aa0.v x=Value.iface 159 (vA #[])from by rw [a];rfl)) rfl) ?_
  refine rz rfl<|Ca rfl ?_
  refine Ab<|d _ _ ?_
  refine AZ rfl ?_
  cases b
  exact aR eV2
 ·replace b:=Aa0.on_t167 a b
  refine r_W (vT #[vA #[vI 0,vI 0,vI 0],vB false]) rfl (AB ((rfl:_=Aa0.v x).trans (show Aa0.v x=Value.iface 167 (vA #[vI x19_0,U (hi x20_1),U (lo x20_1)])from by rw [a];rfl)) rfl) ?_
  refine rz rfl<|c _ _ ?_
  refine Ca rfl ?_
  refine Ad<|r_W (vT #[vA #[vI 0,vI 0],vB false]) rfl (AB ((rfl:_=Aa0.v x).trans (show Aa0.v x=Value.iface 167 (vA #[vI x19_0,U (hi x20_1),U (lo x20_1)])from by rw [a];rfl)) rfl) ?_
  refine rz rfl<|Ca rfl ?_
  refine Ad<|r_W (vT #[vA #[vI 0,vI 0,vI 0],vB false]) rfl (AB ((rfl:_=Aa0.v x).trans (show Aa0.v x=Value.iface 167 (vA #[vI x19_0,U (hi x20_1),U (lo x20_1)])from by rw [a];rfl)) rfl) ?_
  refine rz rfl<|Ca rfl ?_
  refine Ad<|r_W (vT #[vA #[vI 0,vI 0],vB false]) rfl (AB ((rfl:_=Aa0.v x).trans (show Aa0.v x=Value.iface 167 (vA #[vI x19_0,U (hi x20_1),U (lo x20_1)])from by rw [a];rfl)) rfl) ?_
  refine rz rfl<|Ca rfl ?_
  refine Ab<|d _ _ ?_
  refine AZ rfl ?_
  cases b
  exact aR eV2
 ·replace b:=Aa0.on_t168 a b
  refine r_W (vT #[vA #[vI 0,vI 0,vI 0],vB false]) rfl (AB ((rfl:_=Aa0.v x).trans (show Aa0.v x=Value.iface 168 (vA #[vI x21_0,vI x22_1])from by rw [a];rfl)) rfl) ?_
  refine rz rfl<|c _ _ ?_
  refine Ca rfl ?_
  refine Ad<|r_W (vT #[vA #[vI 0,vI 0],vB false]) rfl (AB ((rfl:_=Aa0.v x).trans (show Aa0.v x=Value.iface 168 (vA #[vI x21_0,vI x22_1])from by rw [a];rfl)) rfl) ?_
  refine rz rfl<|Ca rfl ?_
  refine Ad<|r_W (vT #[vA #[vI 0,vI 0,vI 0],vB false]) rfl (AB ((rfl:_=Aa0.v x).trans (show Aa0.v x=Value.iface 168 (vA #[vI x21_0,vI x22_1])from by rw [a];rfl)) rfl) ?_
  refine rz rfl<|Ca rfl ?_
  refine Ad<|r_W (vT #[vA #[vI 0,vI 0],vB false]) rfl (AB ((rfl:_=Aa0.v x).trans (show Aa0.v x=Value.iface 168 (vA #[vI x21_0,vI x22_1])from by rw [a];rfl)) rfl) ?_
  refine rz rfl<|Ca rfl ?_
  refine Ab<|d _ _ ?_
  refine AZ rfl ?_
  cases b
  exact aR eV2
 ·replace b:=Aa0.on_t169 a b
  refine r_W (vT #[vA #[vI 0,vI 0,vI 0],vB false]) rfl (AB ((rfl:_=Aa0.v x).trans (show Aa0.v x=Value.iface 169 (vA #[vI x23_0,vI x24_1])from by rw [a];rfl)) rfl) ?_
  refine rz rfl<|c _ _ ?_
  refine Ca rfl ?_
  refine Ad<|r_W (vT #[vA #[vI 0,vI 0],vB false]) rfl (AB ((rfl:_=Aa0.v x).trans (show Aa0.v x=Value.iface 169 (vA #[vI x23_0,vI x24_1])from by rw [a];rfl)) rfl) ?_
  refine rz rfl<|Ca rfl ?_
  refine Ad<|r_W (vT #[vA #[vI 0,vI 0,vI 0],vB false]) rfl (AB ((rfl:_=Aa0.v x).trans (show Aa0.v x=Value.iface 169 (vA #[vI x23_0,vI x24_1])from by rw [a];rfl)) rfl) ?_
  refine rz rfl<|Ca rfl ?_
  refine Ad<|r_W (vT #[vA #[vI 0,vI 0],vB false]) rfl (AB ((rfl:_=Aa0.v x).trans (show Aa0.v x=Value.iface 169 (vA #[vI x23_0,vI x24_1])from by rw [a];rfl)) rfl) ?_
  refine rz rfl<|Ca rfl ?_
  refine Ab<|d _ _ ?_
  refine AZ rfl ?_
  cases b
  exact aR eV2
 ·replace b:=Aa0.on_t171 a b
  refine r_W (vT #[vA #[vI 0,vI 0,vI 0],vB false]) rfl (AB ((rfl:_=Aa0.v x).trans (show Aa0.v x=Value.iface 171 (vA #[vI x25_0,vI x26_1])from by rw [a];rfl)) rfl) ?_
  refine rz rfl<|c _ _ ?_
  refine Ca rfl ?_
  refine Ad<|r_W (vT #[vA #[vI 0,vI 0],vB false]) rfl (AB ((rfl:_=Aa0.v x).trans (show Aa0.v x=Value.iface 171 (vA #[vI x25_0,vI x26_1])from by rw [a];rfl)) rfl) ?_
  refine rz rfl<|Ca rfl ?_
  refine Ad<|r_W (vT #[vA #[vI 0,vI 0,vI 0],vB false]) rfl (AB ((rfl:_=Aa0.v x).trans (show Aa0.v x=Value.iface 171 (vA #[vI x25_0,vI x26_1])from by rw [a];rfl)) rfl) ?_
  refine rz rfl<|Ca rfl ?_
  refine Ad<|r_W (vT #[vA #[vI 0,vI 0],vB false]) rfl (AB ((rfl:_=Aa0.v x).trans (show Aa0.v x=Value.iface 171 (vA #[vI x25_0,vI x26_1])from by rw [a];rfl)) rfl) ?_
  refine rz rfl<|Ca rfl ?_
  refine Ab<|d _ _ ?_
  refine AZ rfl ?_
  cases b
  exact aR eV2
 replace b:=Aa0.on_t173 a b
 refine r_W (vT #[vA #[vI 0,vI 0,vI 0],vB false]) rfl (AB ((rfl:_=Aa0.v x).trans (show Aa0.v x=Value.iface 173 (vA #[vI x27_0])from by rw [a];rfl)) rfl) ?_
 refine rz rfl<|c _ _ ?_
 refine Ca rfl ?_
 refine Ad<|r_W (vT #[vA #[vI 0,vI 0],vB false]) rfl (AB ((rfl:_=Aa0.v x).trans (show Aa0.v x=Value.iface 173 (vA #[vI x27_0])from by rw [a];rfl)) rfl) ?_
 refine rz rfl<|Ca rfl ?_
 refine Ad<|r_W (vT #[vA #[vI 0,vI 0,vI 0],vB false]) rfl (AB ((rfl:_=Aa0.v x).trans (show Aa0.v x=Value.iface 173 (vA #[vI x27_0])from by rw [a];rfl)) rfl) ?_
 refine rz rfl<|Ca rfl ?_
 refine Ad<|r_W (vT #[vA #[vI 0,vI 0],vB false]) rfl (AB ((rfl:_=Aa0.v x).trans (show Aa0.v x=Value.iface 173 (vA #[vI x27_0])from by rw [a];rfl)) rfl) ?_
 refine rz rfl<|Ca rfl ?_
 refine Ab<|d _ _ ?_
 refine AZ rfl ?_
 cases b
 exact aR eV2
def AX(N:Nat)(e:An)(d:(BitVec 64)×Int)(a:Int)(b:List (Bool×BitVec 64)):Option (Int×(List (Bool×BitVec 64))):=(Dc N e b a d.1).bind fun c=>ck ((c).length=(b).length) (some (0,c))
def Hg(N:Nat)(d:An)(a:List (Bool×BitVec 64))(b:Int)(x:Aa0):Option (Int×(List (Bool×BitVec 64))):=ck (0≤b∧b<(a.length:Int)) (if((a[b.toNat]!).1)=true then(Gk N d x ((a[b.toNat]!).2)).bind fun c=>if(c.2:Int)≠0 then some (c.2,a)else ck (R64 (b+1)) (Aa0.on x (AX N d c (b+1) a) (fun _ _ _=>AX N d c (b+1) a) (fun _ _=>AX N d c (b+1) a) (fun _ _ _=>AX N d c (b+1) a) (fun h i=>(Ej N ((a[b.toNat]!).2) h).bind fun e=>(Dc N d a i e).bind fun j=>ck ((j).length=(a).length) (AX N d c (b+1) j)) (fun g f=>(Dc N d a f c.1).bind fun e=>ck ((e).length=(a).length) (if g=31 then some (0,e)else AX N d c (b+1) e)) (ck ((R64 ((a.length:Int) - 1))) (AX N d c ((a.length:Int) - 1) a)) (fun _ _=>AX N d c (b+1) a) (fun _ _=>AX N d c (b+1) a) (fun _ _=>AX N d c (b+1) a) (fun _ _=>AX N d c (b+1) a) (fun _=>AX N d c (b+1) a))else some (0,a))
theorem OZ(N w_0 w_1 at' x r)(b:Hg N w_0 w_1 at' x=some r)(ro)(w_0v:Ay)(hw_0:Aa2 ro w_0v w_0)(w_1v:Value)(Sw_1:List Bl)(hw_1:Sl 102 Ji w_1v w_1 Sw_1):Does prog 33 #[vA #[vS w_0.1,w_0v.1,w_0v.2.1,w_0v.2.2.1,w_0v.2.2.2.1,w_0v.2.2.2.2.1,w_0v.2.2.2.2.2.1,w_0v.2.2.2.2.2.2.1,w_0v.2.2.2.2.2.2.2.1,w_0v.2.2.2.2.2.2.2.2.1,w_0v.2.2.2.2.2.2.2.2.2.1,w_0v.2.2.2.2.2.2.2.2.2.2.1,w_0v.2.2.2.2.2.2.2.2.2.2.2.1,w_0v.2.2.2.2.2.2.2.2.2.2.2.2.1,w_0v.2.2.2.2.2.2.2.2.2.2.2.2.2,vI w_0.2.2.2.2.2.2.2.2.2.2.2.2.2.2.2.1,vI w_0.2.2.2.2.2.2.2.2.2.2.2.2.2.2.2.2.1,vI w_0.2.2.2.2.2.2.2.2.2.2.2.2.2.2.2.2.2,w_1v],vI at',Aa0.v x] ro (List.flatten [Sw_1]) (pO (List.flatten [Sw_1]) (oI 102 Ji w_1v r.2 (oE (vI r.1) []))):=by
 unfold Hg at b
 refine Ek follows func33 rfl 71 rfl _ fz3 (fun _ _ h_ _=>h_) (fun P=> ?_)
 refine Ad<|rA rfl fun d=>rz rfl<|Ad<|rm 3 [0] rfl<|kC b fun B b=>rI (Sl.shp hw_1) B rfl ?_
 refine rE (Av hw_1 (Ai (Ls:=[(Bj d w_0 w_0v w_1v),Sw_1]) (k:=1) rfl rfl)) B 0 rfl ?_
 refine rA rfl fun f=>ry [0] rfl ?_
 refine Aa fun K6 S=>AY [0] rfl<|Bv _ rfl (fun y=> ?_) (fun y=> ?_)
 ·replace b:=ifn (Bool.eq_false_iff.1 (CM y)) b
  refine AZ rfl ?_
  cases b
  refine Bi (fun Q=>Je (v0:=vI 0) (O:=[Sw_1]) (Gj rfl) (Sub.pick [(Ei f ((w_1[at'.toNat]!).1) ((w_1[at'.toNat]!).2)),(Bj d w_0 w_0v w_1v),Sw_1] [2] rfl) ⟨Sw_1,_,hw_1,⟨rfl,rfl⟩,rfl⟩)
 replace b:=ifp (CN y) b
 refine Ab<|S _ _ ?_
 refine Ad<|rm 5 [1,0] rfl<|kB b fun i C b=>gV _ (cF eK) (fun o w z_=>NW N w_0 x ((w_1[at'.toNat]!).2) _ C z_.view w_0v (Aa2.mono z_.ro_cell hw_0))<|rz rfl<|Aa fun ab D=>AZ rfl<|aN b rfl (fun E b=> ?_) (fun E b=> ?_)
 ·refine AZ rfl<|Gm [(6,vI i.2)] rfl (fun T=> ?_)
  cases b
  refine Bi (fun Q=>Je (v0:=vI i.2) (O:=[Sw_1]) (Gj rfl) (Sub.pick [(Ei f ((w_1[at'.toNat]!).1) ((w_1[at'.toNat]!).2)),(Bj d w_0 w_0v w_1v),Sw_1] [2] rfl) ⟨Sw_1,_,hw_1,⟨rfl,rfl⟩,rfl⟩)
 refine Ab<|D _ _ ?_
 refine Ad<|rn 1 rfl<|kC b fun F b=>rX F rfl<|rz rfl ?_
 refine BR (fun tt ll=> ∃(g:Int) (m:List (Bool×BitVec 64)),(AX N w_0 i g m=some r)∧ ∃(e:List Bl),Sl 102 Ji w_1v m e∧Is [(3,vP d 0),(8,U i.1),(10,vI g)] (List.flatten [(Bj d w_0 w_0v w_1v),e]) tt ll) ?_ ?_
 ·refine AZ rfl<|Gm [(3,vP d 0),(7,vP f 0),(8,U i.1),(10,vI (at'+1)),(36,Aa0.v x)] rfl (fun T=> ?_)
  refine Ah<|Aa fun ac c=>Ag ?_
  rcases Aa0.cases x with a|⟨x29_0,x30_1,x31_2,a⟩|⟨x32_0,x33_1,a⟩|⟨x34_0,x35_1,x36_2,a⟩|⟨x37_0,x38_1,a⟩|⟨x39_0,x40_1,a⟩|a|⟨x41_0,x42_1,a⟩|⟨x43_0,x44_1,a⟩|⟨x45_0,x46_1,a⟩|⟨x47_0,x48_1,a⟩|⟨x49_0,a⟩
  ·replace b:=Aa0.on_nil a b
   refine r_W (vT #[vA #[vI 0,vI 0],vB false]) rfl (AB ((rfl:_=Aa0.v x).trans (show Aa0.v x=Value.nilIface from by rw [a];rfl)) rfl) ?_
   refine rz rfl<|c _ _ ?_
   refine Ca rfl ?_
   refine Ad<|r_W (vT #[vA #[vI 0,vI 0],vB false]) rfl (AB ((rfl:_=Aa0.v x).trans (show Aa0.v x=Value.nilIface from by rw [a];rfl)) rfl) ?_
   refine rz rfl<|Ca rfl ?_
   refine Ad<|r_W (vT #[vA #[],vB false]) rfl (AB ((rfl:_=Aa0.v x).trans (show Aa0.v x=Value.nilIface from by rw [a];rfl)) rfl) ?_
   refine rz rfl<|Ca rfl ?_
   refine Ab<|fg _ (Sub.pick [(Ei f ((w_1[at'.toNat]!).1) ((w_1[at'.toNat]!).2)),(Bj d w_0 w_0v w_1v),Sw_1] [1,2] rfl) ?_
   exact⟨(at'+1),w_1,b,Sw_1,hw_1,Af rfl rfl⟩
  ·replace b:=Aa0.on_t114 a b
   refine r_W (vT #[vA #[vI 0,vI 0],vB false]) rfl (AB ((rfl:_=Aa0.v x).trans (show Aa0.v x=Value.iface 114 (vA #[vI x29_0,vI x30_1,vI x31_2])from by rw [a];rfl)) rfl) ?_
   refine rz rfl<|c _ _ ?_
   refine Ca rfl ?_
   refine Ad<|r_W (vT #[vA #[vI 0,vI 0],vB false]) rfl (AB ((rfl:_=Aa0.v x).trans (show Aa0.v x=Value.iface 114 (vA #[vI x29_0,vI x30_1,vI x31_2])from by rw [a];rfl)) rfl) ?_
   refine rz rfl<|Ca rfl ?_
   refine Ad<|r_W (vT #[vA #[],vB false]) rfl (AB ((rfl:_=Aa0.v x).trans (show Aa0.v x=Value.iface 114 (vA #[vI x29_0,vI x30_1,vI x31_2])from by rw [a];rfl)) rfl) ?_
   refine rz rfl<|Ca rfl ?_
   refine Ab<|fg _ (Sub.pick [(Ei f ((w_1[at'.toNat]!).1) ((w_1[at'.toNat]!).2)),(Bj d w_0 w_0v w_1v),Sw_1] [1,2] rfl) ?_
   exact⟨(at'+1),w_1,b,Sw_1,hw_1,Af rfl rfl⟩
  ·replace b:=Aa0.on_t116 a b
   refine r_W (vT #[vA #[vI 0,vI 0],vB false]) rfl (AB ((rfl:_=Aa0.v x).trans (show Aa0.v x=Value.iface 116 (vA #[vI x32_0,vI x33_1])from by rw [a];rfl)) rfl) ?_
   refine rz rfl<|c _ _ ?_
   refine Ca rfl ?_
   refine Ad<|r_W (vT #[vA #[vI 0,vI 0],vB false]) rfl (AB ((rfl:_=Aa0.v x).trans (show Aa0.v x=Value.iface 116 (vA #[vI x32_0,vI x33_1])from by rw [a];rfl)) rfl) ?_
   refine rz rfl<|Ca rfl ?_
   refine Ad<|r_W (vT #[vA #[],vB false]) rfl (AB ((rfl:_=Aa0.v x).trans (show Aa0.v x=Value.iface 116 (vA #[vI x32_0,vI x33_1])from by rw [a];rfl)) rfl) ?_
   refine rz rfl<|Ca rfl ?_
   refine Ab<|fg _ (Sub.pick [(Ei f ((w_1[at'.toNat]!).1) ((w_1[at'.toNat]!).2)),(Bj d w_0 w_0v w_1v),Sw_1] [1,2] rfl) ?_
   exact⟨(at'+1),w_1,b,Sw_1,hw_1,Af rfl rfl⟩
  ·replace b:=Aa0.on_t119 a b
   refine r_W (vT #[vA #[vI 0,vI 0],vB false]) rfl (AB ((rfl:_=Aa0.v x).trans (show Aa0.v x=Value.iface 119 (vA #[vI x34_0,vI x35_1,vI x36_2])from by rw [a];rfl)) rfl) ?_
   refine rz rfl<|c _ _ ?_
   refine Ca rfl ?_
   refine Ad<|r_W (vT #[vA #[vI 0,vI 0],vB false]) rfl (AB ((rfl:_=Aa0.v x).trans (show Aa0.v x=Value.iface 119 (vA #[vI x34_0,vI x35_1,vI x36_2])from by rw [a];rfl)) rfl) ?_
   refine rz rfl<|Ca rfl ?_
   refine Ad<|r_W (vT #[vA #[],vB false]) rfl (AB ((rfl:_=Aa0.v x).trans (show Aa0.v x=Value.iface 119 (vA #[vI x34_0,vI x35_1,vI x36_2])from by rw [a];rfl)) rfl) ?_
   refine rz rfl<|Ca rfl ?_
   refine Ab<|fg _ (Sub.pick [(Ei f ((w_1[at'.toNat]!).1) ((w_1[at'.toNat]!).2)),(Bj d w_0 w_0v w_1v),Sw_1] [1,2] rfl) ?_
   exact⟨(at'+1),w_1,b,Sw_1,hw_1,Af rfl rfl⟩
  ·replace b:=Aa0.on_t122 a b
   refine r_W (vT #[vA #[vI 0,vI 0],vB false]) rfl (AB ((rfl:_=Aa0.v x).trans (show Aa0.v x=Value.iface 122 (vA #[vI x37_0,vI x38_1])from by rw [a];rfl)) rfl) ?_
   refine rz rfl<|c _ _ ?_
   refine Ca rfl ?_
   refine Ad<|r_W (vT #[vA #[vI x37_0,vI x38_1],vB true]) rfl (AB ((rfl:_=Aa0.v x).trans (show Aa0.v x=Value.iface 122 (vA #[vI x37_0,vI x38_1])from by rw [a];rfl)) rfl) ?_
   refine rz rfl<|Lq rfl ?_
   refine Ad<|rA rfl fun p=>ry [0] rfl ?_
   refine Bw [(some 59,true)] (conG prog [(59,fun _ _ v_ L_ U_=> ∀G,Ej N ((w_1[at'.toNat]!).2) x37_0=some G→ ∀H,Dc N w_0 w_1 x38_1 G=some H→(pO (List.flatten [Sw_1]) (oI 102 Ji w_1v H (oE (vT #[]) []))) v_ L_ U_)]) [] (by decide+kernel) (fun Q=>AH) ?_
   refine rm 6 [2,0,1] rfl ?_
   refine rm 1 [0] rfl<|kB b fun z h b=>rc _ (cF Zo) (Jk N ((w_1[at'.toNat]!).2) x37_0 _ h)<|kB b fun V q b=>kC b fun I b=>fp (Ls:=[(Py p x37_0 x38_1),(Ei f ((w_1[at'.toNat]!).1) ((w_1[at'.toNat]!).2)),(Bj d w_0 w_0v w_1v),Sw_1]) (FL:=[Sw_1]) [3] _ (some 59) 32 _ rfl rfl rfl rfl rfl (cF TQ) (fun o w hn_ z_=>GR N w_0 w_1 x38_1 z _ q _ w_0v (Aa2.mono (Jy (Ls:=[(Py p x37_0 x38_1),(Ei f ((w_1[at'.toNat]!).1) ((w_1[at'.toNat]!).2)),(Bj d w_0 w_0v w_1v),Sw_1]) (is:=[3]) rfl z_) hw_0) w_1v Sw_1 hw_1) (fun _ _ v_ L_ U_=>⟨fun h_=>h_ _ h _ q,fun h_=>by intro _ e_;cases q1 (e_.symm.trans h);intro _ e_;cases q1 (e_.symm.trans q);exact h_⟩) (fun _=>(Ab8.sub (R:=(Sw_1++ [])) (qa hw_1 I (SY rfl)) (Sub.pick [Sw_1] [0] rfl))) ?_
   rintro _ _ ⟨u,_,W,⟨rfl,rfl⟩,rfl⟩
   refine Db (Ls:=[(Py p x37_0 x38_1),(Ei f ((w_1[at'.toNat]!).1) ((w_1[at'.toNat]!).2)),(Bj d w_0 w_0v w_1v),u]) (Ls':=[(Py p x37_0 x38_1),(Ei f ((w_1[at'.toNat]!).1) ((w_1[at'.toNat]!).2)),(Bj d w_0 w_0v w_1v),u]) [0,1,2,3] rfl rfl ?_
   refine Ak<|fg _ (Sub.pick [(Py p x37_0 x38_1),(Ei f ((w_1[at'.toNat]!).1) ((w_1[at'.toNat]!).2)),(Bj d w_0 w_0v w_1v),u] [2,3] rfl) ?_
   exact⟨(at'+1),V,b,u,W,Af rfl rfl⟩
  ·replace b:=Aa0.on_t157 a b
   refine r_W (vT #[vA #[vI x39_0,vI x40_1],vB true]) rfl (AB ((rfl:_=Aa0.v x).trans (show Aa0.v x=Value.iface 157 (vA #[vI x39_0,vI x40_1])from by rw [a];rfl)) rfl) ?_
   refine rz rfl<|c _ _ ?_
   refine Lq rfl ?_
   refine Ad<|rA rfl fun n=>ry [0] rfl<|Ad ?_
   refine rm 4 [2,0] rfl<|kB b fun z h b=>kC b fun Z b=>gM (Ls:=[(NN n x39_0 x40_1),(Ei f ((w_1[at'.toNat]!).1) ((w_1[at'.toNat]!).2)),(Bj d w_0 w_0v w_1v),Sw_1]) (FL:=[Sw_1]) [3] (cF TQ) (fun o w hn_ z_=>GR N w_0 w_1 x40_1 i.1 _ h _ w_0v (Aa2.mono (Jy (Ls:=[(NN n x39_0 x40_1),(Ei f ((w_1[at'.toNat]!).1) ((w_1[at'.toNat]!).2)),(Bj d w_0 w_0v w_1v),Sw_1]) (is:=[3]) rfl z_) hw_0) w_1v Sw_1 hw_1) ?_
   rintro _ _ ⟨j,_,J,⟨rfl,rfl⟩,rfl⟩
   refine Db (Ls:=[(NN n x39_0 x40_1),(Ei f ((w_1[at'.toNat]!).1) ((w_1[at'.toNat]!).2)),(Bj d w_0 w_0v w_1v),j]) (Ls':=[(NN n x39_0 x40_1),(Ei f ((w_1[at'.toNat]!).1) ((w_1[at'.toNat]!).2)),(Bj d w_0 w_0v w_1v),j]) [0,1,2,3] rfl rfl ?_
   refine Ak<|AY [0] rfl<|aE b rfl (fun K b=> ?_) (fun K b=> ?_)
   ·refine AZ rfl ?_
    cases b
    refine Bi (fun Q=>Je (v0:=vI 0) (O:=[j]) (Gj rfl) (Sub.pick [(NN n x39_0 x40_1),(Ei f ((w_1[at'.toNat]!).1) ((w_1[at'.toNat]!).2)),(Bj d w_0 w_0v w_1v),j] [3] rfl) ⟨j,_,J,⟨rfl,rfl⟩,rfl⟩)
   refine Ab<|fg _ (Sub.pick [(NN n x39_0 x40_1),(Ei f ((w_1[at'.toNat]!).1) ((w_1[at'.toNat]!).2)),(Bj d w_0 w_0v w_1v),j] [2,3] rfl) ?_
   exact⟨(at'+1),z,b,j,J,Af rfl rfl⟩
  ·replace b:=Aa0.on_t159 a b
   refine r_W (vT #[vA #[vI 0,vI 0],vB false]) rfl (AB ((rfl:_=Aa0.v x).trans (show Aa0.v x=Value.iface 159 (vA #[])from by rw [a];rfl)) rfl) ?_
   refine rz rfl<|c _ _ ?_
   refine Ca rfl ?_
   refine Ad<|r_W (vT #[vA #[vI 0,vI 0],vB false]) rfl (AB ((rfl:_=Aa0.v x).trans (show Aa0.v x=Value.iface 159 (vA #[])from by rw [a];rfl)) rfl) ?_
   refine rz rfl<|Ca rfl ?_
   refine Ad<|r_W (vT #[vA #[],vB true]) rfl (AB ((rfl:_=Aa0.v x).trans (show Aa0.v x=Value.iface 159 (vA #[])from by rw [a];rfl)) rfl) ?_
   refine rz rfl<|Lq rfl ?_
   refine Ad<|rA rfl fun X=>ry [0] rfl<|Ag<|rn 1 rfl ?_
   refine rm 1 [2] rfl<|rL (Sl.shp hw_1) rfl<|kC b fun L b=>rX L rfl<|rz rfl ?_
   refine fg _ (Sub.pick [(iC X),(Ei f ((w_1[at'.toNat]!).1) ((w_1[at'.toNat]!).2)),(Bj d w_0 w_0v w_1v),Sw_1] [2,3] rfl) ?_
   exact⟨((w_1.length:Int) - 1),w_1,b,Sw_1,hw_1,Af rfl rfl⟩
  ·replace b:=Aa0.on_t167 a b
   refine r_W (vT #[vA #[vI 0,vI 0],vB false]) rfl (AB ((rfl:_=Aa0.v x).trans (show Aa0.v x=Value.iface 167 (vA #[vI x41_0,U (hi x42_1),U (lo x42_1)])from by rw [a];rfl)) rfl) ?_
   refine rz rfl<|c _ _ ?_
   refine Ca rfl ?_
   refine Ad<|r_W (vT #[vA #[vI 0,vI 0],vB false]) rfl (AB ((rfl:_=Aa0.v x).trans (show Aa0.v x=Value.iface 167 (vA #[vI x41_0,U (hi x42_1),U (lo x42_1)])from by rw [a];rfl)) rfl) ?_
   refine rz rfl<|Ca rfl ?_
   refine Ad<|r_W (vT #[vA #[],vB false]) rfl (AB ((rfl:_=Aa0.v x).trans (show Aa0.v x=Value.iface 167 (vA #[vI x41_0,U (hi x42_1),U (lo x42_1)])from by rw [a];rfl)) rfl) ?_
   refine rz rfl<|Ca rfl ?_
   refine Ab<|fg _ (Sub.pick [(Ei f ((w_1[at'.toNat]!).1) ((w_1[at'.toNat]!).2)),(Bj d w_0 w_0v w_1v),Sw_1] [1,2] rfl) ?_
   exact⟨(at'+1),w_1,b,Sw_1,hw_1,Af rfl rfl⟩
  ·replace b:=Aa0.on_t168 a b
   refine r_W (vT #[vA #[vI 0,vI 0],vB false]) rfl (AB ((rfl:_=Aa0.v x).trans (show Aa0.v x=Value.iface 168 (vA #[vI x43_0,vI x44_1])from by rw [a];rfl)) rfl) ?_
   refine rz rfl<|c _ _ ?_
   refine Ca rfl ?_
   refine Ad<|r_W (vT #[vA #[vI 0,vI 0],vB false]) rfl (AB ((rfl:_=Aa0.v x).trans (show Aa0.v x=Value.iface 168 (vA #[vI x43_0,vI x44_1])from by rw [a];rfl)) rfl) ?_
   refine rz rfl<|Ca rfl ?_
   refine Ad<|r_W (vT #[vA #[],vB false]) rfl (AB ((rfl:_=Aa0.v x).trans (show Aa0.v x=Value.iface 168 (vA #[vI x43_0,vI x44_1])from by rw [a];rfl)) rfl) ?_
   refine rz rfl<|Ca rfl ?_
   refine Ab<|fg _ (Sub.pick [(Ei f ((w_1[at'.toNat]!).1) ((w_1[at'.toNat]!).2)),(Bj d w_0 w_0v w_1v),Sw_1] [1,2] rfl) ?_
   exact⟨(at'+1),w_1,b,Sw_1,hw_1,Af rfl rfl⟩
  ·replace b:=Aa0.on_t169 a b
   refine r_W (vT #[vA #[vI 0,vI 0],vB false]) rfl (AB ((rfl:_=Aa0.v x).trans (show Aa0.v x=Value.iface 169 (vA #[vI x45_0,vI x46_1])from by rw [a];rfl)) rfl) ?_
   refine rz rfl<|c _ _ ?_
   refine Ca rfl ?_
   refine Ad<|r_W (vT #[vA #[vI 0,vI 0],vB false]) rfl (AB ((rfl:_=Aa0.v x).trans (show Aa0.v x=Value.iface 169 (vA #[vI x45_0,vI x46_1])from by rw [a];rfl)) rfl) ?_
   refine rz rfl<|Ca rfl ?_
   refine Ad<|r_W (vT #[vA #[],vB false]) rfl (AB ((rfl:_=Aa0.v x).trans (show Aa0.v x=Value.iface 169 (vA #[vI x45_0,vI x46_1])from by rw [a];rfl)) rfl) ?_
   refine rz rfl<|Ca rfl ?_
   refine Ab<|fg _ (Sub.pick [(Ei f ((w_1[at'.toNat]!).1) ((w_1[at'.toNat]!).2)),(Bj d w_0 w_0v w_1v),Sw_1] [1,2] rfl) ?_
   exact⟨(at'+1),w_1,b,Sw_1,hw_1,Af rfl rfl⟩
  ·replace b:=Aa0.on_t171 a b
   refine r_W (vT #[vA #[vI 0,vI 0],vB false]) rfl (AB ((rfl:_=Aa0.v x).trans (show Aa0.v x=Value.iface 171 (vA #[vI x47_0,vI x48_1])from by rw [a];rfl)) rfl) ?_
   refine rz rfl<|c _ _ ?_
   refine Ca rfl ?_
   refine Ad<|r_W (vT #[vA #[vI 0,vI 0],vB false]) rfl (AB ((rfl:_=Aa0.v x).trans (show Aa0.v x=Value.iface 171 (vA #[vI x47_0,vI x48_1])from by rw [a];rfl)) rfl) ?_
   refine rz rfl<|Ca rfl ?_
   refine Ad<|r_W (vT #[vA #[],vB false]) rfl (AB ((rfl:_=Aa0.v x).trans (show Aa0.v x=Value.iface 171 (vA #[vI x47_0,vI x48_1])from by rw [a];rfl)) rfl) ?_
   refine rz rfl<|Ca rfl ?_
   refine Ab<|fg _ (Sub.pick [(Ei f ((w_1[at'.toNat]!).1) ((w_1[at'.toNat]!).2)),(Bj d w_0 w_0v w_1v),Sw_1] [1,2] rfl) ?_
   exact⟨(at'+1),w_1,b,Sw_1,hw_1,Af rfl rfl⟩
  replace b:=Aa0.on_t173 a b
  refine r_W (vT #[vA #[vI 0,vI 0],vB false]) rfl (AB ((rfl:_=Aa0.v x).trans (show Aa0.v x=Value.iface 173 (vA #[vI x49_0])from by rw [a];rfl)) rfl) ?_
  refine rz rfl<|c _ _ ?_
  refine Ca rfl ?_
  refine Ad<|r_W (vT #[vA #[vI 0,vI 0],vB false]) rfl (AB ((rfl:_=Aa0.v x).trans (show Aa0.v x=Value.iface 173 (vA #[vI x49_0])from by rw [a];rfl)) rfl) ?_
  refine rz rfl<|Ca rfl ?_
  refine Ad<|r_W (vT #[vA #[],vB false]) rfl (AB ((rfl:_=Aa0.v x).trans (show Aa0.v x=Value.iface 173 (vA #[vI x49_0])from by rw [a];rfl)) rfl) ?_
  refine rz rfl<|Ca rfl ?_
  refine Ab<|fg _ (Sub.pick [(Ei f ((w_1[at'.toNat]!).1) ((w_1[at'.toNat]!).2)),(Bj d w_0 w_0v w_1v),Sw_1] [1,2] rfl) ?_
  exact⟨(at'+1),w_1,b,Sw_1,hw_1,Af rfl rfl⟩
 clear b;rintro t l ⟨g,m,b,e,A,⟨T,rfl⟩,rfl⟩
 unfold AX at b
 refine Ad<|rm 3 [0] rfl<|kB b fun ad M b=>kC b fun aa b=>gM (Ls:=[(Bj d w_0 w_0v w_1v),e]) (FL:=[e]) [1] (cF TQ) (fun o w hn_ z_=>GR N w_0 m g i.1 _ M _ w_0v (Aa2.mono (Jy (Ls:=[(Bj d w_0 w_0v w_1v),e]) (is:=[1]) rfl z_) hw_0) w_1v e A) ?_
 rintro _ _ ⟨s,_,Y,⟨rfl,rfl⟩,rfl⟩
 refine Db (Ls:=[(Bj d w_0 w_0v w_1v),s]) (Ls':=[(Bj d w_0 w_0v w_1v),s]) [0,1] rfl rfl ?_
 refine Ak<|AZ rfl ?_
 cases b
 refine Bi (fun Q=>Je (v0:=vI 0) (O:=[s]) (Gj rfl) (Sub.pick [(Bj d w_0 w_0v w_1v),s] [1] rfl) ⟨s,_,Y,⟨rfl,rfl⟩,rfl⟩)
def Ia(N:Nat)(m:An)(b:(List Aa0)×Int×Int):Nat→Int→List (Bool×BitVec 64)→Option ((BitVec 64)×Int×Int)
  |0,_,_=>none
  |e+1,a,d=>if a<b.2.1 then ck (0≤a∧a<(b.1.length:Int)) ((Hg N m d a ((b.1)[a.toNat]!)).bind fun c=>ck ((c.2).length=(d).length) (if(c.1:Int)≠0 then some (0#64,a,c.1)else ck (R64 (a+1)) ((Ia N m b e) (a+1) c.2)))else ck (0≤b.2.1∧b.2.1<(d.length:Int)) (some ((d[(b.2.1).toNat]!).2,0,0))
def Ln(N:Nat)(m:An)(c:List (Int×Int×Int×Int×BitVec 128))(s:BitVec 64):Option ((BitVec 64)×Int×Int):=(TO N c).bind fun a=>ck (R64 (a.2.1+1)) (ck (0≤(a.2.1+1)∧(a.2.1+1)≤8796093022208) ((Dc N m (List.replicate ((a.2.1+1)).toNat (false,0#64)) 0 s).bind fun b=>ck ((b).length=((List.replicate ((a.2.1+1)).toNat (false,0#64))).length) (Ia N m a N 0 b)))
def IH(N:Nat)(m:An)(a:List (Int×Int×Int×Int×BitVec 128))(s:BitVec 64):Option ((BitVec 64)×Int×Int):=(LE N m).bind fun b=>Ac2.on b ((HB N).bind fun d=>(Jm N m d a).bind fun c=>if(c:Int)≠0 then some (0#64,0,1)else Ln N m a s) (fun _ _ _=>some (0#64,0,1))
theorem PU(N m l' s r)(a:IH N m l' s=some r)(ro)(mv:Ay)(hm:Aa2 ro mv m)(l'v)(hl':Rd Ac9 ro l'v l'):DoesI prog 15 #[vA (Ac m mv),l'v,U s] GC ro [] (pV (vT #[U r.1,vI r.2.1,vI r.2.2])):=by
 unfold IH at a
 refine AW follows func15 rfl 61 rfl _ fz3 Be (fun ad=> ?_)
 refine Ad<|rA rfl fun g=>rz rfl<|BR (fun tt ll=>(Ln N m l' s  =some r)∧Is [(1,l'v),(2,U s),(3,vP g 0)] [(g,35,(Ac m mv))] tt ll) ?_ ?_
 ·refine Aa fun aq C=>Bw [(some 16,true),(some 20,false),(some 22,false)] (conG prog [(16,fun _ _ v_ L_ U_=> ∀f,LE N m=some f→(pO (List.flatten []) (Ac2.onP f (oE Value.nilIface []) (fun y0_0 y0_1 y0_2=>(oB 148 #[vI y0_0,vI y0_1,vI y0_2] fun bs_0=>(oE (Value.iface 146 (vP bs_0 0)) []))))) v_ L_ U_),(20,fun _ _ v_ L_ U_=> ∀f,HB N  =some f→(p1 (fun s_=>s_) 3 BJ f) v_ L_ U_),(22,fun _ _ v_ L_ U_=> ∀f,HB N  =some f→ ∀J,Jm N m f l'=some J→(pV (vI J)) v_ L_ U_)]) [] (by decide+kernel) (fun hn=>AH) ?_
  refine rm 1 [0] rfl<|kB a fun af D a=>fp (Ls:=[[(g,35,(Ac m mv))]]) (FL:=[]) [] _ (some 16) 28 _ rfl rfl rfl rfl rfl (cF pz) (fun o w hn_ z_=>Yz N m _ D _ mv (Aa2.mono (Jy (Ls:=[[(g,35,(Ac m mv))]]) (is:=[]) rfl z_) hm)) (GB D) (fun _=>(Ab8.sub (R:=[]) (Ac2.niceP (SY rfl) (fun _ _ _=>(dR fun _=>(SY rfl)))) (Sub.pick [] [] rfl))) ?_
  rintro _ _ hp_
  rcases Ac2.cases af with h|⟨x47_0,x48_1,x49_2,h⟩
  ·obtain⟨rfl,rfl⟩:=Ac2.onP_nil h hp_
   replace a:=Ac2.on_nil h a
   refine Db (Ls:=[[(g,35,(Ac m mv))]]) (Ls':=[[(g,35,(Ac m mv))]]) [0] rfl rfl<|rn 2 rfl<|r_y rfl<|rm 1 [0] rfl<|r_y rfl<|kB a fun K q a=>Ym (Ls:=[[(g,35,(Ac m mv))]]) (fun H=>H) 3 BJ K 30 _ rfl rfl rfl (cF py) (fun o w z_=>(Does.inv (SN N  _ q z_.view) _)) (GB q) (fun H L ag=> ?_)
   refine rn 1 rfl<|r_y rfl<|kB a fun ar u a=>rg _ (cF Zl) (fun o w z_=>PB N m K l' _ u z_.view mv (Aa2.mono z_.ro_cell hm) H ((Av ag (Ai (Ls:=[[(g,35,(Ac m mv))],L]) (k:=1) rfl rfl)) o w z_) l'v ((Au hl') o w z_)) (fun _ _ v_ L_ U_=>⟨fun h_=>h_ _ q _ u,fun h_=>by intro _ e_;cases q1 (e_.symm.trans q);intro _ e_;cases q1 (e_.symm.trans u);exact h_⟩) ?_
   refine rz rfl<|C _ _ ?_
   refine aN a rfl (fun M a=> ?_) (fun M a=> ?_)
   ·refine AZ rfl ?_
    cases a
    exact aR eV3
   refine Ab<|fg _ (Sub.pick [[(g,35,(Ac m mv))],L] [0] rfl) ?_
   exact⟨a,Af rfl rfl⟩
  obtain⟨O,_,⟨rfl,rfl⟩,rfl⟩:=Ac2.onP_t146 h hp_
  replace a:=Ac2.on_t146 h a
  refine Db (Ls:=[[(g,35,(Ac m mv))],(ae O x47_0 x48_1 x49_2)]) (Ls':=[[(g,35,(Ac m mv))],(ae O x47_0 x48_1 x49_2)]) [0,1] rfl rfl<|rz rfl<|C _ _ ?_
  refine Lq rfl ?_
  refine AZ rfl ?_
  cases a
  exact aR eV3
 clear a;rintro t l ⟨a,⟨T,rfl⟩,rfl⟩
 unfold Ln at a
 refine Ad<|rn 1 rfl<|kB a fun E ah a=>gS (Ls:=[[(g,35,(Ac m mv))]]) (cF eJ) (fun o w z_=>(Does.inv (ew N l' _ ah z_.view l'v ((Au hl') o w z_)) _)) (fun s6 n H8=> ?_)
 refine rz rfl<|Aa fun K9 ai=>Bw [(some 34,false)] (conG prog [(34,fun _ _ v_ L_ U_=>(p1 (fun v=>v) 102 Ji (List.replicate ((E.2.1+1)).toNat (false,0#64))) v_ L_ U_)]) [] (by decide+kernel) (fun hn=>AH)<|rm 2 [0] rfl<|kC a fun P a=>rX P rfl<|kC a fun Q a=>Sq (Ls:=[[(g,35,(Ac m mv))],n]) 102 Ji (false,0#64) (E.2.1+1) rfl rfl rfl rfl rfl rfl rfl rfl rfl rfl 8796093022208 rfl Q (fun _ _ _ _ _=>Iff.rfl) (fun b x I=> ?_)
 refine r_W (vA #[vS m.1,mv.1,mv.2.1,mv.2.2.1,mv.2.2.2.1,mv.2.2.2.2.1,mv.2.2.2.2.2.1,mv.2.2.2.2.2.2.1,mv.2.2.2.2.2.2.2.1,mv.2.2.2.2.2.2.2.2.1,mv.2.2.2.2.2.2.2.2.2.1,mv.2.2.2.2.2.2.2.2.2.2.1,mv.2.2.2.2.2.2.2.2.2.2.2.1,mv.2.2.2.2.2.2.2.2.2.2.2.2.1,mv.2.2.2.2.2.2.2.2.2.2.2.2.2,vI m.2.2.2.2.2.2.2.2.2.2.2.2.2.2.2.1,vI m.2.2.2.2.2.2.2.2.2.2.2.2.2.2.2.2.1,vI m.2.2.2.2.2.2.2.2.2.2.2.2.2.2.2.2.2,b]) rfl (My rfl rfl rfl (HL (c:=(Ac m mv)) rfl (HL (FM rfl (Sl.shp I)) Pw)) (by kernel_rfl))<|rA rfl fun e=>Yl (List.flatten [(Bj e m mv b),[(g,35,(Ac m mv))],n,x]) 0 _ _ _ (#[Value.string (⟨#[]⟩),nS,nS,nS,nS,nS,nS,nS,nS,nS,nS,nS,nS,nS,nS,vI 0,vI 0,vI 0,nS]) (#[vS m.1,mv.1,mv.2.1,mv.2.2.1,mv.2.2.2.1,mv.2.2.2.2.1,mv.2.2.2.2.2.1,mv.2.2.2.2.2.2.1,mv.2.2.2.2.2.2.2.1,mv.2.2.2.2.2.2.2.2.1,mv.2.2.2.2.2.2.2.2.2.1,mv.2.2.2.2.2.2.2.2.2.2.1,mv.2.2.2.2.2.2.2.2.2.2.2.1,mv.2.2.2.2.2.2.2.2.2.2.2.2.1,mv.2.2.2.2.2.2.2.2.2.2.2.2.2,vI m.2.2.2.2.2.2.2.2.2.2.2.2.2.2.2.1,vI m.2.2.2.2.2.2.2.2.2.2.2.2.2.2.2.2.1,vI m.2.2.2.2.2.2.2.2.2.2.2.2.2.2.2.2.2,b]) (#[vS m.1,mv.1,mv.2.1,mv.2.2.1,mv.2.2.2.1,mv.2.2.2.2.1,mv.2.2.2.2.2.1,mv.2.2.2.2.2.2.1,mv.2.2.2.2.2.2.2.1,mv.2.2.2.2.2.2.2.2.1,mv.2.2.2.2.2.2.2.2.2.1,mv.2.2.2.2.2.2.2.2.2.2.1,mv.2.2.2.2.2.2.2.2.2.2.2.1,mv.2.2.2.2.2.2.2.2.2.2.2.2.1,mv.2.2.2.2.2.2.2.2.2.2.2.2.2,vI m.2.2.2.2.2.2.2.2.2.2.2.2.2.2.2.1,vI m.2.2.2.2.2.2.2.2.2.2.2.2.2.2.2.2.1,vI m.2.2.2.2.2.2.2.2.2.2.2.2.2.2.2.2.2,b]) rfl rfl rfl rfl rfl (.ofS rfl rfl (Ae rfl (Ae (Shp.one (RdN.shp hm.1)) (Ae (Shp.one (Rd.shp hm.2.1)) (Ae (Shp.one (Rd.shp hm.2.2.1)) (Ae (Shp.one (RdN.shp hm.2.2.2.1)) (Ae (Shp.one (RdN.shp hm.2.2.2.2.1)) (Ae (Shp.one (RdN.shp hm.2.2.2.2.2.1)) (Ae (Shp.one (RdN.shp hm.2.2.2.2.2.2.1)) (Ae (Shp.one (RdN.shp hm.2.2.2.2.2.2.2.1)) (Ae (Shp.one (Rd.shp hm.2.2.2.2.2.2.2.2.1)) (Ae (Shp.one (Rd.shp hm.2.2.2.2.2.2.2.2.2.1)) (Ae (Shp.one (Rd.shp hm.2.2.2.2.2.2.2.2.2.2.1)) (Ae (Shp.one (Rd.shp hm.2.2.2.2.2.2.2.2.2.2.2.1)) (Ae (Shp.one (Rd.shp hm.2.2.2.2.2.2.2.2.2.2.2.2.1)) (Ae (Shp.one (Rd.shp hm.2.2.2.2.2.2.2.2.2.2.2.2.2)) (Ae rfl (Ae rfl (Ae rfl (Ae (Shp.one (Sl.shp I)) Bt)))))))))))))))))))) rfl rfl ?_
 refine Ak<|ai _ _ ?_
 refine Ad<|rm 2 [0] rfl<|kB a fun aj S a=>kC a fun ap a=>gM (Ls:=[(Bj e m mv b),[(g,35,(Ac m mv))],n,x]) (FL:=[x]) [3] (cF TQ) (fun o w hn_ z_=>(Does.inv (GR N m (List.replicate ((E.2.1+1)).toNat (false,0#64)) 0 s _ S _ mv (Aa2.mono (Jy (Ls:=[(Bj e m mv b),[(g,35,(Ac m mv))],n,x]) (is:=[3]) rfl z_) hm) b x I) _)) ?_
 rintro _ _ ⟨A,_,ak,⟨rfl,rfl⟩,rfl⟩
 refine Db (Ls:=[(Bj e m mv b),[(g,35,(Ac m mv))],n,A]) (Ls':=[(Bj e m mv b),[(g,35,(Ac m mv))],n,A]) [0,1,2,3] rfl rfl ?_
 refine Ak<|Aa fun av V=>AZ rfl<|Ah<|Bo _ (Sub.pick [(Bj e m mv b),[(g,35,(Ac m mv))],n,A] [0,2,3] rfl) ?_
 refine AC (fun tt ll nn=> ∃(p:Nat) (i:Int) (y:List (Bool×BitVec 64)),(Ia N m E p i y=some r)∧ ∃(d:List Bl),Sl 102 Ji b y d∧Is [(9,s6),(10,vI E.2.1),(12,vP e 0),(39,vI E.2.1),(40,vI i)] (List.flatten [(Bj e m mv b),n,d]) tt ll∧nn=p+1) (N+1) ?_ ?_
 ·exact⟨N,0,aj,a,A,ak,Af rfl rfl,rfl⟩
 clear a;rintro t l _ ⟨p,i,y,a,d,j,⟨⟨T,rfl⟩,rfl⟩,rfl⟩
 rcases p with _|p
 ·exact absurd a (by simp [Ia])
 rw [Ia] at a
 refine AZ rfl<|Aa fun aw W=>aD a rfl (fun X a=> ?_) (fun X a=> ?_)
 ·refine Ab<|W _ _ ?_
  refine Aa fun ax Y=>Ah<|AZ rfl<|Aa fun ay Z=>Bw [(some 49,true)] (conG prog [(49,fun _ _ v_ L_ U_=> ∀f,Hg N m y i ((E.1)[i.toNat]!)=some f→(pO (List.flatten [d]) (oI 102 Ji b f.2 (oE (vI f.1) []))) v_ L_ U_)]) [] (by decide+kernel) (fun hn=>AH) ?_
  refine rm 4 [0] rfl<|kC a fun F a=>rI (Sl.shp H8) F rfl<|rE (Av H8 (Ai (Ls:=[(Bj e m mv b),n,d]) (k:=1) rfl rfl)) F 0 rfl<|kB a fun al G a=>kC a fun aa a=>fp (Ls:=[(Bj e m mv b),n,d]) (FL:=[d]) [2] _ (some 49) 33 _ rfl rfl rfl rfl rfl (cF px) (fun o w hn_ z_=>(Does.inv (OZ N m y i ((E.1)[i.toNat]!) _ G _ mv (Aa2.mono (Jy (Ls:=[(Bj e m mv b),n,d]) (is:=[2]) rfl z_) hm) b d j) _)) (GB G) (fun _=>(Ab8.sub (R:=(d++ [])) (qa j aa (SY rfl)) (Sub.pick [d] [0] rfl))) ?_
  rintro _ _ ⟨B,_,am,⟨rfl,rfl⟩,rfl⟩
  refine Db (Ls:=[(Bj e m mv b),n,B]) (Ls':=[(Bj e m mv b),n,B]) [0,1,2] rfl rfl ?_
  refine rz rfl<|Z _ _ ?_
  refine AZ rfl<|aN a rfl (fun ab a=> ?_) (fun ab a=> ?_)
  ·refine AZ rfl ?_
   cases a
   exact aR eV3
  refine Ab<|Y _ _ ?_
  refine Ag<|kC a fun ac a=>rX ac rfl<|rz rfl<|fg _ (Sub.pick [(Bj e m mv b),n,B] [0,1,2] rfl) ?_
  exact⟨p+1,by omega,p,(i+1),al.2,a,B,am,Af rfl rfl,rfl⟩
 refine AD<|V _ _ ?_
 refine Ad<|rm 3 [0] rfl<|kC a fun z a=>rI (Sl.shp j) z rfl<|rF (Sl.shp j) (Bb z) rfl ?_
 refine rE (Av j (Ai (Ls:=[(Bj e m mv b),n,d]) (k:=2) rfl rfl)) z 1 rfl<|rz rfl ?_
 cases a
 exact aR eV3
theorem Vs {c:Addr→Option Value}{x}{vs:List Value}(h:(KQ).V c x vs):(Ad4).R c x vs:=by obtain⟨_,_,rfl,⟨_,_,⟨a,rfl,b⟩,⟨_,_,rfl,⟨_,_,rfl,⟨_,_,rfl,rfl,rfl⟩,rfl⟩,rfl⟩,rfl⟩,rfl⟩:=h;exact⟨a,b,rfl⟩
theorem Vr {c:Addr→Option Value}{x}{vs:List Value}(h:(KP).V c x vs):(Ad8).R c x vs:=by obtain⟨_,_,rfl,⟨_,_,⟨a,rfl,b⟩,⟨_,_,⟨d,rfl,e⟩,⟨_,_,⟨f,rfl,g⟩,rfl,rfl⟩,rfl⟩,rfl⟩,rfl⟩:=h;exact⟨a,d,f,b,e,g,rfl⟩
theorem Vq {c:Addr→Option Value}{x}{vs:List Value}(h:(Vu).V c x vs):(Ad6).R c x vs:=by obtain⟨_,_,rfl,⟨_,_,⟨a,rfl,b⟩,⟨d,rfl,e⟩,rfl⟩,rfl⟩:=h;exact⟨a,d,b,e,rfl⟩
theorem Vp {c:Addr→Option Value}{x}{vs:List Value}(h:(Vt).V c x vs):(Ae1).R c x vs:=by obtain⟨_,_,rfl,⟨_,_,rfl,⟨_,_,⟨a,rfl,b⟩,⟨_,_,⟨d,rfl,e⟩,⟨_,_,rfl,⟨_,_,⟨f,rfl,g⟩,rfl,rfl⟩,rfl⟩,rfl⟩,rfl⟩,rfl⟩,rfl⟩:=h;exact⟨a,d,f,b,e,g,rfl⟩
theorem OL {c:Addr→Option Value}{x}{vs:List Value}(h:(PY).V c x vs):(Ad2).R c x vs:=by obtain⟨_,_,rfl,⟨_,_,rfl,⟨_,_,⟨a,rfl,b⟩,⟨_,_,⟨d,rfl,e⟩,⟨_,_,rfl,rfl,rfl⟩,rfl⟩,rfl⟩,rfl⟩,rfl⟩:=h;exact⟨a,d,b,e,rfl⟩
def He(N:Nat)(a:Bool):Option Bool:=if a=true then(Gy N (5#64) 2).bind fun b=>some b else some false
def Hf(N:Nat)(b:(BitVec 64)×Int×Int)(a:Bool):Option Bool:=if a=true then He N (b.2.2==11)else He N false
def Gw(N:Nat):Option Bool:=(EQ N).bind fun d=>(IH N d ([(33,0,3,0,(0#64)++(0#64)),(1,0,0,0,(0#64)++(0#64)),(23,1,0,0,(0#64)++(0#64))]) (0#64)).bind fun c=>(EQ N).bind fun b=>ck (0≤(1:Int)∧(1:Int)≤(([(33,0,3,0,(0#64)++(0#64)),(1,0,0,0,(0#64)++(0#64)),(23,1,0,0,(0#64)++(0#64))]).length:Int)) ((IH N b ((([(33,0,3,0,(0#64)++(0#64)),(1,0,0,0,(0#64)++(0#64)),(23,1,0,0,(0#64)++(0#64))]).take (([(33,0,3,0,(0#64)++(0#64)),(1,0,0,0,(0#64)++(0#64)),(23,1,0,0,(0#64)++(0#64))]).length)).drop (((1:Int)).toNat)) (0#64)).bind fun a=>if c.2.2=0 then Hf N a (a.2.1==0)else Hf N a false)
theorem KJ(N r)(s:Gw N=some r)(ro:Ro):DoesI prog 5 #[] GC ro [] (pV (vB r)):=by
 unfold Gw at s
 refine AW follows func5 rfl 40 rfl _ fz0 Be (fun ac=> ?_)
 refine AZ rfl<|Ad<|r_W (vA #[vI 33,vI 0,vI 3,vI 0,U (0#64),U (0#64)]) rfl (Ap rfl rfl rfl rfl)<|r_W (vA #[vI 1,vI 0,vI 0,vI 0,U (0#64),U (0#64)]) rfl (Ap rfl rfl rfl rfl)<|r_W (vA #[vI 23,vI 1,vI 0,vI 0,U (0#64),U (0#64)]) rfl (Ap rfl rfl rfl rfl)<|cD 11 ?_
 refine IW (cs0:=[]) (Ls:=[]) 41 Ac9 [(33,0,3,0,(0#64)++(0#64)),(1,0,0,0,(0#64)++(0#64)),(23,1,0,0,(0#64)++(0#64))] [vI 33,vI 0,vI 3,vI 0,U (0#64),U (0#64),vI 1,vI 0,vI 0,vI 0,U (0#64),U (0#64),vI 23,vI 1,vI 0,vI 0,U (0#64),U (0#64)] [vI 0,vI 0,vI 0,vI 0,U (0#64),U (0#64),vI 0,vI 0,vI 0,vI 0,U (0#64),U (0#64),vI 0,vI 0,vI 0,vI 0,U (0#64),U (0#64)] rfl rfl rfl rfl rfl rfl rfl (by kernel_rfl) (by kernel_rfl) (show [vI 33,vI 0,vI 3,vI 0,U (0#64),U (0#64),vI 1,vI 0,vI 0,vI 0,U (0#64),U (0#64),vI 23,vI 1,vI 0,vI 0,U (0#64),U (0#64)]=[vI 33,vI 0,vI 3,vI 0,U (hi ((0#64)++(0#64))),U (lo ((0#64)++(0#64))),vI 1,vI 0,vI 0,vI 0,U (hi ((0#64)++(0#64))),U (lo ((0#64)++(0#64))),vI 23,vI 1,vI 0,vI 0,U (hi ((0#64)++(0#64))),U (lo ((0#64)++(0#64)))] by simp only [Bn]) rfl rfl (fun s3 t H5=> ?_)
 refine rz rfl<|Ad<|kB s fun r7 af s=>gM (Ls:=[t]) (FL:=[]) [] (cF eM) (fun o w hn_ z_=>(Does.inv (Ki N  _ af _) _)) ?_
 rintro _ _ ⟨ag,a,_,ah,⟨ai,b,_,aj,⟨ak,c,_,al,⟨am,d,_,an,⟨ao,e,_,ap,⟨aq,f,_,ar,⟨au,g,_,av,⟨aw,h,_,ax,⟨ay,i,_,az,⟨ba,j,_,bb,⟨bc,l,_,bd,⟨be,m,_,bf,⟨bg,n,_,bh,⟨s9,p,_,bi,⟨rfl,rfl⟩,rfl⟩,rfl⟩,rfl⟩,rfl⟩,rfl⟩,rfl⟩,rfl⟩,rfl⟩,rfl⟩,rfl⟩,rfl⟩,rfl⟩,rfl⟩,rfl⟩
 refine Db (Ls:=[t,a,b,c,d,e,f,g,h,i,j,l,m,n,p]) (Ls':=[t,a,b,c,d,e,f,g,h,i,j,l,m,n,p]) [0,1,2,3,4,5,6,7,8,9,10,11,12,13,14] rfl rfl<|rn 1 rfl<|kB s fun bj X s=>gV _ (cF eN) (fun o w z_=>PU N r7 ([(33,0,3,0,(0#64)++(0#64)),(1,0,0,0,(0#64)++(0#64)),(23,1,0,0,(0#64)++(0#64))]) (0#64) _ X z_.view (ag,ai,ak,am,ao,aq,au,aw,ay,ba,bc,be,bg,s9) ⟨(RdN.map (E':=Ad4) (SlO.view ah (HR (Ai (Ls:=[t,a,b,c,d,e,f,g,h,i,j,l,m,n,p]) (k:=1) rfl rfl) o w z_)) rfl (fun _ _ h_=>Vs h_)),((Av aj (Ai (Ls:=[t,a,b,c,d,e,f,g,h,i,j,l,m,n,p]) (k:=2) rfl rfl)) o w z_),((Av al (Ai (Ls:=[t,a,b,c,d,e,f,g,h,i,j,l,m,n,p]) (k:=3) rfl rfl)) o w z_),(RdN.map (E':=Ad8) (SlO.view an (HR (Ai (Ls:=[t,a,b,c,d,e,f,g,h,i,j,l,m,n,p]) (k:=4) rfl rfl) o w z_)) rfl (fun _ _ h_=>Vr h_)),(RdN.map (E':=Ad6) (SlO.view ap (HR (Ai (Ls:=[t,a,b,c,d,e,f,g,h,i,j,l,m,n,p]) (k:=5) rfl rfl) o w z_)) rfl (fun _ _ h_=>Vq h_)),(RdN.map (E':=Ae1) (SlO.view ar (HR (Ai (Ls:=[t,a,b,c,d,e,f,g,h,i,j,l,m,n,p]) (k:=6) rfl rfl) o w z_)) rfl (fun _ _ h_=>Vp h_)),(RdN.map (E':=Ad2) (SlO.view av (HR (Ai (Ls:=[t,a,b,c,d,e,f,g,h,i,j,l,m,n,p]) (k:=7) rfl rfl) o w z_)) rfl (fun _ _ h_=>OL h_)),(RdN.map (E':=Ad2) (SlO.view ax (HR (Ai (Ls:=[t,a,b,c,d,e,f,g,h,i,j,l,m,n,p]) (k:=8) rfl rfl) o w z_)) rfl (fun _ _ h_=>OL h_)),((Av az (Ai (Ls:=[t,a,b,c,d,e,f,g,h,i,j,l,m,n,p]) (k:=9) rfl rfl)) o w z_),((Av bb (Ai (Ls:=[t,a,b,c,d,e,f,g,h,i,j,l,m,n,p]) (k:=10) rfl rfl)) o w z_),((Av bd (Ai (Ls:=[t,a,b,c,d,e,f,g,h,i,j,l,m,n,p]) (k:=11) rfl rfl)) o w z_),((Av bf (Ai (Ls:=[t,a,b,c,d,e,f,g,h,i,j,l,m,n,p]) (k:=12) rfl rfl)) o w z_),((Av bh (Ai (Ls:=[t,a,b,c,d,e,f,g,h,i,j,l,m,n,p]) (k:=13) rfl rfl)) o w z_),((Av bi (Ai (Ls:=[t,a,b,c,d,e,f,g,h,i,j,l,m,n,p]) (k:=14) rfl rfl)) o w z_)⟩ s3 ((Av H5 (Ai (Ls:=[t,a,b,c,d,e,f,g,h,i,j,l,m,n,p]) (k:=0) rfl rfl)) o w z_)) ?_
 refine rz rfl<|Aa fun cs Y=> ?_
 refine Bw [(some 20,true),(some 23,false)] (conG prog [(20,fun _ _ v_ L_ U_=> ∀q,EQ N  =some q→(pO (List.flatten []) (oSO 106 KQ q.2.1 fun s_0=>(oS 84 Ad5 q.2.2.1 fun s_1=>(oS 104 Ab4 q.2.2.2.1 fun s_2=>(oSO 111 KP q.2.2.2.2.1 fun s_3=>(oSO 188 Vu q.2.2.2.2.2.1 fun s_4=>(oSO 193 Vt q.2.2.2.2.2.2.1 fun s_5=>(oSO 182 PY q.2.2.2.2.2.2.2.1 fun s_6=>(oSO 182 PY q.2.2.2.2.2.2.2.2.1 fun s_7=>(oS 3 BJ q.2.2.2.2.2.2.2.2.2.1 fun s_8=>(oS 185 Ae3 q.2.2.2.2.2.2.2.2.2.2.1 fun s_9=>(oS 185 Ae3 q.2.2.2.2.2.2.2.2.2.2.2.1 fun s_10=>(oS 195 Ae8 q.2.2.2.2.2.2.2.2.2.2.2.2.1 fun s_11=>(oS 197 Ae9 q.2.2.2.2.2.2.2.2.2.2.2.2.2.1 fun s_12=>(oS 199 Af0 q.2.2.2.2.2.2.2.2.2.2.2.2.2.2.1 fun s_13=>(oE (vA #[vS q.1,s_0,s_1,s_2,s_3,s_4,s_5,s_6,s_7,s_8,s_9,s_10,s_11,s_12,s_13,vI q.2.2.2.2.2.2.2.2.2.2.2.2.2.2.2.1,vI q.2.2.2.2.2.2.2.2.2.2.2.2.2.2.2.2.1,vI q.2.2.2.2.2.2.2.2.2.2.2.2.2.2.2.2.2]) [])))))))))))))))) v_ L_ U_),(23,fun _ _ v_ L_ U_=> ∀q,EQ N  =some q→ ∀Q,IH N q ((([(33,0,3,0,(0#64)++(0#64)),(1,0,0,0,(0#64)++(0#64)),(23,1,0,0,(0#64)++(0#64))]).take (([(33,0,3,0,(0#64)++(0#64)),(1,0,0,0,(0#64)++(0#64)),(23,1,0,0,(0#64)++(0#64))]).length)).drop (((1:Int)).toNat)) (0#64)=some Q→(pV (vT #[U Q.1,vI Q.2.1,vI Q.2.2])) v_ L_ U_)]) [] (by decide+kernel) (fun hn=>AH)<|kB s fun bk K s=>fp (Ls:=[t,a,b,c,d,e,f,g,h,i,j,l,m,n,p]) (FL:=[]) [] _ (some 20) 16 _ rfl rfl rfl rfl rfl (cF eM) (fun o w hn_ z_=>(Does.inv (Ki N  _ K _) _)) (GB K) (fun _=>(Ab8.sub (R:=[]) (Sw fun s_0=>(SX fun s_1=>(SX fun s_2=>(Sw fun s_3=>(Sw fun s_4=>(Sw fun s_5=>(Sw fun s_6=>(Sw fun s_7=>(SX fun s_8=>(SX fun s_9=>(SX fun s_10=>(SX fun s_11=>(SX fun s_12=>(SX fun s_13=>(SY rfl))))))))))))))) (Sub.pick [] [] rfl))) ?_
 rintro _ _ ⟨bl,u,_,bm,⟨bn,v,_,bo,⟨bp,x,_,bq,⟨br,y,_,bs,⟨bt,z,_,bu,⟨bv,A,_,bw,⟨bx,B,_,bz,⟨ca,C,_,cb,⟨cc,D,_,cd,⟨ce,E,_,cf,⟨cg,F,_,ch,⟨ci,G,_,cj,⟨ck,H,_,cl,⟨cm,I,_,cn,⟨rfl,rfl⟩,rfl⟩,rfl⟩,rfl⟩,rfl⟩,rfl⟩,rfl⟩,rfl⟩,rfl⟩,rfl⟩,rfl⟩,rfl⟩,rfl⟩,rfl⟩,rfl⟩
 refine Db (Ls:=[t,a,b,c,d,e,f,g,h,i,j,l,m,n,p,u,v,x,y,z,A,B,C,D,E,F,G,H,I]) (Ls':=[t,a,b,c,d,e,f,g,h,i,j,l,m,n,p,u,v,x,y,z,A,B,C,D,E,F,G,H,I]) [0,1,2,3,4,5,6,7,8,9,10,11,12,13,14,15,16,17,18,19,20,21,22,23,24,25,26,27,28] rfl rfl<|rn 1 rfl<|kC s fun V s=>r_W (Fy s3 (((1:Int)).toNat) (([(33,0,3,0,(0#64)++(0#64)),(1,0,0,0,(0#64)++(0#64)),(23,1,0,0,(0#64)++(0#64))]).length) 6) rfl (ET (XB rfl rfl rfl rfl (Sl.shp H5) V))<|kB s fun Z J s=>rg _ (cF eN) (fun o w z_=>PU N bk ((([(33,0,3,0,(0#64)++(0#64)),(1,0,0,0,(0#64)++(0#64)),(23,1,0,0,(0#64)++(0#64))]).take (([(33,0,3,0,(0#64)++(0#64)),(1,0,0,0,(0#64)++(0#64)),(23,1,0,0,(0#64)++(0#64))]).length)).drop (((1:Int)).toNat)) (0#64) _ J z_.view (bl,bn,bp,br,bt,bv,bx,ca,cc,ce,cg,ci,ck,cm) ⟨(RdN.map (E':=Ad4) (SlO.view bm (HR (Ai (Ls:=[t,a,b,c,d,e,f,g,h,i,j,l,m,n,p,u,v,x,y,z,A,B,C,D,E,F,G,H,I]) (k:=15) rfl rfl) o w z_)) rfl (fun _ _ h_=>Vs h_)),((Av bo (Ai (Ls:=[t,a,b,c,d,e,f,g,h,i,j,l,m,n,p,u,v,x,y,z,A,B,C,D,E,F,G,H,I]) (k:=16) rfl rfl)) o w z_),((Av bq (Ai (Ls:=[t,a,b,c,d,e,f,g,h,i,j,l,m,n,p,u,v,x,y,z,A,B,C,D,E,F,G,H,I]) (k:=17) rfl rfl)) o w z_),(RdN.map (E':=Ad8) (SlO.view bs (HR (Ai (Ls:=[t,a,b,c,d,e,f,g,h,i,j,l,m,n,p,u,v,x,y,z,A,B,C,D,E,F,G,H,I]) (k:=18) rfl rfl) o w z_)) rfl (fun _ _ h_=>Vr h_)),(RdN.map (E':=Ad6) (SlO.view bu (HR (Ai (Ls:=[t,a,b,c,d,e,f,g,h,i,j,l,m,n,p,u,v,x,y,z,A,B,C,D,E,F,G,H,I]) (k:=19) rfl rfl) o w z_)) rfl (fun _ _ h_=>Vq h_)),(RdN.map (E':=Ae1) (SlO.view bw (HR (Ai (Ls:=[t,a,b,c,d,e,f,g,h,i,j,l,m,n,p,u,v,x,y,z,A,B,C,D,E,F,G,H,I]) (k:=20) rfl rfl) o w z_)) rfl (fun _ _ h_=>Vp h_)),(RdN.map (E':=Ad2) (SlO.view bz (HR (Ai (Ls:=[t,a,b,c,d,e,f,g,h,i,j,l,m,n,p,u,v,x,y,z,A,B,C,D,E,F,G,H,I]) (k:=21) rfl rfl) o w z_)) rfl (fun _ _ h_=>OL h_)),(RdN.map (E':=Ad2) (SlO.view cb (HR (Ai (Ls:=[t,a,b,c,d,e,f,g,h,i,j,l,m,n,p,u,v,x,y,z,A,B,C,D,E,F,G,H,I]) (k:=22) rfl rfl) o w z_)) rfl (fun _ _ h_=>OL h_)),((Av cd (Ai (Ls:=[t,a,b,c,d,e,f,g,h,i,j,l,m,n,p,u,v,x,y,z,A,B,C,D,E,F,G,H,I]) (k:=23) rfl rfl)) o w z_),((Av cf (Ai (Ls:=[t,a,b,c,d,e,f,g,h,i,j,l,m,n,p,u,v,x,y,z,A,B,C,D,E,F,G,H,I]) (k:=24) rfl rfl)) o w z_),((Av ch (Ai (Ls:=[t,a,b,c,d,e,f,g,h,i,j,l,m,n,p,u,v,x,y,z,A,B,C,D,E,F,G,H,I]) (k:=25) rfl rfl)) o w z_),((Av cj (Ai (Ls:=[t,a,b,c,d,e,f,g,h,i,j,l,m,n,p,u,v,x,y,z,A,B,C,D,E,F,G,H,I]) (k:=26) rfl rfl)) o w z_),((Av cl (Ai (Ls:=[t,a,b,c,d,e,f,g,h,i,j,l,m,n,p,u,v,x,y,z,A,B,C,D,E,F,G,H,I]) (k:=27) rfl rfl)) o w z_),((Av cn (Ai (Ls:=[t,a,b,c,d,e,f,g,h,i,j,l,m,n,p,u,v,x,y,z,A,B,C,D,E,F,G,H,I]) (k:=28) rfl rfl)) o w z_)⟩ (Fy s3 (((1:Int)).toNat) (([(33,0,3,0,(0#64)++(0#64)),(1,0,0,0,(0#64)++(0#64)),(23,1,0,0,(0#64)++(0#64))]).length) 6) ((Ol (Av H5 (Ai (Ls:=[t,a,b,c,d,e,f,g,h,i,j,l,m,n,p,u,v,x,y,z,A,B,C,D,E,F,G,H,I]) (k:=0) rfl rfl)) (GD V.2) (Nat.le_refl _)) o w z_)) (fun _ _ v_ L_ U_=>⟨fun h_=>h_ _ K _ J,fun h_=>by intro _ e_;cases q1 (e_.symm.trans K);intro _ e_;cases q1 (e_.symm.trans J);exact h_⟩) ?_
 refine rz rfl<|Y _ _ ?_
 refine Aa fun co L=>Ag<|rn 3 rfl<|AG 3 32 [(0,vB false),(7,vI Z.2.2)] vB (fun b_=>Hf N Z b_=some r) (fun aa s T=> ?_) (fun S=> ?_)
 ·unfold Hf at s
  refine rn 1 rfl<|AG 3 36 [(0,vB false)] vB (fun b_=>He N b_=some r) (fun ab s T=> ?_) (fun S=> ?_)
  ·unfold He at s
   refine rn 1 rfl ?_
   rcases M:ab with _|_
   ·replace s:=iB M s
    refine rz rfl<|L _ _ ?_
    cases s
    exact aR eV1
   replace s:=ifp M s
   refine r_y rfl<|kB s fun cp W s=>rc _ (cF Zq) (Mw N (5#64) 2 _ W)<|rz rfl<|L _ _ ?_
   cases s
   exact aR eV1
  rcases O:aa with _|_
  ·replace s:=iB O s
   refine rn 3 rfl ?_
   first|exact S _ _ s rfl rfl|exact lx_cn _ _ (S _ _ s rfl rfl)
  replace s:=ifp O s
  refine rn 3 rfl ?_
  first|exact S _ _ s rfl rfl|exact lx_cn _ _ (S _ _ s rfl rfl)
 rcases P:(bj.2.2==0)with _|_
 ·replace s:=iG P s
  refine rn 3 rfl ?_
  first|exact S _ _ s rfl rfl|exact lx_cn _ _ (S _ _ s rfl rfl)
 replace s:=iE P s
 refine rn 3 rfl ?_
 first|exact S _ _ s rfl rfl|exact lx_cn _ _ (S _ _ s rfl rfl)
def JZ(N:Nat)(m:An)(d:Int)(e:Int)(c:Int)(b:Int)(f:BitVec 128)(s:BitVec 64):Option ((BitVec 64)×Int):=(Oa N d e c b f).bind fun g=>if(g.2:Int)≠0 then some (0#64,1)else(Gk N m g.1 s).bind fun a=>some (a.1,a.2)
theorem Vg(N m x_0 x_1 x_2 x_3 x_4 s r)(a:JZ N m x_0 x_1 x_2 x_3 x_4 s=some r)(ro)(mv:Ay)(hm:Aa2 ro mv m):Does prog 6 #[vA (Ac m mv),vA #[vI x_0,vI x_1,vI x_2,vI x_3,U (hi x_4),U (lo x_4)],U s] ro [] (pV (vT #[U r.1,vI r.2])):=by
 unfold JZ at a
 refine Aj follows func6 rfl 23 rfl _ fz3 (fun c=> ?_)
 refine Ad<|rA rfl fun i=>rA rfl fun j=>rz rfl<|Ad<|rm 1 [0] rfl<|kB a fun g d a=>rc _ (cF eL) (aY N x_0 x_1 x_2 x_3 x_4 _ d)<|rz rfl<|Aa fun k e=>AZ rfl<|aN a rfl (fun f a=> ?_) (fun f a=> ?_)
 ·refine AZ rfl ?_
  cases a
  exact aR eV2
 refine Ab<|e _ _ ?_
 refine Ad<|rm 3 [1] rfl<|kB a fun h b a=>gV _ (cF eK) (fun o w z_=>NW N m g.1 s _ b z_.view mv (Aa2.mono z_.ro_cell hm))<|rz rfl ?_
 cases a
 exact aR eV2
theorem Ig  :(((prog.info? 50).bind (·.zero)).map fun z=>(50,z.cells))=some (50,(⟨Aw (0#64)⟩:Array Value)):=by kernel_rfl
def Ed  :Nat→BitVec 64→Int→BitVec 64→Option (BitVec 64)
  |0,_,_,_=>none
  |d+1,c,a,b=>if a<64 then ck (0≤a∧a<64) (ck (R64 (a+1)) ((Ed d) (c / 2#64) (a+1) (put64 b (a.toNat) ((c%2#64)==(1#64)))))else some b
def DD(N:Nat)(n:BitVec 64):Option (BitVec 64):=Ed N n 0 (0#64)
theorem If(N n r)(e:DD N n=some r):Gives prog 9 #[U n] (vA (⟨Aw r⟩:Array Value)):=by
 unfold DD at e
 refine As follows func9 rfl 17 rfl _ fz1 (fun s=> ?_)
 refine Ad<|r_a (50,(⟨Aw (0#64)⟩:Array Value)) rfl rfl Ig (fun u=> ?_) (.inr rfl)
 refine Ak<|Ad<|r_a (50,(⟨Aw (0#64)⟩:Array Value)) rfl rfl Ig (fun j=> ?_) (.inr rfl)
 refine Ak<|Aa fun z v=>AZ rfl<|Ah<|AC (fun tt ll nn=> ∃(i:Nat) (a:BitVec 64) (d:Int) (f:BitVec 64),(Ed i a d f=some r)∧Is [(0,U a),(2,vP u 0),(3,vP j 0),(4,vI d)] [(j,50,(⟨Aw f⟩:Array Value)),(u,50,(⟨Aw (0#64)⟩:Array Value))] tt ll∧nn=i+1) (N+1) ?_ ?_
 ·exact⟨N,n,0,0#64,e,Af rfl rfl,rfl⟩
 clear e;rintro t l _ ⟨i,a,d,f,e,⟨⟨T,rfl⟩,rfl⟩,rfl⟩
 rcases i with _|i
 ·exact absurd e (by simp [Ed])
 rw [Ed] at e
 refine Aa fun A w=>AZ rfl<|aD e rfl (fun m e=> ?_) (fun m e=> ?_)
 ·refine Ab<|w _ _ ?_
  refine Aa fun x o=>Ah<|Ad<|rn 2 rfl<|r_X (U (a%2#64)) rfl (mC a (2#64)) rfl<|r_X (vB ((a%2#64)==(1#64))) rfl (fT (a%2#64) (1#64)) rfl<|kC e fun p e=> ?_
  have h:=fun c=>ET (IS (P:=prog) (c:=c) (t:=50) (b:=j) (off:=0) (k:= .i64) rfl rfl rfl p)
  simp only [q6] at h
  have g:d.toNat<64:=by omega
  refine r_W (Value.pointer (some ⟨j,d.toNat,none⟩)) rfl (h _)<|r_s [(j,50,(⟨Aw (put64 f (d.toNat) ((a%2#64)==(1#64)))⟩:Array Value)),(u,50,(⟨Aw (0#64)⟩:Array Value))] 0 _ _ _ _ _ ((⟨Aw (put64 f (d.toNat) ((a%2#64)==(1#64)))⟩:Array Value)) rfl rfl rfl rfl (NB rfl rfl _ _ g) (Km _ _ _ g) rfl<|Ak<|Ag<|rn 1 rfl<|r_X (U (a / 2#64)) rfl (mD a (2#64)) rfl<|rz rfl<|o _ _ ?_
  refine Ag<|rn 1 rfl<|kC e fun q e=>rX q rfl<|rz rfl<|fg _ (Sub.of (suK _ (suK _ suN))) ?_
  exact⟨i+1,by omega,i,(a / 2#64),(d+1),put64 f (d.toNat) ((a%2#64)==(1#64)),e,Af rfl rfl,rfl⟩
 refine AD<|v _ _ ?_
 refine AY [0,1] rfl ?_
 obtain rfl:=q1 e
 refine Bi (fun y=>Ec (v0:=vA (⟨Aw f⟩:Array Value)) rfl (Gj (AT y 1 rfl rfl rfl)))
def DF(c:Int×Int×Bool)(b:Int)(d:BitVec 64)(a:Int→BitVec 64→Option (BitVec 64))(e:Bool):Option (BitVec 64):=ck (0≤(c.1+b)∧(c.1+b)<64) (ck (R64 (b+1)) (a (b+1) (put64 d (((c.1+b)).toNat) e)))
def Cx(n:Int)(s:BitVec 64)(c:Int×Int×Bool)(b:Int)(d:BitVec 64)(a:Int→BitVec 64→Option (BitVec 64))(e:Bool):Option (BitVec 64):=if e=true then ck (R64 (c.1+b)) (ck (R64 ((c.1+b) - n)) (ck (0≤((c.1+b) - n)∧((c.1+b) - n)<64) (DF c b d a ((s).getLsbD ((((c.1+b) - n)).toNat)))))else DF c b d a false
def DG(n:Int)(s:BitVec 64)(c:Int×Int×Bool)(b:Int)(d:BitVec 64)(a:Int→BitVec 64→Option (BitVec 64))(e:Bool):Option (BitVec 64):=if e=true then ck (R64 (c.1+b)) (ck (R64 ((c.1+b) - n)) (Cx n s c b d a (decide ((((c.1+b) - n):Int)<64))))else Cx n s c b d a false
def AJ(n:Int)(s:BitVec 64)(b:Int×Int×Bool):Nat→Int→BitVec 64→Option (BitVec 64)
  |0,_,_=>none
  |d+1,a,c=>if a<b.2.1 then ck (R64 (b.1+a)) (if((b.1+a):Int)<64 then ck (R64 (b.1+a)) (ck (R64 (a - n)) (if((a - n):Int)≥0 then ck (R64 (a - n)) (DG n s b a c (AJ n s b d) (decide (((a - n):Int)<b.2.1)))else DG n s b a c (AJ n s b d) false))else ck (R64 (a+1)) ((AJ n s b d) (a+1) c))else some c
def Ce(N:Nat)(m:An)(a:Int)(n:Int)(s:BitVec 64):Option (BitVec 64):=(Cc N m a).bind fun b=>if b.2.2=true then AJ n s b N 0 s else some s
theorem HK(N m inst n s r)(a:Ce N m inst n s=some r)(ro)(mv:Ay)(hm:Aa2 ro mv m):Does prog 11 #[vA (Ac m mv),vI inst,vI n,vA (⟨Aw s⟩:Array Value)] ro [] (pV (vA (⟨Aw r⟩:Array Value))):=by
 unfold Ce at a
 refine Aj follows func11 rfl 67 rfl _ fz4 (fun X=> ?_)
 refine Ad<|rA rfl fun b2=>rA rfl fun q=>r_a (50,(⟨Aw (0#64)⟩:Array Value)) rfl rfl Ig (fun B=> ?_) (.inr rfl)
 refine Ak<|Ad<|rm 2 [2] rfl<|kB a fun e Y a=>gV _ (cF Zn) (fun o w z_=>Hi N m inst _ Y z_.view mv (Aa2.mono z_.ro_cell hm))<|rz rfl<|Aa fun K8 Z=>AZ rfl<|Bv _ rfl (fun j=> ?_) (fun j=> ?_)
 ·replace a:=ifn (Bool.eq_false_iff.1 (CM j)) a
  refine AY [1,0] rfl ?_
  cases a
  refine Bi (fun hn=>Tg (v0:=vA (⟨Aw s⟩:Array Value)) rfl (Gj (AT hn 0 rfl rfl rfl)))
 replace a:=ifp (CN j) a
 refine Ab<|Z _ _ ?_
 refine Ad<|rm 1 [1] rfl<|r_a (50,(⟨Aw (0#64)⟩:Array Value)) rfl rfl Ig (fun h=> ?_) (.inr rfl)
 refine ry [0] rfl<|Aa fun ad E=>AZ rfl<|Ah<|Bo [(h,50,(⟨Aw s⟩:Array Value)),(B,50,(⟨Aw (0#64)⟩:Array Value)),(q,50,(⟨Aw s⟩:Array Value))] (Sub.of (suK _ (suK _ (suK _ (suC _ suN))))) ?_
 refine AC (fun tt ll nn=> ∃(f:Nat) (d:Int) (g:BitVec 64),(AJ n s e f d g=some r)∧Is [(2,vI n),(7,vP q 0),(8,vP B 0),(9,vI e.1),(10,vI e.2.1),(12,vP h 0),(13,vI d)] [(h,50,(⟨Aw g⟩:Array Value)),(B,50,(⟨Aw (0#64)⟩:Array Value)),(q,50,(⟨Aw s⟩:Array Value))] tt ll∧nn=f+1) (N+1) ?_ ?_
 ·exact⟨N,0,s,a,Af rfl rfl,rfl⟩
 clear a;rintro t l _ ⟨f,d,g,a,⟨⟨T,rfl⟩,rfl⟩,rfl⟩
 rcases f with _|f
 ·exact absurd a (by simp [AJ])
 rw [AJ] at a
 refine Aa fun ae F=>AZ rfl<|aD a rfl (fun G a=> ?_) (fun G a=> ?_)
 ·refine Ab<|F _ _ ?_
  refine Aa fun af u=>Ah<|Ad<|rn 2 rfl<|kC a fun H a=>rX H rfl<|rz rfl<|aD a rfl (fun I a=> ?_) (fun I a=> ?_)
  ·refine Ag<|rn 2 rfl<|kC a fun J a=>rX J rfl<|rn 2 rfl<|kC a fun K a=>rX K rfl<|rn 2 rfl<|AG 6 47 [(2,vI n),(7,vP q 0),(8,vP B 0),(9,vI e.1),(10,vI e.2.1),(12,vP h 0),(13,vI d),(36,vI (e.1+d))] vB (fun b_=>DG n s e d g (AJ n s e f) b_=some r) (fun ab a T=> ?_) (fun i=> ?_)
   ·unfold DG at a
    refine rn 1 rfl<|AG 7 55 [(2,vI n),(7,vP q 0),(8,vP B 0),(9,vI e.1),(10,vI e.2.1),(12,vP h 0),(13,vI d),(36,vI (e.1+d))] vB (fun b_=>Cx n s e d g (AJ n s e f) b_=some r) (fun ac a T=> ?_) (fun i=> ?_)
    ·unfold Cx at a
     refine rn 1 rfl<|AG 8 64 [(2,vI n),(7,vP q 0),(8,vP B 0),(9,vI e.1),(10,vI e.2.1),(12,vP h 0),(13,vI d),(36,vI (e.1+d))] vB (fun b_=>DF e d g (AJ n s e f) b_=some r) (fun C a T=> ?_) (fun i=> ?_)
     ·unfold DF at a
      refine kC a fun L a=> ?_
      have v:=fun c=>ET (IS (P:=prog) (c:=c) (t:=50) (b:=h) (off:=0) (k:= .i64) rfl rfl rfl L)
      simp only [q6] at v
      have p:((e.1+d)).toNat<64:=by omega
      refine r_W (Value.pointer (some ⟨h,((e.1+d)).toNat,none⟩)) rfl (v _)<|r_s [(h,50,(⟨Aw (put64 g (((e.1+d)).toNat) C)⟩:Array Value)),(B,50,(⟨Aw (0#64)⟩:Array Value)),(q,50,(⟨Aw s⟩:Array Value))] 0 _ _ _ _ _ ((⟨Aw (put64 g (((e.1+d)).toNat) C)⟩:Array Value)) rfl rfl rfl rfl (NB rfl rfl _ _ p) (Km _ _ _ p) rfl<|Ak<|u _ _ ?_
      refine Ag<|rn 1 rfl<|kC a fun M a=>rX M rfl<|rz rfl<|fg _ (Sub.of (suK _ (suK _ (suK _ suN)))) ?_
      exact⟨f+1,by omega,f,(d+1),put64 g (((e.1+d)).toNat) C,a,Af rfl rfl,rfl⟩
     rcases x:ac with _|_
     ·replace a:=iB x a
      refine rn 8 rfl ?_
      first|exact i _ _ a rfl rfl|exact lx_cn _ _ (i _ _ a rfl rfl)
     replace a:=ifp x a
     refine rn 2 rfl<|r_y rfl<|kC a fun O a=>rX O rfl<|rn 1 rfl<|r_y rfl<|kC a fun Q a=>rX Q rfl<|r_y rfl<|kC a fun R a=> ?_
     have y:=fun c=>ET (IS (P:=prog) (c:=c) (t:=50) (b:=q) (off:=0) (k:= .i64) rfl rfl rfl R)
     simp only [q6] at y
     have D:(((e.1+d) - n)).toNat<64:=by omega
     refine r_W (Value.pointer (some ⟨q,(((e.1+d) - n)).toNat,none⟩)) rfl (y _)<|r_y rfl<|r_l (vB ((s).getLsbD ((((e.1+d) - n)).toNat))) 2 _ _ _ _ rfl rfl rfl rfl (iz rfl _ D)<|rn 1 rfl ?_
     first|exact i _ _ a rfl rfl|exact lx_cn _ _ (i _ _ a rfl rfl)
    rcases z:ab with _|_
    ·replace a:=iB z a
     refine rn 7 rfl ?_
     first|exact i _ _ a rfl rfl|exact lx_cn _ _ (i _ _ a rfl rfl)
    replace a:=ifp z a
    refine rn 2 rfl<|r_y rfl<|kC a fun S a=>rX S rfl<|rn 1 rfl<|r_y rfl<|kC a fun U a=>rX U rfl<|rn 2 rfl ?_
    first|exact i _ _ a rfl rfl|exact lx_cn _ _ (i _ _ a rfl rfl)
   rcases A:(decide (((d - n):Int)≥0))with _|_
   ·replace a:=iF A a
    refine rn 6 rfl ?_
    first|exact i _ _ a rfl rfl|exact lx_cn _ _ (i _ _ a rfl rfl)
   replace a:=iD A a
   refine rn 2 rfl<|r_y rfl<|kC a fun V a=>rX V rfl<|rn 3 rfl ?_
   first|exact i _ _ a rfl rfl|exact lx_cn _ _ (i _ _ a rfl rfl)
  refine Ab<|u _ _ ?_
  refine Ag<|rn 1 rfl<|kC a fun W a=>rX W rfl<|rz rfl<|fg _ (Sub.of (suK _ (suK _ (suK _ suN)))) ?_
  exact⟨f+1,by omega,f,(d+1),g,a,Af rfl rfl,rfl⟩
 refine AD<|E _ _ ?_
 refine AY [0,1] rfl ?_
 obtain rfl:=q1 a
 refine Bi (fun hn=>Tg (v0:=vA (⟨Aw g⟩:Array Value)) rfl (Gj (AT hn 1 rfl rfl rfl)))
end Go.Proofs.YthmpbldidnmenaaGreatDoor
