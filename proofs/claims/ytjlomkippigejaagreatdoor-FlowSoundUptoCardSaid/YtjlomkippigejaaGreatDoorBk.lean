import Derived.Test.YtjlomkippigejaaGreatDoorBj
namespace Go.Proofs.YtjlomkippigejaaGreatDoor
open Go Go.RowKit Go.Eng _root_.Go.Proofs.Tryz
set_option linter.unusedSimpArgs false
set_option linter.unusedVariables false
set_option maxRecDepth 100000
set_option maxHeartbeats 80000000
abbrev rj(b:Nat)(x0:W2)(x1:Value)(x2:Value)(x3:Value)(x4:Value)(x5:Value)(x6:Value)(x7:Value)(x8:Value)(x9:Value)(x10:Value)(x11:Value)(x12:Value)(x13:Value)(x14:Value)(x15:Int)(x16:Int)(x17:Int)(x18:Value):List Bl:=[(b,80, #[vS x0,x1,x2,x3,x4,x5,x6,x7,x8,x9,x10,x11,x12,x13,x14,vI x15,vI x16,vI x17,x18])]
abbrev Bn(b:Nat)(m:Ao)(v:AB)(x:Value):List Bl:=rj b m.1 v.1 v.2.1 v.2.2.1 v.2.2.2.1 v.2.2.2.2.1 v.2.2.2.2.2.1 v.2.2.2.2.2.2.1 v.2.2.2.2.2.2.2.1 v.2.2.2.2.2.2.2.2.1 v.2.2.2.2.2.2.2.2.2.1 v.2.2.2.2.2.2.2.2.2.2.1 v.2.2.2.2.2.2.2.2.2.2.2.1 v.2.2.2.2.2.2.2.2.2.2.2.2.1 v.2.2.2.2.2.2.2.2.2.2.2.2.2 m.2.2.2.2.2.2.2.2.2.2.2.2.2.2.2.1 m.2.2.2.2.2.2.2.2.2.2.2.2.2.2.2.2.1 m.2.2.2.2.2.2.2.2.2.2.2.2.2.2.2.2.2 x
abbrev Gr(b:Nat)(x0:Bool)(x1:W4):List Bl:=[(b,86, #[vB x0,U x1])]
abbrev Po(b:Nat)(x0:Int)(x1:Int):List Bl:=[(b,121, #[vI x0,vI x1])]
abbrev QK(b:Nat)(x0:Int)(x1:Int):List Bl:=[(b,123, #[vI x0,vI x1])]
abbrev lF(b:Nat)  :List Bl:=[(b,125, #[])]
abbrev cc(b:Nat)(x0:Int)(x1:Int)(x2:Int):List Bl:=[(b,109, #[vI x0,vI x1,vI x2])]
abbrev LP(b:Nat)(x0:Int)(x1:Int)(x2:Int)(x3:Int)(x4:W4)(x5:W4):List Bl:=[(b,53, #[vI x0,vI x1,vI x2,vI x3,U x4,U x5])]
abbrev Nn(b:Nat)(x0:W2)(x1:Int)(x2:Int)(x3:Int)(x4:Int)(x5:Int)(x6:Int)(x7:Int)(x8:W2):List Bl:=[(b,56, #[vS x0,vI x1,vI x2,vI x3,vI x4,vI x5,vI x6,vI x7,vS x8])]
def GX(N:Nat):Option (List Int):=(JL N ([1]) 8).bind λa=>some a
theorem TW(N r)(a:GX N=some r)(j:Ro):Does prog 20 #[] j [] (p1 (λs_=>s_) 3 BE r):=by
 unfold GX at a
 refine Al follows func20 Z 3 Z _ fz0 (λb=> ?_)
 refine AZ Z<|Ad<|gB (Ls:=[]) 3 BE [1] (λf c g=> ?_)
 refine kB a λl d a=>gS (Ls:=[c]) (cF ta) (λo w z_=>Qh N ([1]) 8 _ d z_.view f ((Ax g (Aj (Ls:=[c]) (k:=0) Z Z)) o w z_)) (λh i e=> ?_)
 refine rz Z ?_
 cases a
 refine Bh (λm=>GZ (v0:=h) e (Dy (Sub.pick [c,i] [1] Z)) Z (FZ Z))
def Ik(_:Nat)(s:W4)(a:W4):Option (W4):=some (s&&&a)
theorem Qf(N s b r)(c:Ik N s b=some r):Gives prog 25 #[U s,U b] (U r):=by
 unfold Ik at c
 refine Aq follows func25 Z 8 Z _ fz2 (λa=> ?_)
 refine AZ Z<|Ad<|rn 2 Z<|r_X (U (s&&&b)) Z (Xb s b) Z<|rz Z ?_
 cases c
 exact aR eE1
def Dd(b:List (Bool×W4))(a:Int)(c:W4):Option (List (Bool×W4)):=ck (0<=a/\a<(b.length:Int)) (some ((b).set (a.toNat) (true,c)))
def AV(N:Nat)(_:Ao)(b:List (Bool×W4))(a:Int)(s:W4):Option (List (Bool×W4)):=ck (0<=a/\a<(b.length:Int)) (if((b[a.toNat]!).1)=true then ck (0<=a/\a<(b.length:Int)) ((Ik N s ((b[a.toNat]!).2)).bind λc=>Dd b a c)else Dd b a s)
theorem HB(N d i g s r)(f:AV N d i g s=some r)(x:Ro)(a:AB)(_hw_0:Aa1 x a d)(b:Value)(c:List Bl)(e:Sl 86 Nb b i c):Does prog 22 #[vA #[vS d.1,a.1,a.2.1,a.2.2.1,a.2.2.2.1,a.2.2.2.2.1,a.2.2.2.2.2.1,a.2.2.2.2.2.2.1,a.2.2.2.2.2.2.2.1,a.2.2.2.2.2.2.2.2.1,a.2.2.2.2.2.2.2.2.2.1,a.2.2.2.2.2.2.2.2.2.2.1,a.2.2.2.2.2.2.2.2.2.2.2.1,a.2.2.2.2.2.2.2.2.2.2.2.2.1,a.2.2.2.2.2.2.2.2.2.2.2.2.2,vI d.2.2.2.2.2.2.2.2.2.2.2.2.2.2.2.1,vI d.2.2.2.2.2.2.2.2.2.2.2.2.2.2.2.2.1,vI d.2.2.2.2.2.2.2.2.2.2.2.2.2.2.2.2.2,b],vI g,U s] x (List.flatten [c]) (pO (List.flatten [c]) (oI 86 Nb b r (oE (vT #[]) []))):=by
 unfold AV at f
 refine EE follows func22 Z 26 Z _ fz3 (λ_ _ h_ _=>h_) (λq=> ?_)
 refine Ad<|rA Z λj=>Ak<|Cb (λtt ll=> ∃(h:W4),(Dd i g h=some r)/\Is [(1,vI g),(2,U h),(3,vP j 0)] (List.flatten [(Bn j d a b),c]) tt ll) ?_ ?_
 ·refine Ad<|rm 3 [0] Z<|kC f λm f=>rI (Sl.shp e) m Z<|rF (Sl.shp e) (Bf m) Z ?_
  refine rE (Ax e (Aj (Ls:=[(Bn j d a b),c]) (k:=1) Z Z)) m 0 Z<|Ak ?_
  refine aB f Z (λu f=> ?_) (λu f=> ?_)
  ·refine Ah<|rm 4 [0] Z<|kC f λn f=>rI (Sl.shp e) n Z<|rF (Sl.shp e) (Bf n) Z ?_
   refine rE (Ax e (Aj (Ls:=[(Bn j d a b),c]) (k:=1) Z Z)) n 1 Z<|kB f λv o f=>rc _ (cF im) (Qf N s ((i[g.toNat]!).2) _ o)<|rz Z<|fg _ (Sub.pick [(Bn j d a b),c] [0,1] Z) ?_
   exact⟨v,f,Ag Z Z⟩
  refine Ab<|fg _ (Sub.pick [(Bn j d a b),c] [0,1] Z) ?_
  exact⟨s,f,Ag Z Z⟩
 clear f;rintro t l ⟨h,f,⟨T,rfl⟩,rfl⟩
 unfold Dd at f
 refine Ah<|r_V (vP j 18) Z<|rl b 0<|r_R [vI g,U h] Z<|r_W (vA #[vB true,U h]) Z (Ar Z Z Z Z)<|kC f λp f=>rI (Sl.shp e) p Z ?_
 refine RT (Ls:=[(Bn j d a b),c]) 1 (En:=Nb) (i[g.toNat]!) (true,h) (g.toNat) 0 Z Z Z e (Dx p) Z Z Z (Jp Z) Z (λw y=> ?_)
 refine Ak ?_
 cases f
 refine WE (v0:=vT #[]) (O:=[w]) Z (Sub.pick [(Bn j d a b),w] [1] Z) ⟨w,_,y,⟨Z,Z⟩,Z⟩
def Ju(a:Int)(b:Bool):Option (W4):=if b=true then some (0#64)else ck ((0:Int)<=a) (some (1#64<<<a.toNat))
def Iy(_:Nat)(a:Int):Option (W4):=if a<0 then Ju a true else Ju a (decide (a>=64))
theorem QT(N a r)(b:Iy N a=some r):Gives prog 27 #[vI a] (U r):=by
 unfold Iy at b
 refine Aq follows func27 Z 11 Z _ fz1 (λd=> ?_)
 refine AZ Z<|Aa λj e=>Aa λk f=>Ah<|rn 3 Z<|AF 3 8 [(0,vI a)] vB (λb_=>Ju a b_=some r) (λl b T=> ?_) (λi=> ?_)
 ·unfold Ju at b
  refine Ak<|f _ _ ?_
  refine aB b Z (λg b=> ?_) (λg b=> ?_)
  ·refine AZ Z ?_
   cases b
   exact aR eE1
  refine Ab<|e _ _ ?_
  refine Ad<|rn 1 Z<|kC b λh b=>r_W (U (1#64<<<a.toNat)) Z (rJ (x:=1#64) Z Z h)<|rz Z ?_
  cases b
  exact aR eE1
 rcases c:(decide (a<0))with _|_
 ·replace b:=iF c b
  refine rn 3 Z ?_
  exact i _ _ b Z Z
 replace b:=iD c b
 refine rn 3 Z ?_
 exact i _ _ b Z Z
def BF(N:Nat)(s:W4)(a:Int):Option (W4):=(Iy N a).bind λb=>some (s|||b)
theorem Lf(N s a r)(b:BF N s a=some r):Gives prog 17 #[U s,vI a] (U r):=by
 unfold BF at b
 refine Aq follows func17 Z 9 Z _ fz2 (λc=> ?_)
 refine AZ Z<|Ad<|rn 2 Z<|kB b λe d b=>rc _ (cF aX) (QT N a _ d)<|r_X (U (s|||e)) Z (xy s e) Z<|rz Z ?_
 cases b
 exact aR eE1
def Ce(N:Nat)(s:W4)(a:Int):Option Bool:=(Iy N a).bind λb=>some ((s&&&b) !=(0#64))
theorem NT(N s a r)(b:Ce N s a=some r):Gives prog 16 #[U s,vI a] (vB r):=by
 unfold Ce at b
 refine Aq follows func16 Z 10 Z _ fz2 (λc=> ?_)
 refine AZ Z<|Ad<|rn 2 Z<|kB b λd e b=>rc _ (cF aX) (QT N a _ e)<|r_X (U (s&&&d)) Z (Xb s d) Z<|r_X (vB ((s&&&d) !=(0#64))) Z (xV (s&&&d) (0#64)) Z<|rz Z ?_
 cases b
 exact aR eE1
def Bo(N:Nat)(s:W4)(a:Int):Option (W4):=(Iy N a).bind λb=>some (s&&&~~~b)
theorem Lj(N s a r)(b:Bo N s a=some r):Gives prog 38 #[U s,vI a] (U r):=by
 unfold Bo at b
 refine Aq follows func38 Z 9 Z _ fz2 (λc=> ?_)
 refine AZ Z<|Ad<|rn 2 Z<|kB b λe d b=>rc _ (cF aX) (QT N a _ d)<|r_X (U (s&&&~~~e)) Z (qa s e) Z<|rz Z ?_
 cases b
 exact aR eE1
def Gb(N:Nat)(a:Int)(b:Int)(s:W4):Option (W4):=if a=25 then(BF N s b).bind λd=>some d else if a=26 then(Bo N s b).bind λc=>some c else some s
theorem XR(N e b s r)(a:Gb N e b s=some r):Gives prog 79 #[vA #[vI e,vI b],U s] (U r):=by
 unfold Gb at a
 refine Aq follows func79 Z 20 Z _ fz2 (λf=> ?_)
 refine Ad<|rA Z λk=>rz Z<|Aa λl g=>AY [0] Z<|Ai<|AZ Z<|aE a Z (λh a=> ?_) (λh a=> ?_)
 ·refine Ad<|rm 3 [0] Z<|kB a λm i a=>rc _ (cF Vb) (Lf N s b _ i)<|rz Z ?_
  cases a
  exact aR eE1
 refine AZ Z<|aE a Z (λc a=> ?_) (λc a=> ?_)
 ·refine Ad<|rm 3 [0] Z<|kB a λj d a=>rc _ (cF aW) (Lj N s b _ d)<|rz Z ?_
  cases a
  exact aR eE1
 refine Ab<|g _ _ ?_
 refine AZ Z ?_
 cases a
 exact aR eE1
def Hx(_:Nat)(b:Int)(_:Int)(a:Int):Option Int:=if b=28 then ck (R64 (0 - a)) (some (0 - a))else some a
theorem fv(N b c d r)(a:Hx N b c d=some r):Gives prog 81 #[vA #[vI b,vI c,vI d]] (vI r):=by
 unfold Hx at a
 refine Aq follows func81 Z 11 Z _ fz1 (λe=> ?_)
 refine Ad<|rA Z λi=>rz Z<|Aa λj f=>AY [0] Z<|aE a Z (λg a=> ?_) (λg a=> ?_)
 ·refine Ad<|rm 2 [0] Z<|kC a λh a=>rX h Z<|rz Z ?_
  cases a
  exact aR eE1
 refine Ab<|f _ _ ?_
 refine AY [0] Z ?_
 cases a
 exact aR eE1
def EF(N:Nat)(d:Int×Int×Bool)(b:Int)(a:W4->Int->Option (W4))(c:W4)(e:Bool):Option (W4):=if e=true then ck (R64 (d.1+b)) ((BF N c (d.1+b)).bind λf=>ck (R64 (b+1)) (a f (b+1)))else ck (R64 (b+1)) (a c (b+1))
def Fy(N:Nat)(n:Int)(s:W4)(c:Int×Int×Bool)(b:Int)(a:W4->Int->Option (W4))(d:W4)(e:Bool):Option (W4):=if e=true then ck ((R64 (c.1+(b - max (-4) (min n 4))))) ((Ce N s (c.1+(b - max (-4) (min n 4)))).bind λf=>EF N c b a d f)else EF N c b a d false
def AL(N:Nat)(n:Int)(s:W4)(c:Int×Int×Bool):Nat->W4->Int->Option (W4)
  |0,_,_=>none
  |e+1,b,a=>if a<c.2.1 then ck (R64 (c.1+a)) ((Bo N b (c.1+a)).bind λd=>ck (R64 (a - max (-4) (min n 4))) (if((a - max (-4) (min n 4)):Int)>=0 then Fy N n s c a (AL N n s c e) d (decide (((a - max (-4) (min n 4)):Int)<c.2.1))else Fy N n s c a (AL N n s c e) d false))else some b
def Fs(N:Nat)(m:Ao)(a:Int)(n:Int)(s:W4):Option (W4):=(ED N m a).bind λb=>if b.2.2=true then AL N n s b N s 0 else some s
theorem Wv(N m g n s r)(a:Fs N m g n s=some r)(P)(O:AB)(Y:Aa1 P O m):Does prog 80 #[vA (Ac m O),vI g,vI n,U s] P [] (pV (U r)):=by
 unfold Fs at a
 refine Al follows func80 Z 62 Z _ fz4 (λI=> ?_)
 refine Ad<|rA Z λb2=>rz Z<|Ad<|rm 2 [0] Z<|kB a λe J a=>gV _ (cF aS) (λo w z_=>NN N m g _ J z_.view O (Aa1.mono z_.ro_cell Y))<|rz Z<|Aa λK6 K=>AZ Z<|BI _ Z (λk=> ?_) (λk=> ?_)
 ·replace a:=ifn (Bool.eq_false_iff.1 (Dk k)) a
  refine AZ Z ?_
  cases a
  exact aR eV1
 replace a:=ifp (Dl k) a
 refine Ab<|K _ _ ?_
 refine Ad<|rn 1 Z<|r_W (vI (min n 4)) Z (vM Z Z)<|r_W (vI (max (-4) (min n 4))) Z (mb Z Z)<|rz Z<|AZ Z<|Aa λQ p=>AZ Z<|Ai<|Bs [] (Sub.of (suC _ suN))<|AH (λtt ll nn=> ∃(d:Nat) (c:W4) (b:Int),(AL N n s e d c b=some r)/\Is [(2,vI (max (-4) (min n 4))),(3,U s),(9,vI e.1),(10,vI e.2.1),(12,U c),(29,vI e.2.1),(30,vI b)] [] tt ll/\nn=d+1) (N+1) ?_ ?_
 ·exact⟨N,s,0,a,Ag Z Z,Z⟩
 clear a;rintro t l _ ⟨d,c,b,a,⟨⟨T,rfl⟩,rfl⟩,rfl⟩
 rcases d with _|d
 ·exact absurd a (by simp [AL])
 rw [AL] at a
 refine AZ Z<|Aa λR q=>aD a Z (λu a=> ?_) (λu a=> ?_)
 ·refine Ab<|q _ _ ?_
  refine Aa λS h=>Ai<|AZ Z<|Ad<|rn 3 Z<|kC a λv a=>rX v Z<|kB a λf x a=>rc _ (cF aW) (Lj N c (e.1+b) _ x)<|rz Z<|Ad<|rn 2 Z<|kC a λy a=>rX y Z<|rz Z<|Aa λV z=>Ah<|rn 3 Z<|AF 4 47 [(2,vI (max (-4) (min n 4))),(3,U s),(9,vI e.1),(10,vI e.2.1),(12,U f),(13,vI b),(14,vI (b - max (-4) (min n 4))),(29,vI e.2.1),(30,vI b)] vB (λb_=>Fy N n s e b (AL N n s e d) f b_=some r) (λL a T=> ?_) (λA=> ?_)
  ·unfold Fy at a
   refine rn 1 Z<|AF 6 54 [(2,vI (max (-4) (min n 4))),(3,U s),(9,vI e.1),(10,vI e.2.1),(12,U f),(13,vI b),(29,vI e.2.1),(30,vI b)] vB (λb_=>EF N e b (AL N n s e d) f b_=some r) (λW a T=> ?_) (λA=> ?_)
   ·unfold EF at a
    refine Ak<|z _ _ ?_
    refine aB a Z (λB a=> ?_) (λB a=> ?_)
    ·refine Ah<|rn 3 Z<|kC a λC a=>rX C Z<|kB a λM D a=>rc _ (cF Vb) (Lf N f (e.1+b) _ D)<|rz Z<|h _ _ ?_
     refine Ah<|kC a λE a=>rX E Z<|rz Z<|fg _ (Sub.of suN) ?_
     exact⟨d+1,by omega,d,M,(b+1),a,Ag Z Z,Z⟩
    refine Ab<|h _ _ ?_
    refine Ah<|kC a λF a=>rX F Z<|rz Z<|fg _ (Sub.of suN) ?_
    exact⟨d+1,by omega,d,f,(b+1),a,Ag Z Z,Z⟩
   rcases i:L with _|_
   ·replace a:=iB i a
    refine rn 6 Z ?_
    exact A _ _ a Z Z
   replace a:=ifp i a
   refine rn 3 Z<|r_y Z<|kC a λG a=>rX G Z<|r_y Z<|kB a λX H a=>rc _ (cF aZ) (NT N s (e.1+(b - max (-4) (min n 4))) _ H)<|rn 1 Z ?_
   exact A _ _ a Z Z
  rcases j:(decide (((b - max (-4) (min n 4)):Int)>=0))with _|_
  ·replace a:=iF j a
   refine rn 4 Z ?_
   exact A _ _ a Z Z
  replace a:=iD j a
  refine rn 4 Z ?_
  exact A _ _ a Z Z
 refine AG<|p _ _ ?_
 refine AZ Z ?_
 cases a
 exact aR eV1
def BD(N:Nat)(m:Ao)(x:Aa0)(s:W4):Option ((W4)×Int):=Aa0.on x (some (s,0)) (λ_ _=>some (s,0)) (λg _=>(BF N s g).bind λk=>some (k,0)) (some (s,0)) (λ_ f _=>(Ce N s f).bind λl=>if l=true then some (s,0)else some (0#64,11)) (λe b=>(Gb N e b s).bind λj=>some (j,0)) (λd a c=>(Hx N d a c).bind λi=>(Fs N m a i s).bind λh=>some (h,0)) (λ_ _=>some (s,0)) (λ_ _=>some (s,0)) (λ_ _=>some (s,0)) (λ_ _=>some (s,0)) (λ_=>some (s,0))
theorem TV(N m x s r)(b:BD N m x s=some r)(u)(t:AB)(H:Aa1 u t m):Does prog 37 #[vA (Ac m t),Aa0.v x,U s] u [] (pV (vT #[U r.1,vI r.2])):=by
 unfold BD at b
 refine Al follows func37 Z 45 Z _ fz3 (λp=> ?_)
 refine Ad<|rA Z λI=>rz Z<|Aa λJ d=>AZ Z<|Ai<|Aa λK c=>Ah ?_
 rcases Aa0.cases x with a|⟨x7_0,x8_1,a⟩|⟨x9_0,x10_1,a⟩|a|⟨x11_0,x12_1,x13_2,a⟩|⟨x14_0,x15_1,a⟩|⟨x16_0,x17_1,x18_2,a⟩|⟨x19_0,x20_1,a⟩|⟨x21_0,x22_1,a⟩|⟨x23_0,x24_1,a⟩|⟨x25_0,x26_1,a⟩|⟨x27_0,a⟩
 ·replace b:=Aa0.on_nil a b
  refine r_W (vT #[vA #[vI 0,vI 0,vI 0],vB false]) Z (AE (congrArg Aa0.v a) Z) ?_
  refine rz Z<|c _ _ ?_
  refine Co Z ?_
  refine Ad<|r_W (vT #[vA #[vI 0,vI 0],vB false]) Z (AE (congrArg Aa0.v a) Z) ?_
  refine rz Z<|Co Z ?_
  refine Ad<|r_W (vT #[vA #[vI 0,vI 0,vI 0],vB false]) Z (AE (congrArg Aa0.v a) Z) ?_
  refine rz Z<|Co Z ?_
  refine Ad<|r_W (vT #[vA #[vI 0,vI 0],vB false]) Z (AE (congrArg Aa0.v a) Z) ?_
  refine rz Z<|Co Z ?_
  refine Ab<|d _ _ ?_
  refine AZ Z ?_
  cases b
  exact aR eV2
 ·replace b:=Aa0.on_t121 a b
  refine r_W (vT #[vA #[vI 0,vI 0,vI 0],vB false]) Z (AE (congrArg Aa0.v a) Z) ?_
  refine rz Z<|c _ _ ?_
  refine Co Z ?_
  refine Ad<|r_W (vT #[vA #[vI 0,vI 0],vB false]) Z (AE (congrArg Aa0.v a) Z) ?_
  refine rz Z<|Co Z ?_
  refine Ad<|r_W (vT #[vA #[vI 0,vI 0,vI 0],vB false]) Z (AE (congrArg Aa0.v a) Z) ?_
  refine rz Z<|Co Z ?_
  refine Ad<|r_W (vT #[vA #[vI 0,vI 0],vB false]) Z (AE (congrArg Aa0.v a) Z) ?_
  refine rz Z<|Co Z ?_
  refine Ab<|d _ _ ?_
  refine AZ Z ?_
  cases b
  exact aR eV2
 ·replace b:=Aa0.on_t123 a b
  refine r_W (vT #[vA #[vI 0,vI 0,vI 0],vB false]) Z (AE (congrArg Aa0.v a) Z) ?_
  refine rz Z<|c _ _ ?_
  refine Co Z ?_
  refine Ad<|r_W (vT #[vA #[vI 0,vI 0],vB false]) Z (AE (congrArg Aa0.v a) Z) ?_
  refine rz Z<|Co Z ?_
  refine Ad<|r_W (vT #[vA #[vI 0,vI 0,vI 0],vB false]) Z (AE (congrArg Aa0.v a) Z) ?_
  refine rz Z<|Co Z ?_
  refine Ad<|r_W (vT #[vA #[vI x9_0,vI x10_1],vB true]) Z (AE (congrArg Aa0.v a) Z) ?_
  refine rz Z<|Nt Z ?_
  refine Ad<|rA Z λy=>ry [0] Z<|Ad<|rm 3 [0] Z<|kB b λz h b=>rc _ (cF Vb) (Lf N s x9_0 _ h)<|rz Z ?_
  cases b
  exact aR eV2
 ·replace b:=Aa0.on_t125 a b
  refine r_W (vT #[vA #[vI 0,vI 0,vI 0],vB false]) Z (AE (congrArg Aa0.v a) Z) ?_
  refine rz Z<|c _ _ ?_
  refine Co Z ?_
  refine Ad<|r_W (vT #[vA #[vI 0,vI 0],vB false]) Z (AE (congrArg Aa0.v a) Z) ?_
  refine rz Z<|Co Z ?_
  refine Ad<|r_W (vT #[vA #[vI 0,vI 0,vI 0],vB false]) Z (AE (congrArg Aa0.v a) Z) ?_
  refine rz Z<|Co Z ?_
  refine Ad<|r_W (vT #[vA #[vI 0,vI 0],vB false]) Z (AE (congrArg Aa0.v a) Z) ?_
  refine rz Z<|Co Z ?_
  refine Ab<|d _ _ ?_
  refine AZ Z ?_
  cases b
  exact aR eV2
 ·replace b:=Aa0.on_t164 a b
  refine r_W (vT #[vA #[vI x11_0,vI x12_1,vI x13_2],vB true]) Z (AE (congrArg Aa0.v a) Z) ?_
  refine rz Z<|c _ _ ?_
  refine Nt Z ?_
  refine Ad<|rA Z λA=>ry [0] Z<|Ad<|rm 3 [0] Z<|kB b λB i b=>rc _ (cF aZ) (NT N s x12_1 _ i)<|rz Z<|BI _ Z (λe=> ?_) (λe=> ?_)
  ·replace b:=ifn (Bool.eq_false_iff.1 (Dk e)) b
   refine AZ Z ?_
   cases b
   exact aR eV2
  replace b:=ifp (Dl e) b
  refine Ab<|d _ _ ?_
  refine AZ Z ?_
  cases b
  exact aR eV2
 ·replace b:=Aa0.on_t166 a b
  refine r_W (vT #[vA #[vI 0,vI 0,vI 0],vB false]) Z (AE (congrArg Aa0.v a) Z) ?_
  refine rz Z<|c _ _ ?_
  refine Co Z ?_
  refine Ad<|r_W (vT #[vA #[vI x14_0,vI x15_1],vB true]) Z (AE (congrArg Aa0.v a) Z) ?_
  refine rz Z<|Nt Z ?_
  refine Ad<|rA Z λC=>ry [0] Z<|Ad<|rm 2 [0] Z<|kB b λD j b=>rc _ (cF sn) (XR N x14_0 x15_1 s _ j)<|rz Z ?_
  cases b
  exact aR eV2
 ·replace b:=Aa0.on_t169 a b
  refine r_W (vT #[vA #[vI 0,vI 0,vI 0],vB false]) Z (AE (congrArg Aa0.v a) Z) ?_
  refine rz Z<|c _ _ ?_
  refine Co Z ?_
  refine Ad<|r_W (vT #[vA #[vI 0,vI 0],vB false]) Z (AE (congrArg Aa0.v a) Z) ?_
  refine rz Z<|Co Z ?_
  refine Ad<|r_W (vT #[vA #[vI x16_0,vI x17_1,vI x18_2],vB true]) Z (AE (congrArg Aa0.v a) Z) ?_
  refine rz Z<|Nt Z ?_
  refine Ad<|rA Z λE=>ry [0] Z<|Aa λF k=>BB [(some 36,false)] (conG prog [(36,λ_ _ v_ L_ U_=> ∀l,Hx N x16_0 x17_1 x18_2=some l-> ∀n,Fs N m x17_1 l s=some n->(pV (U n)) v_ L_ U_)]) [] (by decide+kernel) (λL=>AK)<|rm 4 [1,0,0] Z<|kB b λq f b=>rc _ (cF sk) (fv N x16_0 x17_1 x18_2 _ f)<|rn 1 Z<|kB b λG g b=>rg _ (cF sm) (λo w z_=>Wv N m x17_1 q s _ g z_.view t (Aa1.mono z_.ro_cell H)) (λ_ _ v_ L_ U_=>⟨λh_=>h_ _ f _ g,λh_=>by intro _ e_;cases q1 (e_.symm.trans f);intro _ e_;cases q1 (e_.symm.trans g);exact h_⟩) ?_
  refine rz Z<|k _ _ ?_
  cases b
  exact aR eV2
 ·replace b:=Aa0.on_t241 a b
  refine r_W (vT #[vA #[vI 0,vI 0,vI 0],vB false]) Z (AE (congrArg Aa0.v a) Z) ?_
  refine rz Z<|c _ _ ?_
  refine Co Z ?_
  refine Ad<|r_W (vT #[vA #[vI 0,vI 0],vB false]) Z (AE (congrArg Aa0.v a) Z) ?_
  refine rz Z<|Co Z ?_
  refine Ad<|r_W (vT #[vA #[vI 0,vI 0,vI 0],vB false]) Z (AE (congrArg Aa0.v a) Z) ?_
  refine rz Z<|Co Z ?_
  refine Ad<|r_W (vT #[vA #[vI 0,vI 0],vB false]) Z (AE (congrArg Aa0.v a) Z) ?_
  refine rz Z<|Co Z ?_
  refine Ab<|d _ _ ?_
  refine AZ Z ?_
  cases b
  exact aR eV2
 ·replace b:=Aa0.on_t242 a b
  refine r_W (vT #[vA #[vI 0,vI 0,vI 0],vB false]) Z (AE (congrArg Aa0.v a) Z) ?_
  refine rz Z<|c _ _ ?_
  refine Co Z ?_
  refine Ad<|r_W (vT #[vA #[vI 0,vI 0],vB false]) Z (AE (congrArg Aa0.v a) Z) ?_
  refine rz Z<|Co Z ?_
  refine Ad<|r_W (vT #[vA #[vI 0,vI 0,vI 0],vB false]) Z (AE (congrArg Aa0.v a) Z) ?_
  refine rz Z<|Co Z ?_
  refine Ad<|r_W (vT #[vA #[vI 0,vI 0],vB false]) Z (AE (congrArg Aa0.v a) Z) ?_
  refine rz Z<|Co Z ?_
  refine Ab<|d _ _ ?_
  refine AZ Z ?_
  cases b
  exact aR eV2
 ·replace b:=Aa0.on_t243 a b
  refine r_W (vT #[vA #[vI 0,vI 0,vI 0],vB false]) Z (AE (congrArg Aa0.v a) Z) ?_
  refine rz Z<|c _ _ ?_
  refine Co Z ?_
  refine Ad<|r_W (vT #[vA #[vI 0,vI 0],vB false]) Z (AE (congrArg Aa0.v a) Z) ?_
  refine rz Z<|Co Z ?_
  refine Ad<|r_W (vT #[vA #[vI 0,vI 0,vI 0],vB false]) Z (AE (congrArg Aa0.v a) Z) ?_
  refine rz Z<|Co Z ?_
  refine Ad<|r_W (vT #[vA #[vI 0,vI 0],vB false]) Z (AE (congrArg Aa0.v a) Z) ?_
  refine rz Z<|Co Z ?_
  refine Ab<|d _ _ ?_
  refine AZ Z ?_
  cases b
  exact aR eV2
 ·replace b:=Aa0.on_t245 a b
  refine r_W (vT #[vA #[vI 0,vI 0,vI 0],vB false]) Z (AE (congrArg Aa0.v a) Z) ?_
  refine rz Z<|c _ _ ?_
  refine Co Z ?_
  refine Ad<|r_W (vT #[vA #[vI 0,vI 0],vB false]) Z (AE (congrArg Aa0.v a) Z) ?_
  refine rz Z<|Co Z ?_
  refine Ad<|r_W (vT #[vA #[vI 0,vI 0,vI 0],vB false]) Z (AE (congrArg Aa0.v a) Z) ?_
  refine rz Z<|Co Z ?_
  refine Ad<|r_W (vT #[vA #[vI 0,vI 0],vB false]) Z (AE (congrArg Aa0.v a) Z) ?_
  refine rz Z<|Co Z ?_
  refine Ab<|d _ _ ?_
  refine AZ Z ?_
  cases b
  exact aR eV2
 replace b:=Aa0.on_t247 a b
 refine r_W (vT #[vA #[vI 0,vI 0,vI 0],vB false]) Z (AE (congrArg Aa0.v a) Z) ?_
 refine rz Z<|c _ _ ?_
 refine Co Z ?_
 refine Ad<|r_W (vT #[vA #[vI 0,vI 0],vB false]) Z (AE (congrArg Aa0.v a) Z) ?_
 refine rz Z<|Co Z ?_
 refine Ad<|r_W (vT #[vA #[vI 0,vI 0,vI 0],vB false]) Z (AE (congrArg Aa0.v a) Z) ?_
 refine rz Z<|Co Z ?_
 refine Ad<|r_W (vT #[vA #[vI 0,vI 0],vB false]) Z (AE (congrArg Aa0.v a) Z) ?_
 refine rz Z<|Co Z ?_
 refine Ab<|d _ _ ?_
 refine AZ Z ?_
 cases b
 exact aR eV2
def Av(N:Nat)(e:Ao)(d:(W4)×Int)(b:Int)(a:List (Bool×W4)):Option (Int×(List (Bool×W4))):=(AV N e a b d.1).bind λc=>ck ((c).length=(a).length) (some (0,c))
def CM(N:Nat)(d:Ao)(a:List (Bool×W4))(b:Int)(x:Aa0):Option (Int×(List (Bool×W4))):=ck (0<=b/\b<(a.length:Int)) (if((a[b.toNat]!).1)=true then(BD N d x ((a[b.toNat]!).2)).bind λc=>if(c.2:Int)≠0 then some (c.2,a)else ck (R64 (b+1)) (Aa0.on x (Av N d c (b+1) a) (λg f=>(AV N d a f c.1).bind λe=>ck ((e).length=(a).length) (if g=31 then some (0,e)else Av N d c (b+1) e)) (λh i=>(Bo N ((a[b.toNat]!).2) h).bind λe=>(AV N d a i e).bind λj=>ck ((j).length=(a).length) (Av N d c (b+1) j)) (ck ((R64 ((a.length:Int) - 1))) (Av N d c ((a.length:Int) - 1) a)) (λ_ _ _=>Av N d c (b+1) a) (λ_ _=>Av N d c (b+1) a) (λ_ _ _=>Av N d c (b+1) a) (λ_ _=>Av N d c (b+1) a) (λ_ _=>Av N d c (b+1) a) (λ_ _=>Av N d c (b+1) a) (λ_ _=>Av N d c (b+1) a) (λ_=>Av N d c (b+1) a))else some (0,a))
theorem Qm(N g c d x r)(h:CM N g c d x=some r)(ro)(b:AB)(A:Aa1 ro b g)(f:Value)(e:List Bl)(i:Sl 86 Nb f c e):Does prog 23 #[vA #[vS g.1,b.1,b.2.1,b.2.2.1,b.2.2.2.1,b.2.2.2.2.1,b.2.2.2.2.2.1,b.2.2.2.2.2.2.1,b.2.2.2.2.2.2.2.1,b.2.2.2.2.2.2.2.2.1,b.2.2.2.2.2.2.2.2.2.1,b.2.2.2.2.2.2.2.2.2.2.1,b.2.2.2.2.2.2.2.2.2.2.2.1,b.2.2.2.2.2.2.2.2.2.2.2.2.1,b.2.2.2.2.2.2.2.2.2.2.2.2.2,vI g.2.2.2.2.2.2.2.2.2.2.2.2.2.2.2.1,vI g.2.2.2.2.2.2.2.2.2.2.2.2.2.2.2.2.1,vI g.2.2.2.2.2.2.2.2.2.2.2.2.2.2.2.2.2,f],vI d,Aa0.v x] ro (List.flatten [e]) (pO (List.flatten [e]) (oI 86 Nb f r.2 (oE (vI r.1) []))):=by
 unfold CM at h
 refine EE follows func23 Z 71 Z _ fz3 (λ_ _ h_ _=>h_) (λab=> ?_)
 refine Ad<|rA Z λm=>rz Z<|Ad<|rm 3 [0] Z<|kC h λJ h=>rI (Sl.shp i) J Z ?_
 refine rE (Ax i (Aj (Ls:=[(Bn m g b f),e]) (k:=1) Z Z)) J 0 Z ?_
 refine rA Z λp=>ry [0] Z ?_
 refine Aa λK6 ad=>AY [0] Z<|BI _ Z (λG=> ?_) (λG=> ?_)
 ·replace h:=ifn (Bool.eq_false_iff.1 (Dk G)) h
  refine AZ Z ?_
  cases h
  refine Bh (λhn=>KV (v0:=vI 0) (O:=[e]) (FZ Z) (Sub.pick [(Gr p ((c[d.toNat]!).1) ((c[d.toNat]!).2)),(Bn m g b f),e] [2] Z) ⟨e,_,i,⟨Z,Z⟩,Z⟩)
 replace h:=ifp (Dl G) h
 refine Ab<|ad _ _ ?_
 refine Ad<|rm 5 [1,0] Z<|kB h λu K h=>gV _ (cF sY) (λo w z_=>TV N g x ((c[d.toNat]!).2) _ K z_.view b (Aa1.mono z_.ro_cell A))<|rz Z<|Aa λal L=>AZ Z<|aN h Z (λM h=> ?_) (λM h=> ?_)
 ·refine AZ Z<|GS [(6,vI u.2)] Z (λT=> ?_)
  cases h
  refine Bh (λhn=>KV (v0:=vI u.2) (O:=[e]) (FZ Z) (Sub.pick [(Gr p ((c[d.toNat]!).1) ((c[d.toNat]!).2)),(Bn m g b f),e] [2] Z) ⟨e,_,i,⟨Z,Z⟩,Z⟩)
 refine Ab<|L _ _ ?_
 refine Ad<|rn 1 Z<|kC h λP h=>rX P Z<|rz Z ?_
 refine Cb (λtt ll=> ∃(q:Int) (z:List (Bool×W4)),(Av N g u q z=some r)/\ ∃(n:List Bl),Sl 86 Nb f z n/\Is [(3,vP m 0),(8,U u.1),(10,vI q)] (List.flatten [(Bn m g b f),n]) tt ll) ?_ ?_
 ·refine AZ Z<|GS [(3,vP m 0),(7,vP p 0),(8,U u.1),(10,vI (d+1)),(36,Aa0.v x)] Z (λT=> ?_)
  refine Ai<|Aa λam j=>Ah ?_
  rcases Aa0.cases x with a|⟨x29_0,x30_1,a⟩|⟨x31_0,x32_1,a⟩|a|⟨x33_0,x34_1,x35_2,a⟩|⟨x36_0,x37_1,a⟩|⟨x38_0,x39_1,x40_2,a⟩|⟨x41_0,x42_1,a⟩|⟨x43_0,x44_1,a⟩|⟨x45_0,x46_1,a⟩|⟨x47_0,x48_1,a⟩|⟨x49_0,a⟩
  ·replace h:=Aa0.on_nil a h
   refine r_W (vT #[vA #[vI 0,vI 0],vB false]) Z (AE (congrArg Aa0.v a) Z) ?_
   refine rz Z<|j _ _ ?_
   refine Co Z ?_
   refine Ad<|r_W (vT #[vA #[vI 0,vI 0],vB false]) Z (AE (congrArg Aa0.v a) Z) ?_
   refine rz Z<|Co Z ?_
   refine Ad<|r_W (vT #[vA #[],vB false]) Z (AE (congrArg Aa0.v a) Z) ?_
   refine rz Z<|Co Z ?_
   refine Ab<|fg _ (Sub.pick [(Gr p ((c[d.toNat]!).1) ((c[d.toNat]!).2)),(Bn m g b f),e] [1,2] Z) ?_
   exact⟨(d+1),c,h,e,i,Ag Z Z⟩
  ·replace h:=Aa0.on_t121 a h
   refine r_W (vT #[vA #[vI x29_0,vI x30_1],vB true]) Z (AE (congrArg Aa0.v a) Z) ?_
   refine rz Z<|j _ _ ?_
   refine Nt Z ?_
   refine Ad<|rA Z λB=>ry [0] Z<|Ad ?_
   refine rm 4 [2,0] Z<|kB h λH s h=>kC h λai h=>gM (Ls:=[(Po B x29_0 x30_1),(Gr p ((c[d.toNat]!).1) ((c[d.toNat]!).2)),(Bn m g b f),e]) (FL:=[e]) [3] (cF Va) (λo w hn_ z_=>HB N g c x30_1 u.1 _ s _ b (Aa1.mono (LH (Ls:=[(Po B x29_0 x30_1),(Gr p ((c[d.toNat]!).1) ((c[d.toNat]!).2)),(Bn m g b f),e]) (is:=[3]) Z z_) A) f e i) ?_
   rintro _ _ ⟨y,_,Q,⟨rfl,rfl⟩,rfl⟩
   refine Dv (Ls:=[(Po B x29_0 x30_1),(Gr p ((c[d.toNat]!).1) ((c[d.toNat]!).2)),(Bn m g b f),y]) (Ls':=[(Po B x29_0 x30_1),(Gr p ((c[d.toNat]!).1) ((c[d.toNat]!).2)),(Bn m g b f),y]) [0,1,2,3] Z Z ?_
   refine Ak<|AY [0] Z<|aE h Z (λS h=> ?_) (λS h=> ?_)
   ·refine AZ Z ?_
    cases h
    refine Bh (λhn=>KV (v0:=vI 0) (O:=[y]) (FZ Z) (Sub.pick [(Po B x29_0 x30_1),(Gr p ((c[d.toNat]!).1) ((c[d.toNat]!).2)),(Bn m g b f),y] [3] Z) ⟨y,_,Q,⟨Z,Z⟩,Z⟩)
   refine Ab<|fg _ (Sub.pick [(Po B x29_0 x30_1),(Gr p ((c[d.toNat]!).1) ((c[d.toNat]!).2)),(Bn m g b f),y] [2,3] Z) ?_
   exact⟨(d+1),H,h,y,Q,Ag Z Z⟩
  ·replace h:=Aa0.on_t123 a h
   refine r_W (vT #[vA #[vI 0,vI 0],vB false]) Z (AE (congrArg Aa0.v a) Z) ?_
   refine rz Z<|j _ _ ?_
   refine Co Z ?_
   refine Ad<|r_W (vT #[vA #[vI x31_0,vI x32_1],vB true]) Z (AE (congrArg Aa0.v a) Z) ?_
   refine rz Z<|Nt Z ?_
   refine Ad<|rA Z λC=>ry [0] Z ?_
   refine BB [(some 59,true)] (conG prog [(59,λ_ _ v_ L_ U_=> ∀V,Bo N ((c[d.toNat]!).2) x31_0=some V-> ∀W,AV N g c x32_1 V=some W->(pO (List.flatten [e]) (oI 86 Nb f W (oE (vT #[]) []))) v_ L_ U_)]) [] (by decide+kernel) (λhn=>AK) ?_
   refine rm 6 [2,0,1] Z ?_
   refine rm 1 [0] Z<|kB h λH s h=>rc _ (cF aW) (Lj N ((c[d.toNat]!).2) x31_0 _ s)<|kB h λae D h=>kC h λX h=>jc (Ls:=[(QK C x31_0 x32_1),(Gr p ((c[d.toNat]!).1) ((c[d.toNat]!).2)),(Bn m g b f),e]) (FL:=[e]) [3] _ (some 59) 22 _ Z Z Z Z Z (cF Va) (λo w hn_ z_=>HB N g c x32_1 H _ D _ b (Aa1.mono (LH (Ls:=[(QK C x31_0 x32_1),(Gr p ((c[d.toNat]!).1) ((c[d.toNat]!).2)),(Bn m g b f),e]) (is:=[3]) Z z_) A) f e i) (λ_ _ v_ L_ U_=>⟨λh_=>h_ _ s _ D,λh_=>by intro _ e_;cases q1 (e_.symm.trans s);intro _ e_;cases q1 (e_.symm.trans D);exact h_⟩) (λ_=>(Ac6.sub (R:=(e++ [])) (tR i X (Uk Z)) (Sub.pick [e] [0] Z))) ?_
   rintro _ _ ⟨F,_,af,⟨rfl,rfl⟩,rfl⟩
   refine Dv (Ls:=[(QK C x31_0 x32_1),(Gr p ((c[d.toNat]!).1) ((c[d.toNat]!).2)),(Bn m g b f),F]) (Ls':=[(QK C x31_0 x32_1),(Gr p ((c[d.toNat]!).1) ((c[d.toNat]!).2)),(Bn m g b f),F]) [0,1,2,3] Z Z ?_
   refine Ak<|fg _ (Sub.pick [(QK C x31_0 x32_1),(Gr p ((c[d.toNat]!).1) ((c[d.toNat]!).2)),(Bn m g b f),F] [2,3] Z) ?_
   exact⟨(d+1),ae,h,F,af,Ag Z Z⟩
  ·replace h:=Aa0.on_t125 a h
   refine r_W (vT #[vA #[vI 0,vI 0],vB false]) Z (AE (congrArg Aa0.v a) Z) ?_
   refine rz Z<|j _ _ ?_
   refine Co Z ?_
   refine Ad<|r_W (vT #[vA #[vI 0,vI 0],vB false]) Z (AE (congrArg Aa0.v a) Z) ?_
   refine rz Z<|Co Z ?_
   refine Ad<|r_W (vT #[vA #[],vB true]) Z (AE (congrArg Aa0.v a) Z) ?_
   refine rz Z<|Nt Z ?_
   refine Ad<|rA Z λag=>ry [0] Z<|Ah<|rn 1 Z ?_
   refine rm 1 [2] Z<|rL (Sl.shp i) Z<|kC h λY h=>rX Y Z<|rz Z ?_
   refine fg _ (Sub.pick [(lF ag),(Gr p ((c[d.toNat]!).1) ((c[d.toNat]!).2)),(Bn m g b f),e] [2,3] Z) ?_
   exact⟨((c.length:Int) - 1),c,h,e,i,Ag Z Z⟩
  ·replace h:=Aa0.on_t164 a h
   refine r_W (vT #[vA #[vI 0,vI 0],vB false]) Z (AE (congrArg Aa0.v a) Z) ?_
   refine rz Z<|j _ _ ?_
   refine Co Z ?_
   refine Ad<|r_W (vT #[vA #[vI 0,vI 0],vB false]) Z (AE (congrArg Aa0.v a) Z) ?_
   refine rz Z<|Co Z ?_
   refine Ad<|r_W (vT #[vA #[],vB false]) Z (AE (congrArg Aa0.v a) Z) ?_
   refine rz Z<|Co Z ?_
   refine Ab<|fg _ (Sub.pick [(Gr p ((c[d.toNat]!).1) ((c[d.toNat]!).2)),(Bn m g b f),e] [1,2] Z) ?_
   exact⟨(d+1),c,h,e,i,Ag Z Z⟩
  ·replace h:=Aa0.on_t166 a h
   refine r_W (vT #[vA #[vI 0,vI 0],vB false]) Z (AE (congrArg Aa0.v a) Z) ?_
   refine rz Z<|j _ _ ?_
   refine Co Z ?_
   refine Ad<|r_W (vT #[vA #[vI 0,vI 0],vB false]) Z (AE (congrArg Aa0.v a) Z) ?_
   refine rz Z<|Co Z ?_
   refine Ad<|r_W (vT #[vA #[],vB false]) Z (AE (congrArg Aa0.v a) Z) ?_
   refine rz Z<|Co Z ?_
   refine Ab<|fg _ (Sub.pick [(Gr p ((c[d.toNat]!).1) ((c[d.toNat]!).2)),(Bn m g b f),e] [1,2] Z) ?_
   exact⟨(d+1),c,h,e,i,Ag Z Z⟩
  ·replace h:=Aa0.on_t169 a h
   refine r_W (vT #[vA #[vI 0,vI 0],vB false]) Z (AE (congrArg Aa0.v a) Z) ?_
   refine rz Z<|j _ _ ?_
   refine Co Z ?_
   refine Ad<|r_W (vT #[vA #[vI 0,vI 0],vB false]) Z (AE (congrArg Aa0.v a) Z) ?_
   refine rz Z<|Co Z ?_
   refine Ad<|r_W (vT #[vA #[],vB false]) Z (AE (congrArg Aa0.v a) Z) ?_
   refine rz Z<|Co Z ?_
   refine Ab<|fg _ (Sub.pick [(Gr p ((c[d.toNat]!).1) ((c[d.toNat]!).2)),(Bn m g b f),e] [1,2] Z) ?_
   exact⟨(d+1),c,h,e,i,Ag Z Z⟩
  ·replace h:=Aa0.on_t241 a h
   refine r_W (vT #[vA #[vI 0,vI 0],vB false]) Z (AE (congrArg Aa0.v a) Z) ?_
   refine rz Z<|j _ _ ?_
   refine Co Z ?_
   refine Ad<|r_W (vT #[vA #[vI 0,vI 0],vB false]) Z (AE (congrArg Aa0.v a) Z) ?_
   refine rz Z<|Co Z ?_
   refine Ad<|r_W (vT #[vA #[],vB false]) Z (AE (congrArg Aa0.v a) Z) ?_
   refine rz Z<|Co Z ?_
   refine Ab<|fg _ (Sub.pick [(Gr p ((c[d.toNat]!).1) ((c[d.toNat]!).2)),(Bn m g b f),e] [1,2] Z) ?_
   exact⟨(d+1),c,h,e,i,Ag Z Z⟩
  ·replace h:=Aa0.on_t242 a h
   refine r_W (vT #[vA #[vI 0,vI 0],vB false]) Z (AE (congrArg Aa0.v a) Z) ?_
   refine rz Z<|j _ _ ?_
   refine Co Z ?_
   refine Ad<|r_W (vT #[vA #[vI 0,vI 0],vB false]) Z (AE (congrArg Aa0.v a) Z) ?_
   refine rz Z<|Co Z ?_
   refine Ad<|r_W (vT #[vA #[],vB false]) Z (AE (congrArg Aa0.v a) Z) ?_
   refine rz Z<|Co Z ?_
   refine Ab<|fg _ (Sub.pick [(Gr p ((c[d.toNat]!).1) ((c[d.toNat]!).2)),(Bn m g b f),e] [1,2] Z) ?_
   exact⟨(d+1),c,h,e,i,Ag Z Z⟩
  ·replace h:=Aa0.on_t243 a h
   refine r_W (vT #[vA #[vI 0,vI 0],vB false]) Z (AE (congrArg Aa0.v a) Z) ?_
   refine rz Z<|j _ _ ?_
   refine Co Z ?_
   refine Ad<|r_W (vT #[vA #[vI 0,vI 0],vB false]) Z (AE (congrArg Aa0.v a) Z) ?_
   refine rz Z<|Co Z ?_
   refine Ad<|r_W (vT #[vA #[],vB false]) Z (AE (congrArg Aa0.v a) Z) ?_
   refine rz Z<|Co Z ?_
   refine Ab<|fg _ (Sub.pick [(Gr p ((c[d.toNat]!).1) ((c[d.toNat]!).2)),(Bn m g b f),e] [1,2] Z) ?_
   exact⟨(d+1),c,h,e,i,Ag Z Z⟩
  ·replace h:=Aa0.on_t245 a h
   refine r_W (vT #[vA #[vI 0,vI 0],vB false]) Z (AE (congrArg Aa0.v a) Z) ?_
   refine rz Z<|j _ _ ?_
   refine Co Z ?_
   refine Ad<|r_W (vT #[vA #[vI 0,vI 0],vB false]) Z (AE (congrArg Aa0.v a) Z) ?_
   refine rz Z<|Co Z ?_
   refine Ad<|r_W (vT #[vA #[],vB false]) Z (AE (congrArg Aa0.v a) Z) ?_
   refine rz Z<|Co Z ?_
   refine Ab<|fg _ (Sub.pick [(Gr p ((c[d.toNat]!).1) ((c[d.toNat]!).2)),(Bn m g b f),e] [1,2] Z) ?_
   exact⟨(d+1),c,h,e,i,Ag Z Z⟩
  replace h:=Aa0.on_t247 a h
  refine r_W (vT #[vA #[vI 0,vI 0],vB false]) Z (AE (congrArg Aa0.v a) Z) ?_
  refine rz Z<|j _ _ ?_
  refine Co Z ?_
  refine Ad<|r_W (vT #[vA #[vI 0,vI 0],vB false]) Z (AE (congrArg Aa0.v a) Z) ?_
  refine rz Z<|Co Z ?_
  refine Ad<|r_W (vT #[vA #[],vB false]) Z (AE (congrArg Aa0.v a) Z) ?_
  refine rz Z<|Co Z ?_
  refine Ab<|fg _ (Sub.pick [(Gr p ((c[d.toNat]!).1) ((c[d.toNat]!).2)),(Bn m g b f),e] [1,2] Z) ?_
  exact⟨(d+1),c,h,e,i,Ag Z Z⟩
 clear h;rintro t l ⟨q,z,h,n,I,⟨T,rfl⟩,rfl⟩
 unfold Av at h
 refine Ad<|rm 3 [0] Z<|kB h λan aa h=>kC h λaj h=>gM (Ls:=[(Bn m g b f),n]) (FL:=[n]) [1] (cF Va) (λo w hn_ z_=>HB N g z q u.1 _ aa _ b (Aa1.mono (LH (Ls:=[(Bn m g b f),n]) (is:=[1]) Z z_) A) f n I) ?_
 rintro _ _ ⟨E,_,ah,⟨rfl,rfl⟩,rfl⟩
 refine Dv (Ls:=[(Bn m g b f),E]) (Ls':=[(Bn m g b f),E]) [0,1] Z Z ?_
 refine Ak<|AZ Z ?_
 cases h
 refine Bh (λhn=>KV (v0:=vI 0) (O:=[E]) (FZ Z) (Sub.pick [(Bn m g b f),E] [1] Z) ⟨E,_,ah,⟨Z,Z⟩,Z⟩)
def GD(N:Nat)(m:Ao)(b:(List Aa0)×Int×Int):Nat->Int->List (Bool×W4)->Option ((W4)×Int×Int)
  |0,_,_=>none
  |e+1,a,c=>if a<b.2.1 then ck (0<=a/\a<(b.1.length:Int)) ((CM N m c a ((b.1)[a.toNat]!)).bind λd=>ck ((d.2).length=(c).length) (if(d.1:Int)≠0 then some (0#64,a,d.1)else ck (R64 (a+1)) ((GD N m b e) (a+1) d.2)))else ck (0<=b.2.1/\b.2.1<(c.length:Int)) (some ((c[(b.2.1).toNat]!).2,0,0))
def Lg(N:Nat)(m:Ao)(c:List (W1))(s:W4):Option ((W4)×Int×Int):=(Rs N c).bind λa=>ck (R64 (a.2.1+1)) (ck (0<=(a.2.1+1)/\(a.2.1+1)<=8796093022208) ((AV N m (List.replicate ((a.2.1+1)).toNat (false,0#64)) 0 s).bind λb=>ck ((b).length=((List.replicate ((a.2.1+1)).toNat (false,0#64))).length) (GD N m a N 0 b)))
def Hn(N:Nat)(m:Ao)(d:List (W1))(s:W4):Option ((W4)×Int×Int):=(Kv N m).bind λc=>Ac0.on c ((GX N).bind λb=>(HD N m b d).bind λa=>if(a:Int)≠0 then some (0#64,0,1)else Lg N m d s) (λ_ _ _=>some (0#64,0,1))
theorem NU(N m M s r)(b:Hn N m M s=some r)(ro)(a:AB)(i:Aa1 ro a m)(C)(ai:Rd Ac8 ro C M):DoesI prog 7 #[vA (Ac m a),C,U s] Ho ro [] (pV (vT #[U r.1,vI r.2.1,vI r.2.2])):=by
 unfold Hn at b
 refine Be follows func7 Z 61 Z _ fz3 Bi (λaj=> ?_)
 refine Ad<|rA Z λh=>rz Z<|Cb (λtt ll=>(Lg N m M s  =some r)/\Is [(1,C),(2,U s),(3,vP h 0)] [(h,35,(Ac m a))] tt ll) ?_ ?_
 ·refine Aa λay F=>BB [(some 16,true),(some 20,false),(some 22,false)] (conG prog [(16,λ_ _ v_ L_ U_=> ∀g,Kv N m=some g->(pO (List.flatten []) (Ac0.onP g (oE Value.nilIface []) (λy0_0 y0_1 y0_2=>(oB 109 #[vI y0_0,vI y0_1,vI y0_2] λbs_0=>(oE (Value.iface 107 (vP bs_0 0)) []))))) v_ L_ U_),(20,λ_ _ v_ L_ U_=> ∀g,GX N  =some g->(p1 (λs_=>s_) 3 BE g) v_ L_ U_),(22,λ_ _ v_ L_ U_=> ∀g,GX N  =some g-> ∀O,HD N m g M=some O->(pV (vI O)) v_ L_ U_)]) [] (by decide+kernel) (λhn=>AK) ?_
  refine rm 1 [0] Z<|kB b λak G b=>jc (Ls:=[[(h,35,(Ac m a))]]) (FL:=[]) [] _ (some 16) 18 _ Z Z Z Z Z (cF tl) (λo w hn_ z_=>ZT N m _ G _ a (Aa1.mono (LH (Ls:=[[(h,35,(Ac m a))]]) (is:=[]) Z z_) i)) (GQ G) (λ_=>(Ac6.sub (R:=[]) (Ac0.niceP (Uk Z) (λ_ _ _=>(gv λ_=>(Uk Z)))) (Sub.pick [] [] Z))) ?_
  rintro _ _ hp_
  rcases Ac0.cases ak with j|⟨x47_0,x48_1,x49_2,j⟩
  ·obtain⟨rfl,rfl⟩:=Ac0.onP_nil j hp_
   replace b:=Ac0.on_nil j b
   refine Dv (Ls:=[[(h,35,(Ac m a))]]) (Ls':=[[(h,35,(Ac m a))]]) [0] Z Z<|rn 2 Z<|r_y Z<|rm 1 [0] Z<|r_y Z<|kB b λP x b=>Vr (Ls:=[[(h,35,(Ac m a))]]) (λK=>K) 3 BE P 20 _ Z Z Z (cF tk) (λo w z_=>(Does.inv (TW N  _ x z_.view) _)) (GQ x) (λK Q al=> ?_)
   refine rn 1 Z<|r_y Z<|kB b λaz y b=>rg _ (cF aY) (λo w z_=>QN N m P M _ y z_.view a (Aa1.mono z_.ro_cell i) K ((Ax al (Aj (Ls:=[[(h,35,(Ac m a))],Q]) (k:=1) Z Z)) o w z_) C ((Aw ai) o w z_)) (λ_ _ v_ L_ U_=>⟨λh_=>h_ _ x _ y,λh_=>by intro _ e_;cases q1 (e_.symm.trans x);intro _ e_;cases q1 (e_.symm.trans y);exact h_⟩) ?_
   refine rz Z<|F _ _ ?_
   refine aN b Z (λS b=> ?_) (λS b=> ?_)
   ·refine AZ Z ?_
    cases b
    exact aR eV3
   refine Ab<|fg _ (Sub.pick [[(h,35,(Ac m a))],Q] [0] Z) ?_
   exact⟨b,Ag Z Z⟩
  obtain⟨V,_,⟨rfl,rfl⟩,rfl⟩:=Ac0.onP_t107 j hp_
  replace b:=Ac0.on_t107 j b
  refine Dv (Ls:=[[(h,35,(Ac m a))],(cc V x47_0 x48_1 x49_2)]) (Ls':=[[(h,35,(Ac m a))],(cc V x47_0 x48_1 x49_2)]) [0,1] Z Z<|rz Z<|F _ _ ?_
  refine Nt Z ?_
  refine AZ Z ?_
  cases b
  exact aR eV3
 clear b;rintro t l ⟨b,⟨T,rfl⟩,rfl⟩
 unfold Lg at b
 refine Ad<|rn 1 Z<|kB b λH am b=>gS (Ls:=[[(h,35,(Ac m a))]]) (cF ip) (λo w z_=>(Does.inv (gZ N M _ am z_.view C ((Aw ai) o w z_)) _)) (λs6 q H8=> ?_)
 refine rz Z<|Aa λK9 an=>BB [(some 34,false)] (conG prog [(34,λ_ _ v_ L_ U_=>(p1 (λv=>v) 86 Nb (List.replicate ((H.2.1+1)).toNat (false,0#64))) v_ L_ U_)]) [] (by decide+kernel) (λhn=>AK)<|rm 2 [0] Z<|kC b λW b=>rX W Z<|kC b λX b=>Tx (Ls:=[[(h,35,(Ac m a))],q]) 86 Nb (false,0#64) (H.2.1+1) Z Z Z Z Z Z Z Z Z Z 8796093022208 Z X (λ_ _ _ _ _=>Iff.rfl) (λd z L=> ?_)
 refine r_W (vA #[vS m.1,a.1,a.2.1,a.2.2.1,a.2.2.2.1,a.2.2.2.2.1,a.2.2.2.2.2.1,a.2.2.2.2.2.2.1,a.2.2.2.2.2.2.2.1,a.2.2.2.2.2.2.2.2.1,a.2.2.2.2.2.2.2.2.2.1,a.2.2.2.2.2.2.2.2.2.2.1,a.2.2.2.2.2.2.2.2.2.2.2.1,a.2.2.2.2.2.2.2.2.2.2.2.2.1,a.2.2.2.2.2.2.2.2.2.2.2.2.2,vI m.2.2.2.2.2.2.2.2.2.2.2.2.2.2.2.1,vI m.2.2.2.2.2.2.2.2.2.2.2.2.2.2.2.2.1,vI m.2.2.2.2.2.2.2.2.2.2.2.2.2.2.2.2.2,d]) Z (NW Z Z Z (Jo (c:=(Ac m a)) Z (Jo (Gs Z (Sl.shp L)) QI)) (by kernel_rfl))<|rA Z λf=>Zz (List.flatten [(Bn f m a d),[(h,35,(Ac m a))],q,z]) 0 _ _ _ (#[Value.string (⟨#[]⟩),nS,nS,nS,nS,nS,nS,nS,nS,nS,nS,nS,nS,nS,nS,vI 0,vI 0,vI 0,nS]) (#[vS m.1,a.1,a.2.1,a.2.2.1,a.2.2.2.1,a.2.2.2.2.1,a.2.2.2.2.2.1,a.2.2.2.2.2.2.1,a.2.2.2.2.2.2.2.1,a.2.2.2.2.2.2.2.2.1,a.2.2.2.2.2.2.2.2.2.1,a.2.2.2.2.2.2.2.2.2.2.1,a.2.2.2.2.2.2.2.2.2.2.2.1,a.2.2.2.2.2.2.2.2.2.2.2.2.1,a.2.2.2.2.2.2.2.2.2.2.2.2.2,vI m.2.2.2.2.2.2.2.2.2.2.2.2.2.2.2.1,vI m.2.2.2.2.2.2.2.2.2.2.2.2.2.2.2.2.1,vI m.2.2.2.2.2.2.2.2.2.2.2.2.2.2.2.2.2,d]) (#[vS m.1,a.1,a.2.1,a.2.2.1,a.2.2.2.1,a.2.2.2.2.1,a.2.2.2.2.2.1,a.2.2.2.2.2.2.1,a.2.2.2.2.2.2.2.1,a.2.2.2.2.2.2.2.2.1,a.2.2.2.2.2.2.2.2.2.1,a.2.2.2.2.2.2.2.2.2.2.1,a.2.2.2.2.2.2.2.2.2.2.2.1,a.2.2.2.2.2.2.2.2.2.2.2.2.1,a.2.2.2.2.2.2.2.2.2.2.2.2.2,vI m.2.2.2.2.2.2.2.2.2.2.2.2.2.2.2.1,vI m.2.2.2.2.2.2.2.2.2.2.2.2.2.2.2.2.1,vI m.2.2.2.2.2.2.2.2.2.2.2.2.2.2.2.2.2,d]) Z Z Z Z Z (.ofS Z Z (Ae Z (Ae (Shp.one (RdN.shp i.1)) (Ae (Shp.one (Rd.shp i.2.1)) (Ae (Shp.one (Rd.shp i.2.2.1)) (Ae (Shp.one (RdN.shp i.2.2.2.1)) (Ae (Shp.one (RdN.shp i.2.2.2.2.1)) (Ae (Shp.one (RdN.shp i.2.2.2.2.2.1)) (Ae (Shp.one (RdN.shp i.2.2.2.2.2.2.1)) (Ae (Shp.one (RdN.shp i.2.2.2.2.2.2.2.1)) (Ae (Shp.one (Rd.shp i.2.2.2.2.2.2.2.2.1)) (Ae (Shp.one (Rd.shp i.2.2.2.2.2.2.2.2.2.1)) (Ae (Shp.one (Rd.shp i.2.2.2.2.2.2.2.2.2.2.1)) (Ae (Shp.one (Rd.shp i.2.2.2.2.2.2.2.2.2.2.2.1)) (Ae (Shp.one (Rd.shp i.2.2.2.2.2.2.2.2.2.2.2.2.1)) (Ae (Shp.one (Rd.shp i.2.2.2.2.2.2.2.2.2.2.2.2.2)) (Ae Z (Ae Z (Ae Z (Ae (Shp.one (Sl.shp L)) BA)))))))))))))))))))) Z Z ?_
 refine Ak<|an _ _ ?_
 refine Ad<|rm 2 [0] Z<|kB b λao Y b=>kC b λax b=>gM (Ls:=[(Bn f m a d),[(h,35,(Ac m a))],q,z]) (FL:=[z]) [3] (cF Va) (λo w hn_ z_=>(Does.inv (HB N m (List.replicate ((H.2.1+1)).toNat (false,0#64)) 0 s _ Y _ a (Aa1.mono (LH (Ls:=[(Bn f m a d),[(h,35,(Ac m a))],q,z]) (is:=[3]) Z z_) i) d z L) _)) ?_
 rintro _ _ ⟨D,_,ap,⟨rfl,rfl⟩,rfl⟩
 refine Dv (Ls:=[(Bn f m a d),[(h,35,(Ac m a))],q,D]) (Ls':=[(Bn f m a d),[(h,35,(Ac m a))],q,D]) [0,1,2,3] Z Z ?_
 refine Ak<|Aa λbb aa=>AZ Z<|Ai<|Bs _ (Sub.pick [(Bn f m a d),[(h,35,(Ac m a))],q,D] [0,2,3] Z) ?_
 refine AH (λtt ll nn=> ∃(u:Nat) (n:Int) (A:List (Bool×W4)),(GD N m H u n A=some r)/\ ∃(e:List Bl),Sl 86 Nb d A e/\Is [(9,s6),(10,vI H.2.1),(12,vP f 0),(39,vI H.2.1),(40,vI n)] (List.flatten [(Bn f m a d),q,e]) tt ll/\nn=u+1) (N+1) ?_ ?_
 ·exact⟨N,0,ao,b,D,ap,Ag Z Z,Z⟩
 clear b;rintro t l _ ⟨u,n,A,b,e,p,⟨⟨T,rfl⟩,rfl⟩,rfl⟩
 rcases u with _|u
 ·exact absurd b (by simp [GD])
 rw [GD] at b
 refine AZ Z<|Aa λbc ab=>aD b Z (λac b=> ?_) (λac b=> ?_)
 ·refine Ab<|ab _ _ ?_
  refine Aa λbd ad=>Ai<|AZ Z<|Aa λbe ae=>BB [(some 49,true)] (conG prog [(49,λ_ _ v_ L_ U_=> ∀g,CM N m A n ((H.1)[n.toNat]!)=some g->(pO (List.flatten [e]) (oI 86 Nb d g.2 (oE (vI g.1) []))) v_ L_ U_)]) [] (by decide+kernel) (λhn=>AK) ?_
  refine rm 4 [0] Z<|kC b λI b=>rI (Sl.shp H8) I Z<|rE (Ax H8 (Aj (Ls:=[(Bn f m a d),q,e]) (k:=1) Z Z)) I 0 Z<|kB b λaq J b=>kC b λaf b=>jc (Ls:=[(Bn f m a d),q,e]) (FL:=[e]) [2] _ (some 49) 23 _ Z Z Z Z Z (cF tj) (λo w hn_ z_=>(Does.inv (Qm N m A n ((H.1)[n.toNat]!) _ J _ a (Aa1.mono (LH (Ls:=[(Bn f m a d),q,e]) (is:=[2]) Z z_) i) d e p) _)) (GQ J) (λ_=>(Ac6.sub (R:=(e++ [])) (tR p af (Uk Z)) (Sub.pick [e] [0] Z))) ?_
  rintro _ _ ⟨E,_,ar,⟨rfl,rfl⟩,rfl⟩
  refine Dv (Ls:=[(Bn f m a d),q,E]) (Ls':=[(Bn f m a d),q,E]) [0,1,2] Z Z ?_
  refine rz Z<|ae _ _ ?_
  refine AZ Z<|aN b Z (λag b=> ?_) (λag b=> ?_)
  ·refine AZ Z ?_
   cases b
   exact aR eV3
  refine Ab<|ad _ _ ?_
  refine Ah<|kC b λah b=>rX ah Z<|rz Z<|fg _ (Sub.pick [(Bn f m a d),q,E] [0,1,2] Z) ?_
  exact⟨u+1,by omega,u,(n+1),aq.2,b,E,ar,Ag Z Z,Z⟩
 refine AG<|aa _ _ ?_
 refine Ad<|rm 3 [0] Z<|kC b λB b=>rI (Sl.shp p) B Z<|rF (Sl.shp p) (Bf B) Z ?_
 refine rE (Ax p (Aj (Ls:=[(Bn f m a d),q,e]) (k:=2) Z Z)) B 1 Z<|rz Z ?_
 cases b
 exact aR eV3
theorem YS {c:Addr->Option Value}{x}{a:List Value}(h:(OG).V c x a):(Ad5).R c x a:=by obtain⟨_,_,rfl,⟨_,_,⟨b,rfl,d⟩,⟨_,_,rfl,⟨_,_,rfl,⟨_,_,rfl,rfl,rfl⟩,rfl⟩,rfl⟩,rfl⟩,rfl⟩:=h;exact⟨b,d,Z⟩
theorem WH {c:Addr->Option Value}{x}{a:List Value}(h:(MP).V c x a):(Ae1).R c x a:=by obtain⟨_,_,rfl,⟨_,_,⟨b,rfl,d⟩,⟨_,_,⟨e,rfl,f⟩,⟨_,_,⟨g,rfl,i⟩,rfl,rfl⟩,rfl⟩,rfl⟩,rfl⟩:=h;exact⟨b,e,g,d,f,i,Z⟩
theorem WG {c:Addr->Option Value}{x}{a:List Value}(h:(WJ).V c x a):(Ad7).R c x a:=by obtain⟨_,_,rfl,⟨_,_,⟨b,rfl,d⟩,⟨e,rfl,f⟩,rfl⟩,rfl⟩:=h;exact⟨b,e,d,f,Z⟩
theorem WF {c:Addr->Option Value}{x}{a:List Value}(h:(WI).V c x a):(Ae2).R c x a:=by obtain⟨_,_,rfl,⟨_,_,rfl,⟨_,_,⟨b,rfl,d⟩,⟨_,_,⟨e,rfl,f⟩,⟨_,_,rfl,⟨_,_,⟨g,rfl,i⟩,rfl,rfl⟩,rfl⟩,rfl⟩,rfl⟩,rfl⟩,rfl⟩:=h;exact⟨b,e,g,d,f,i,Z⟩
theorem PY {c:Addr->Option Value}{x}{a:List Value}(h:(QX).V c x a):(Ad3).R c x a:=by obtain⟨_,_,rfl,⟨_,_,rfl,⟨_,_,⟨b,rfl,d⟩,⟨_,_,⟨e,rfl,f⟩,⟨_,_,rfl,rfl,rfl⟩,rfl⟩,rfl⟩,rfl⟩,rfl⟩:=h;exact⟨b,e,d,f,Z⟩
def HV(N:Nat)(b:Bool):Option Bool:=if b=true then(Ce N (5#64) 2).bind λa=>some a else some false
def HW(N:Nat)(b:(W4)×Int×Int)(a:Bool):Option Bool:=if a=true then HV N (b.2.2==11)else HV N false
def EC(N:Nat):Option Bool:=(Fo N).bind λd=>(Hn N d ([(33,0,3,0,(0#64)++(0#64)),(1,0,0,0,(0#64)++(0#64)),(23,1,0,0,(0#64)++(0#64))]) (0#64)).bind λb=>(Fo N).bind λc=>ck (0<=(1:Int)/\(1:Int)<=(([(33,0,3,0,(0#64)++(0#64)),(1,0,0,0,(0#64)++(0#64)),(23,1,0,0,(0#64)++(0#64))]).length:Int)) ((Hn N c ((([(33,0,3,0,(0#64)++(0#64)),(1,0,0,0,(0#64)++(0#64)),(23,1,0,0,(0#64)++(0#64))]).take (([(33,0,3,0,(0#64)++(0#64)),(1,0,0,0,(0#64)++(0#64)),(23,1,0,0,(0#64)++(0#64))]).length)).drop (((1:Int)).toNat)) (0#64)).bind λa=>if b.2.2=0 then HW N a (a.2.1==0)else HW N a false)
theorem JX(N r)(t:EC N=some r)(ro:Ro):DoesI prog 5 #[] Ho ro [] (pV (vB r)):=by
 unfold EC at t
 refine Be follows func5 Z 40 Z _ fz0 Bi (λad=> ?_)
 refine AZ Z<|Ad<|r_W (vA #[vI 33,vI 0,vI 3,vI 0,U (0#64),U (0#64)]) Z (Ar Z Z Z Z)<|r_W (vA #[vI 1,vI 0,vI 0,vI 0,U (0#64),U (0#64)]) Z (Ar Z Z Z Z)<|r_W (vA #[vI 23,vI 1,vI 0,vI 0,U (0#64),U (0#64)]) Z (Ar Z Z Z Z)<|cD 11 ?_
 refine Ke (cs0:=[]) (Ls:=[]) 53 Ac8 [(33,0,3,0,(0#64)++(0#64)),(1,0,0,0,(0#64)++(0#64)),(23,1,0,0,(0#64)++(0#64))] [vI 33,vI 0,vI 3,vI 0,U (0#64),U (0#64),vI 1,vI 0,vI 0,vI 0,U (0#64),U (0#64),vI 23,vI 1,vI 0,vI 0,U (0#64),U (0#64)] [vI 0,vI 0,vI 0,vI 0,U (0#64),U (0#64),vI 0,vI 0,vI 0,vI 0,U (0#64),U (0#64),vI 0,vI 0,vI 0,vI 0,U (0#64),U (0#64)] Z Z Z Z Z Z Z (by kernel_rfl) (by kernel_rfl) (show [vI 33,vI 0,vI 3,vI 0,U (0#64),U (0#64),vI 1,vI 0,vI 0,vI 0,U (0#64),U (0#64),vI 23,vI 1,vI 0,vI 0,U (0#64),U (0#64)]=[vI 33,vI 0,vI 3,vI 0,U (hi ((0#64)++(0#64))),U (lo ((0#64)++(0#64))),vI 1,vI 0,vI 0,vI 0,U (hi ((0#64)++(0#64))),U (lo ((0#64)++(0#64))),vI 23,vI 1,vI 0,vI 0,U (hi ((0#64)++(0#64))),U (lo ((0#64)++(0#64)))] by simp only [Br]) Z Z (λs3 s H5=> ?_)
 refine rz Z<|Ad<|kB t λr7 ag t=>gM (Ls:=[s]) (FL:=[]) [] (cF iq) (λo w hn_ z_=>(Does.inv (Mj N  _ ag _) _)) ?_
 rintro _ _ ⟨ah,a,_,ai,⟨aj,b,_,ak,⟨al,c,_,am,⟨an,d,_,ao,⟨ap,e,_,aq,⟨ar,f,_,au,⟨av,g,_,aw,⟨ax,h,_,ay,⟨az,i,_,ba,⟨bb,j,_,bc,⟨bd,l,_,be,⟨bf,m,_,bg,⟨bh,n,_,bi,⟨s9,p,_,bj,⟨rfl,rfl⟩,rfl⟩,rfl⟩,rfl⟩,rfl⟩,rfl⟩,rfl⟩,rfl⟩,rfl⟩,rfl⟩,rfl⟩,rfl⟩,rfl⟩,rfl⟩,rfl⟩
 refine Dv (Ls:=[s,a,b,c,d,e,f,g,h,i,j,l,m,n,p]) (Ls':=[s,a,b,c,d,e,f,g,h,i,j,l,m,n,p]) [0,1,2,3,4,5,6,7,8,9,10,11,12,13,14] Z Z<|rn 1 Z<|kB t λbk W t=>gV _ (cF fK) (λo w z_=>NU N r7 ([(33,0,3,0,(0#64)++(0#64)),(1,0,0,0,(0#64)++(0#64)),(23,1,0,0,(0#64)++(0#64))]) (0#64) _ W z_.view (ah,aj,al,an,ap,ar,av,ax,az,bb,bd,bf,bh,s9) ⟨(RdN.map (E':=Ad5) (SlO.view ai (Jy (Aj (Ls:=[s,a,b,c,d,e,f,g,h,i,j,l,m,n,p]) (k:=1) Z Z) o w z_)) Z (λ_ _ h_=>YS h_)),((Ax ak (Aj (Ls:=[s,a,b,c,d,e,f,g,h,i,j,l,m,n,p]) (k:=2) Z Z)) o w z_),((Ax am (Aj (Ls:=[s,a,b,c,d,e,f,g,h,i,j,l,m,n,p]) (k:=3) Z Z)) o w z_),(RdN.map (E':=Ae1) (SlO.view ao (Jy (Aj (Ls:=[s,a,b,c,d,e,f,g,h,i,j,l,m,n,p]) (k:=4) Z Z) o w z_)) Z (λ_ _ h_=>WH h_)),(RdN.map (E':=Ad7) (SlO.view aq (Jy (Aj (Ls:=[s,a,b,c,d,e,f,g,h,i,j,l,m,n,p]) (k:=5) Z Z) o w z_)) Z (λ_ _ h_=>WG h_)),(RdN.map (E':=Ae2) (SlO.view au (Jy (Aj (Ls:=[s,a,b,c,d,e,f,g,h,i,j,l,m,n,p]) (k:=6) Z Z) o w z_)) Z (λ_ _ h_=>WF h_)),(RdN.map (E':=Ad3) (SlO.view aw (Jy (Aj (Ls:=[s,a,b,c,d,e,f,g,h,i,j,l,m,n,p]) (k:=7) Z Z) o w z_)) Z (λ_ _ h_=>PY h_)),(RdN.map (E':=Ad3) (SlO.view ay (Jy (Aj (Ls:=[s,a,b,c,d,e,f,g,h,i,j,l,m,n,p]) (k:=8) Z Z) o w z_)) Z (λ_ _ h_=>PY h_)),((Ax ba (Aj (Ls:=[s,a,b,c,d,e,f,g,h,i,j,l,m,n,p]) (k:=9) Z Z)) o w z_),((Ax bc (Aj (Ls:=[s,a,b,c,d,e,f,g,h,i,j,l,m,n,p]) (k:=10) Z Z)) o w z_),((Ax be (Aj (Ls:=[s,a,b,c,d,e,f,g,h,i,j,l,m,n,p]) (k:=11) Z Z)) o w z_),((Ax bg (Aj (Ls:=[s,a,b,c,d,e,f,g,h,i,j,l,m,n,p]) (k:=12) Z Z)) o w z_),((Ax bi (Aj (Ls:=[s,a,b,c,d,e,f,g,h,i,j,l,m,n,p]) (k:=13) Z Z)) o w z_),((Ax bj (Aj (Ls:=[s,a,b,c,d,e,f,g,h,i,j,l,m,n,p]) (k:=14) Z Z)) o w z_)⟩ s3 ((Ax H5 (Aj (Ls:=[s,a,b,c,d,e,f,g,h,i,j,l,m,n,p]) (k:=0) Z Z)) o w z_)) ?_
 refine rz Z<|Aa λct X=> ?_
 refine BB [(some 20,true),(some 23,false)] (conG prog [(20,λ_ _ v_ L_ U_=> ∀q,Fo N  =some q->(pO (List.flatten []) (oSO 94 OG q.2.1 λs_0=>(oS 96 Ad8 q.2.2.1 λs_1=>(oS 92 Ab3 q.2.2.2.1 λs_2=>(oSO 101 MP q.2.2.2.2.1 λs_3=>(oSO 185 WJ q.2.2.2.2.2.1 λs_4=>(oSO 190 WI q.2.2.2.2.2.2.1 λs_5=>(oSO 180 QX q.2.2.2.2.2.2.2.1 λs_6=>(oSO 180 QX q.2.2.2.2.2.2.2.2.1 λs_7=>(oS 3 BE q.2.2.2.2.2.2.2.2.2.1 λs_8=>(oS 182 Ae6 q.2.2.2.2.2.2.2.2.2.2.1 λs_9=>(oS 182 Ae6 q.2.2.2.2.2.2.2.2.2.2.2.1 λs_10=>(oS 148 Af0 q.2.2.2.2.2.2.2.2.2.2.2.2.1 λs_11=>(oS 151 Af1 q.2.2.2.2.2.2.2.2.2.2.2.2.2.1 λs_12=>(oS 154 Af2 q.2.2.2.2.2.2.2.2.2.2.2.2.2.2.1 λs_13=>(oE (vA #[vS q.1,s_0,s_1,s_2,s_3,s_4,s_5,s_6,s_7,s_8,s_9,s_10,s_11,s_12,s_13,vI q.2.2.2.2.2.2.2.2.2.2.2.2.2.2.2.1,vI q.2.2.2.2.2.2.2.2.2.2.2.2.2.2.2.2.1,vI q.2.2.2.2.2.2.2.2.2.2.2.2.2.2.2.2.2]) [])))))))))))))))) v_ L_ U_),(23,λ_ _ v_ L_ U_=> ∀q,Fo N  =some q-> ∀Q,Hn N q ((([(33,0,3,0,(0#64)++(0#64)),(1,0,0,0,(0#64)++(0#64)),(23,1,0,0,(0#64)++(0#64))]).take (([(33,0,3,0,(0#64)++(0#64)),(1,0,0,0,(0#64)++(0#64)),(23,1,0,0,(0#64)++(0#64))]).length)).drop (((1:Int)).toNat)) (0#64)=some Q->(pV (vT #[U Q.1,vI Q.2.1,vI Q.2.2])) v_ L_ U_)]) [] (by decide+kernel) (λhn=>AK)<|kB t λbl K t=>jc (Ls:=[s,a,b,c,d,e,f,g,h,i,j,l,m,n,p]) (FL:=[]) [] _ (some 20) 15 _ Z Z Z Z Z (cF iq) (λo w hn_ z_=>(Does.inv (Mj N  _ K _) _)) (GQ K) (λ_=>(Ac6.sub (R:=[]) (TE λs_0=>(Uj λs_1=>(Uj λs_2=>(TE λs_3=>(TE λs_4=>(TE λs_5=>(TE λs_6=>(TE λs_7=>(Uj λs_8=>(Uj λs_9=>(Uj λs_10=>(Uj λs_11=>(Uj λs_12=>(Uj λs_13=>(Uk Z))))))))))))))) (Sub.pick [] [] Z))) ?_
 rintro _ _ ⟨bm,u,_,bn,⟨bo,v,_,bp,⟨bq,x,_,br,⟨bs,y,_,bt,⟨bu,z,_,bv,⟨bw,A,_,bx,⟨bz,B,_,ca,⟨cb,C,_,cc,⟨cd,D,_,ce,⟨cf,E,_,cg,⟨ch,F,_,ci,⟨cj,G,_,ck,⟨cl,H,_,cm,⟨cn,I,_,co,⟨rfl,rfl⟩,rfl⟩,rfl⟩,rfl⟩,rfl⟩,rfl⟩,rfl⟩,rfl⟩,rfl⟩,rfl⟩,rfl⟩,rfl⟩,rfl⟩,rfl⟩,rfl⟩
 refine Dv (Ls:=[s,a,b,c,d,e,f,g,h,i,j,l,m,n,p,u,v,x,y,z,A,B,C,D,E,F,G,H,I]) (Ls':=[s,a,b,c,d,e,f,g,h,i,j,l,m,n,p,u,v,x,y,z,A,B,C,D,E,F,G,H,I]) [0,1,2,3,4,5,6,7,8,9,10,11,12,13,14,15,16,17,18,19,20,21,22,23,24,25,26,27,28] Z Z<|rn 1 Z<|kC t λS t=>r_W (GE s3 (((1:Int)).toNat) (([(33,0,3,0,(0#64)++(0#64)),(1,0,0,0,(0#64)++(0#64)),(23,1,0,0,(0#64)++(0#64))]).length) 6) Z (Fc (YQ Z Z Z Z (Sl.shp H5) S))<|kB t λY J t=>rg _ (cF fK) (λo w z_=>NU N bl ((([(33,0,3,0,(0#64)++(0#64)),(1,0,0,0,(0#64)++(0#64)),(23,1,0,0,(0#64)++(0#64))]).take (([(33,0,3,0,(0#64)++(0#64)),(1,0,0,0,(0#64)++(0#64)),(23,1,0,0,(0#64)++(0#64))]).length)).drop (((1:Int)).toNat)) (0#64) _ J z_.view (bm,bo,bq,bs,bu,bw,bz,cb,cd,cf,ch,cj,cl,cn) ⟨(RdN.map (E':=Ad5) (SlO.view bn (Jy (Aj (Ls:=[s,a,b,c,d,e,f,g,h,i,j,l,m,n,p,u,v,x,y,z,A,B,C,D,E,F,G,H,I]) (k:=15) Z Z) o w z_)) Z (λ_ _ h_=>YS h_)),((Ax bp (Aj (Ls:=[s,a,b,c,d,e,f,g,h,i,j,l,m,n,p,u,v,x,y,z,A,B,C,D,E,F,G,H,I]) (k:=16) Z Z)) o w z_),((Ax br (Aj (Ls:=[s,a,b,c,d,e,f,g,h,i,j,l,m,n,p,u,v,x,y,z,A,B,C,D,E,F,G,H,I]) (k:=17) Z Z)) o w z_),(RdN.map (E':=Ae1) (SlO.view bt (Jy (Aj (Ls:=[s,a,b,c,d,e,f,g,h,i,j,l,m,n,p,u,v,x,y,z,A,B,C,D,E,F,G,H,I]) (k:=18) Z Z) o w z_)) Z (λ_ _ h_=>WH h_)),(RdN.map (E':=Ad7) (SlO.view bv (Jy (Aj (Ls:=[s,a,b,c,d,e,f,g,h,i,j,l,m,n,p,u,v,x,y,z,A,B,C,D,E,F,G,H,I]) (k:=19) Z Z) o w z_)) Z (λ_ _ h_=>WG h_)),(RdN.map (E':=Ae2) (SlO.view bx (Jy (Aj (Ls:=[s,a,b,c,d,e,f,g,h,i,j,l,m,n,p,u,v,x,y,z,A,B,C,D,E,F,G,H,I]) (k:=20) Z Z) o w z_)) Z (λ_ _ h_=>WF h_)),(RdN.map (E':=Ad3) (SlO.view ca (Jy (Aj (Ls:=[s,a,b,c,d,e,f,g,h,i,j,l,m,n,p,u,v,x,y,z,A,B,C,D,E,F,G,H,I]) (k:=21) Z Z) o w z_)) Z (λ_ _ h_=>PY h_)),(RdN.map (E':=Ad3) (SlO.view cc (Jy (Aj (Ls:=[s,a,b,c,d,e,f,g,h,i,j,l,m,n,p,u,v,x,y,z,A,B,C,D,E,F,G,H,I]) (k:=22) Z Z) o w z_)) Z (λ_ _ h_=>PY h_)),((Ax ce (Aj (Ls:=[s,a,b,c,d,e,f,g,h,i,j,l,m,n,p,u,v,x,y,z,A,B,C,D,E,F,G,H,I]) (k:=23) Z Z)) o w z_),((Ax cg (Aj (Ls:=[s,a,b,c,d,e,f,g,h,i,j,l,m,n,p,u,v,x,y,z,A,B,C,D,E,F,G,H,I]) (k:=24) Z Z)) o w z_),((Ax ci (Aj (Ls:=[s,a,b,c,d,e,f,g,h,i,j,l,m,n,p,u,v,x,y,z,A,B,C,D,E,F,G,H,I]) (k:=25) Z Z)) o w z_),((Ax ck (Aj (Ls:=[s,a,b,c,d,e,f,g,h,i,j,l,m,n,p,u,v,x,y,z,A,B,C,D,E,F,G,H,I]) (k:=26) Z Z)) o w z_),((Ax cm (Aj (Ls:=[s,a,b,c,d,e,f,g,h,i,j,l,m,n,p,u,v,x,y,z,A,B,C,D,E,F,G,H,I]) (k:=27) Z Z)) o w z_),((Ax co (Aj (Ls:=[s,a,b,c,d,e,f,g,h,i,j,l,m,n,p,u,v,x,y,z,A,B,C,D,E,F,G,H,I]) (k:=28) Z Z)) o w z_)⟩ (GE s3 (((1:Int)).toNat) (([(33,0,3,0,(0#64)++(0#64)),(1,0,0,0,(0#64)++(0#64)),(23,1,0,0,(0#64)++(0#64))]).length) 6) ((PL (Ax H5 (Aj (Ls:=[s,a,b,c,d,e,f,g,h,i,j,l,m,n,p,u,v,x,y,z,A,B,C,D,E,F,G,H,I]) (k:=0) Z Z)) (Hp S.2) (Nat.le_refl _)) o w z_)) (λ_ _ v_ L_ U_=>⟨λh_=>h_ _ K _ J,λh_=>by intro _ e_;cases q1 (e_.symm.trans K);intro _ e_;cases q1 (e_.symm.trans J);exact h_⟩) ?_
 refine rz Z<|X _ _ ?_
 refine Aa λcp L=>Ah<|rn 3 Z<|AF 3 32 [(0,vB false),(7,vI Y.2.2)] vB (λb_=>HW N Y b_=some r) (λaa t T=> ?_) (λHJ=> ?_)
 ·unfold HW at t
  refine rn 1 Z<|AF 3 36 [(0,vB false)] vB (λb_=>HV N b_=some r) (λac t T=> ?_) (λHJ=> ?_)
  ·unfold HV at t
   refine rn 1 Z ?_
   rcases M:ac with _|_
   ·replace t:=iB M t
    refine rz Z<|L _ _ ?_
    cases t
    exact aR eV1
   replace t:=ifp M t
   refine r_y Z<|kB t λcq V t=>rc _ (cF aZ) (NT N (5#64) 2 _ V)<|rz Z<|L _ _ ?_
   cases t
   exact aR eV1
  rcases O:aa with _|_
  ·replace t:=iB O t
   refine rn 3 Z ?_
   exact HJ _ _ t Z Z
  replace t:=ifp O t
  refine rn 3 Z ?_
  exact HJ _ _ t Z Z
 rcases P:(bk.2.2==0)with _|_
 ·replace t:=iG P t
  refine rn 3 Z ?_
  exact HJ _ _ t Z Z
 replace t:=iE P t
 refine rn 3 Z ?_
 exact HJ _ _ t Z Z
def Km(N:Nat)(b:List Int):Nat->W4->Int->Option (W4)
  |0,_,_=>none
  |e+1,c,a=>if a<(b.length:Int)then ck (0<=a/\a<(b.length:Int)) ((BF N c (b[a.toNat]!)).bind λd=>ck (R64 (a+1)) ((Km N b e) d (a+1)))else some c
def Mt(N:Nat)(a:List Int):Option (W4):=Km N a N (0#64) 0
theorem YP(N j r)(a:Mt N j=some r)(s f)(g:Rd BE s f j):Does prog 6 #[f] s [] (pV (U r)):=by
 unfold Mt at a
 refine Al follows func6 Z 17 Z _ fz1 (λk=> ?_)
 refine AZ Z<|AZ Z<|Aa λu m=>Ad<|rn 1 Z<|rL (Rd.shp g) Z<|rz Z<|Ai<|AH (λtt ll nn=> ∃(e:Nat) (c:W4) (b:Int),(Km N j e c b=some r)/\Is [(3,U c),(6,f),(7,vI (j.length:Int)),(8,vI b)] [] tt ll/\nn=e+1) (N+1) ?_ ?_
 ·exact⟨N,0#64,0,a,Ag Z Z,Z⟩
 clear a;rintro t l _ ⟨e,c,b,a,⟨⟨T,rfl⟩,rfl⟩,rfl⟩
 rcases e with _|e
 ·exact absurd a (by simp [Km])
 rw [Km] at a
 refine AZ Z<|Aa λv n=>aD a Z (λo a=> ?_) (λo a=> ?_)
 ·refine Ab<|n _ _ ?_
  refine Aa λw p=>Ai<|Ad<|kC a λd a=>rI (Rd.shp g) d Z<|rE (Aw g) d 0 Z<|rz Z<|Ah<|rn 2 Z<|kB a λq h a=>rc _ (cF Vb) (Lf N c (j[b.toNat]!) _ h)<|rz Z<|p _ _ ?_
  refine Ah<|kC a λi a=>rX i Z<|rz Z<|fg _ (Sub.of suN) ?_
  exact⟨e+1,by omega,e,q,(b+1),a,Ag Z Z,Z⟩
 refine AG<|m _ _ ?_
 refine AZ Z ?_
 cases a
 exact aR eV1
theorem Lv  :(((prog.info? 47).bind (·.zero)).map λz=>(47,z.cells))=some (47,(⟨Ay (0#64)⟩:Array Value)):=by kernel_rfl
def Ex  :Nat->W4->Int->W4->Option (W4)
  |0,_,_,_=>none
  |d+1,c,a,b=>if a<64 then ck (0<=a/\a<64) (ck (R64 (a+1)) ((Ex d) (c / 2#64) (a+1) (put64 b (a.toNat) ((c%2#64)==(1#64)))))else some b
def JN(N:Nat)(n:W4):Option (W4):=Ex N n 0 (0#64)
theorem Sr(N n r)(e:JN N n=some r):Gives prog 8 #[U n] (vA (⟨Ay r⟩:Array Value)):=by
 unfold JN at e
 refine Aq follows func8 Z 17 Z _ fz1 (λs=> ?_)
 refine Ad<|r_a (47,(⟨Ay (0#64)⟩:Array Value)) Z Z Lv (λu=> ?_) (.inr Z)
 refine Ak<|Ad<|r_a (47,(⟨Ay (0#64)⟩:Array Value)) Z Z Lv (λj=> ?_) (.inr Z)
 refine Ak<|Aa λz v=>AZ Z<|Ai<|AH (λtt ll nn=> ∃(i:Nat) (a:W4) (d:Int) (f:W4),(Ex i a d f=some r)/\Is [(0,U a),(2,vP u 0),(3,vP j 0),(4,vI d)] [(j,47,(⟨Ay f⟩:Array Value)),(u,47,(⟨Ay (0#64)⟩:Array Value))] tt ll/\nn=i+1) (N+1) ?_ ?_
 ·exact⟨N,n,0,0#64,e,Ag Z Z,Z⟩
 clear e;rintro t l _ ⟨i,a,d,f,e,⟨⟨T,rfl⟩,rfl⟩,rfl⟩
 rcases i with _|i
 ·exact absurd e (by simp [Ex])
 rw [Ex] at e
 refine Aa λA w=>AZ Z<|aD e Z (λm e=> ?_) (λm e=> ?_)
 ·refine Ab<|w _ _ ?_
  refine Aa λx o=>Ai<|Ad<|rn 2 Z<|r_X (U (a%2#64)) Z (pY a (2#64)) Z<|r_X (vB ((a%2#64)==(1#64))) Z (jI (a%2#64) (1#64)) Z<|kC e λp e=> ?_
  have h:=λc=>Fc (IJ (P:=prog) (c:=c) (t:=47) (b:=j) (off:=0) (k:= .i64) Z Z Z p)
  simp only [q6] at h
  have g:d.toNat<64:=by omega
  refine r_W (Value.pointer (some ⟨j,d.toNat,none⟩)) Z (h _)<|r_s [(j,47,(⟨Ay (put64 f (d.toNat) ((a%2#64)==(1#64)))⟩:Array Value)),(u,47,(⟨Ay (0#64)⟩:Array Value))] 0 _ _ _ _ _ ((⟨Ay (put64 f (d.toNat) ((a%2#64)==(1#64)))⟩:Array Value)) Z Z Z Z (OZ Z Z _ _ g) (Ml _ _ _ g) Z<|Ak<|Ah<|rn 1 Z<|r_X (U (a / 2#64)) Z (pZ a (2#64)) Z<|rz Z<|o _ _ ?_
  refine Ah<|rn 1 Z<|kC e λq e=>rX q Z<|rz Z<|fg _ (Sub.of (suK _ (suK _ suN))) ?_
  exact⟨i+1,by omega,i,(a / 2#64),(d+1),put64 f (d.toNat) ((a%2#64)==(1#64)),e,Ag Z Z,Z⟩
 refine AG<|v _ _ ?_
 refine AY [0,1] Z ?_
 obtain rfl:=q1 e
 refine Bh (λy=>Eu (v0:=vA (⟨Ay f⟩:Array Value)) Z (FZ (AW y 1 Z Z Z)))
def Im(N:Nat)(a:Int)(c:Int)(d:Int)(_:Int)(_:W3)(i:Int):Option (List Int):=(Gy N).bind λb=>ck (0<=a/\a<(b.length:Int)) (if((b[a.toNat]!).1)=([115,116,111,112]:W2)then some ([])else if((b[a.toNat]!).1)=([106,117,109,112]:W2)then some ([c])else if((b[a.toNat]!).1)=([106,117,109,112,45,122,101,114,111]:W2)then ck (R64 (i+1)) (some ([(i+1),c]))else if((b[a.toNat]!).1)=([106,117,109,112,45,103,111,110,101]:W2)then ck (R64 (i+1)) (some ([(i+1),d]))else ck (R64 (i+1)) (some ([(i+1)])))
theorem Qt(N a d e g c i r)(f:Im N a d e g c i=some r)(ro:Ro):Does prog 10 #[vA #[vI a,vI d,vI e,vI g,U (hi c),U (lo c)],vI i] ro [] (p1 (λs_=>s_) 3 BE r):=by
 unfold Im at f
 refine Al follows func10 Z 39 Z _ fz2 (λF=> ?_)
 refine Ad<|rA Z λj=>rz Z<|Aa λK3 G=>BB [(some 6,false)] (conG prog [(6,λ_ _ v_ L_ U_=> ∀m,Gy N  =some m->(p1 (λs_=>s_) 56 Ae9 m) v_ L_ U_)]) [] (by decide+kernel) (λn=>AK)<|kB f λb p f=>Vr (Ls:=[(LP j a d e g (hi c) (lo c))]) (λV=>V) 56 Ae9 b 9 _ Z Z Z (cF TY) (λo w z_=>Ny N  _ p z_.view) (GQ p) (λV l W=> ?_)
 refine rm 2 [0] Z<|kC f λq f=>rI (Sl.shp W) q Z<|rE (Ax W (Aj (Ls:=[(LP j a d e g (hi c) (lo c)),l]) (k:=1) Z Z)) q 0 Z ?_
 refine rA Z λh=>Zz (List.flatten [(Nn h ((b[a.toNat]!).1) ((b[a.toNat]!).2.1) ((b[a.toNat]!).2.2.1) ((b[a.toNat]!).2.2.2.1) ((b[a.toNat]!).2.2.2.2.1) ((b[a.toNat]!).2.2.2.2.2.1) ((b[a.toNat]!).2.2.2.2.2.2.1) ((b[a.toNat]!).2.2.2.2.2.2.2.1) ((b[a.toNat]!).2.2.2.2.2.2.2.2)),(LP j a d e g (hi c) (lo c)),l]) 0 _ _ _ (#[Value.string (⟨#[]⟩),vI 0,vI 0,vI 0,vI 0,vI 0,vI 0,vI 0,Value.string (⟨#[]⟩)]) (#[vS ((b[a.toNat]!).1),vI ((b[a.toNat]!).2.1),vI ((b[a.toNat]!).2.2.1),vI ((b[a.toNat]!).2.2.2.1),vI ((b[a.toNat]!).2.2.2.2.1),vI ((b[a.toNat]!).2.2.2.2.2.1),vI ((b[a.toNat]!).2.2.2.2.2.2.1),vI ((b[a.toNat]!).2.2.2.2.2.2.2.1),vS ((b[a.toNat]!).2.2.2.2.2.2.2.2)]) (#[vS ((b[a.toNat]!).1),vI ((b[a.toNat]!).2.1),vI ((b[a.toNat]!).2.2.1),vI ((b[a.toNat]!).2.2.2.1),vI ((b[a.toNat]!).2.2.2.2.1),vI ((b[a.toNat]!).2.2.2.2.2.1),vI ((b[a.toNat]!).2.2.2.2.2.2.1),vI ((b[a.toNat]!).2.2.2.2.2.2.2.1),vS ((b[a.toNat]!).2.2.2.2.2.2.2.2)]) Z Z Z Z Z (.of Z Z) Z Z ?_
 refine Ak<|G _ _ ?_
 refine Aa λX s=>Ad<|rm 2 [0] Z<|r_W (vB (((b[a.toNat]!).1)==([115,116,111,112]:W2))) Z (Cr Z Z)<|Ak<|aE f Z (λt f=> ?_) (λt f=> ?_)
 ·refine AZ Z ?_
  cases f
  refine Bh (λn=>GZ (v0:=nS) Sl.nil (Sub.nil _) Z (FZ Z))
 refine Ab<|s _ _ ?_
 refine Aa λY u=>Ad<|rm 2 [0] Z<|r_W (vB (((b[a.toNat]!).1)==([106,117,109,112]:W2))) Z (Cr Z Z)<|Ak<|aE f Z (λv f=> ?_) (λv f=> ?_)
 ·refine Ad<|rm 2 [1] Z<|gB (Ls:=[(Nn h ((b[a.toNat]!).1) ((b[a.toNat]!).2.1) ((b[a.toNat]!).2.2.1) ((b[a.toNat]!).2.2.2.1) ((b[a.toNat]!).2.2.2.2.1) ((b[a.toNat]!).2.2.2.2.2.1) ((b[a.toNat]!).2.2.2.2.2.2.1) ((b[a.toNat]!).2.2.2.2.2.2.2.1) ((b[a.toNat]!).2.2.2.2.2.2.2.2)),(LP j a d e g (hi c) (lo c)),l]) 3 BE [d] (λH I J=> ?_)
  refine rz Z ?_
  cases f
  refine Bh (λn=>GZ (v0:=H) J (Dy (Sub.pick [(Nn h ((b[a.toNat]!).1) ((b[a.toNat]!).2.1) ((b[a.toNat]!).2.2.1) ((b[a.toNat]!).2.2.2.1) ((b[a.toNat]!).2.2.2.2.1) ((b[a.toNat]!).2.2.2.2.2.1) ((b[a.toNat]!).2.2.2.2.2.2.1) ((b[a.toNat]!).2.2.2.2.2.2.2.1) ((b[a.toNat]!).2.2.2.2.2.2.2.2)),(LP j a d e g (hi c) (lo c)),l,I] [3] Z)) Z (FZ Z))
 refine Ab<|u _ _ ?_
 refine Aa λaa x=>Ad<|rm 2 [0] Z<|r_W (vB (((b[a.toNat]!).1)==([106,117,109,112,45,122,101,114,111]:W2))) Z (Cr Z Z)<|Ak<|aE f Z (λy f=> ?_) (λy f=> ?_)
 ·refine Ad<|rn 1 Z<|kC f λz f=>rX z Z<|rm 2 [1] Z<|cD 27 ?_
  refine Ke (cs0:=[]) (Ls:=[(Nn h ((b[a.toNat]!).1) ((b[a.toNat]!).2.1) ((b[a.toNat]!).2.2.1) ((b[a.toNat]!).2.2.2.1) ((b[a.toNat]!).2.2.2.2.1) ((b[a.toNat]!).2.2.2.2.2.1) ((b[a.toNat]!).2.2.2.2.2.2.1) ((b[a.toNat]!).2.2.2.2.2.2.2.1) ((b[a.toNat]!).2.2.2.2.2.2.2.2)),(LP j a d e g (hi c) (lo c)),l]) 3 BE [(i+1),d] [vI (i+1),vI d] [vI 0,vI 0] Z Z Z Z Z Z Z (by kernel_rfl) (by kernel_rfl) Z Z Z (λK L M=> ?_)
  refine rz Z ?_
  cases f
  refine Bh (λn=>GZ (v0:=K) M (Dy (Sub.pick [(Nn h ((b[a.toNat]!).1) ((b[a.toNat]!).2.1) ((b[a.toNat]!).2.2.1) ((b[a.toNat]!).2.2.2.1) ((b[a.toNat]!).2.2.2.2.1) ((b[a.toNat]!).2.2.2.2.2.1) ((b[a.toNat]!).2.2.2.2.2.2.1) ((b[a.toNat]!).2.2.2.2.2.2.2.1) ((b[a.toNat]!).2.2.2.2.2.2.2.2)),(LP j a d e g (hi c) (lo c)),l,L] [3] Z)) Z (FZ Z))
 refine Ab<|x _ _ ?_
 refine Aa λab A=>Ad<|rm 2 [0] Z<|r_W (vB (((b[a.toNat]!).1)==([106,117,109,112,45,103,111,110,101]:W2))) Z (Cr Z Z)<|Ak<|aE f Z (λB f=> ?_) (λB f=> ?_)
 ·refine Ad<|rn 1 Z<|kC f λC f=>rX C Z<|rm 2 [1] Z<|cD 35 ?_
  refine Ke (cs0:=[]) (Ls:=[(Nn h ((b[a.toNat]!).1) ((b[a.toNat]!).2.1) ((b[a.toNat]!).2.2.1) ((b[a.toNat]!).2.2.2.1) ((b[a.toNat]!).2.2.2.2.1) ((b[a.toNat]!).2.2.2.2.2.1) ((b[a.toNat]!).2.2.2.2.2.2.1) ((b[a.toNat]!).2.2.2.2.2.2.2.1) ((b[a.toNat]!).2.2.2.2.2.2.2.2)),(LP j a d e g (hi c) (lo c)),l]) 3 BE [(i+1),e] [vI (i+1),vI e] [vI 0,vI 0] Z Z Z Z Z Z Z (by kernel_rfl) (by kernel_rfl) Z Z Z (λD O P=> ?_)
  refine rz Z<|GS [(4,D)] Z (λT=> ?_)
  cases f
  refine Bh (λn=>GZ (v0:=D) P (Dy (Sub.pick [(Nn h ((b[a.toNat]!).1) ((b[a.toNat]!).2.1) ((b[a.toNat]!).2.2.1) ((b[a.toNat]!).2.2.2.1) ((b[a.toNat]!).2.2.2.2.1) ((b[a.toNat]!).2.2.2.2.2.1) ((b[a.toNat]!).2.2.2.2.2.2.1) ((b[a.toNat]!).2.2.2.2.2.2.2.1) ((b[a.toNat]!).2.2.2.2.2.2.2.2)),(LP j a d e g (hi c) (lo c)),l,O] [3] Z)) Z (FZ Z))
 refine Ab<|A _ _ ?_
 refine Ad<|rn 1 Z<|kC f λE f=>rX E Z<|gB (Ls:=[(Nn h ((b[a.toNat]!).1) ((b[a.toNat]!).2.1) ((b[a.toNat]!).2.2.1) ((b[a.toNat]!).2.2.2.1) ((b[a.toNat]!).2.2.2.2.1) ((b[a.toNat]!).2.2.2.2.2.1) ((b[a.toNat]!).2.2.2.2.2.2.1) ((b[a.toNat]!).2.2.2.2.2.2.2.1) ((b[a.toNat]!).2.2.2.2.2.2.2.2)),(LP j a d e g (hi c) (lo c)),l]) 3 BE [(i+1)] (λQ R S=> ?_)
 refine rz Z ?_
 cases f
 refine Bh (λn=>GZ (v0:=Q) S (Dy (Sub.pick [(Nn h ((b[a.toNat]!).1) ((b[a.toNat]!).2.1) ((b[a.toNat]!).2.2.1) ((b[a.toNat]!).2.2.2.1) ((b[a.toNat]!).2.2.2.2.1) ((b[a.toNat]!).2.2.2.2.2.1) ((b[a.toNat]!).2.2.2.2.2.2.1) ((b[a.toNat]!).2.2.2.2.2.2.2.1) ((b[a.toNat]!).2.2.2.2.2.2.2.2)),(LP j a d e g (hi c) (lo c)),l,R] [3] Z)) Z (FZ Z))
end Go.Proofs.YtjlomkippigejaaGreatDoor
