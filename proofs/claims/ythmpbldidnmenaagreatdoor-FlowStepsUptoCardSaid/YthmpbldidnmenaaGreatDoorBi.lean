import Derived.Test.YthmpbldidnmenaaGreatDoorBh
namespace Go.Proofs.YthmpbldidnmenaaGreatDoor
open Go Go.RowKit Go.Eng _root_.Go.Proofs.Tryz
set_option linter.unusedSimpArgs false
set_option linter.unusedVariables false
set_option maxRecDepth 100000
set_option maxHeartbeats 80000000
abbrev KN(b:Nat)(x0:List UInt8)(x1:Int)(x2:Value)(x3:Value)(x4:Int)(x5:Value)(x6:Int):List Bl:=[(b,193, #[vS x0,vI x1,x2,x3,vI x4,x5,vI x6])]
abbrev dX(b:Nat)(x0:Value):List Bl:=[(b,29, #[x0])]
abbrev UC(b:Nat)(x0:Value):List Bl:=[(b,248, #[x0])]
abbrev ah(b:Nat)(x0:Value):List Bl:=[(b,136, #[x0])]
abbrev Mc(b:Nat)(x0:Int)(x1:Int)(x2:Value)(x3:Value)(x4:Int)(x5:Int):List Bl:=[(b,182, #[vI x0,vI x1,x2,x3,vI x4,vI x5])]
abbrev Mb(b:Nat)(x0:Int)(x1:Int):List Bl:=[(b,185, #[vI x0,vI x1])]
abbrev NQ(b:Nat)(x0:List UInt8)(x1:Value)(x2:Int)(x3:Int)(x4:Int)(x5:Int):List Bl:=[(b,106, #[vS x0,x1,vI x2,vI x3,vI x4,vI x5])]
def Mu(N:Nat)(c:An):Option (Int×Int):=(Mj N c.2.2.2.2.2.1 32 c).bind fun a=>some (a.1,a.2)
theorem Ve(N c r)(a:Mu N c=some r)(ro)(cv:Ay)(hc:Aa2 ro cv c):DoesI prog 82 #[vA (Ac c cv)] GC ro [] (pV (vT #[vI r.1,vI r.2])):=by
 unfold Mu at a
 refine AW follows func82 rfl 12 rfl _ fz1 Be (fun b=> ?_)
 refine Ad<|rA rfl fun e=>rz rfl<|Ad<|rm 4 [0,0] rfl<|r_W (vF 133 #[vA (Ac c cv)] #[]) rfl (HO rfl rfl)<|kB a fun f d a=>gV _ (cF lT) (fun o w z_=>UQ N c.2.2.2.2.2.1 32 c _ d z_.view cv.2.2.2.2.1 (RdN.mono z_.ro_cell hc.2.2.2.2.1) cv (Aa2.mono z_.ro_cell hc))<|rz rfl ?_
 cases a
 exact aR eV2
def Lg(_:Nat)(a:List UInt8)(_:Int)(_:List (Int×Int×Int))(_:List Int)(_:Int)(_:List (Int×BitVec 128))(_:Int):Option (List UInt8):=some a
theorem Tt(N x_0 x_1 x_2 x_3 x_4 x_5 x_6 r)(b:Lg N x_0 x_1 x_2 x_3 x_4 x_5 x_6=some r)(ro:Ro)(x_2v:Value)(_hx_2:Rd Ad0 ro x_2v x_2)(x_3v:Value)(_hx_3:Rd BJ ro x_3v x_3)(x_5v:Value)(_hx_5:Rd Ac8 ro x_5v x_5):Does prog 135 #[vA #[vS x_0,vI x_1,x_2v,x_3v,vI x_4,x_5v,vI x_6]] ro [] (pV (vS r)):=by
 unfold Lg at b
 refine Aj follows func135 rfl 5 rfl _ fz1 (fun a=> ?_)
 refine Ad<|rA rfl fun c=>rz rfl<|AY [0] rfl ?_
 cases b
 exact aR eV1
def Iv(N:Nat)(b:List ((List UInt8)×Int×(List (Int×Int×Int))×(List Int)×Int×(List (Int×BitVec 128))×Int)):Nat→List (List UInt8)→Int→Option (List (List UInt8))
  |0,_,_=>none
  |e+1,c,a=>if a<(b.length:Int)then ck (0≤a∧a<(b.length:Int)) ((Lg N (b[a.toNat]!.1) (b[a.toNat]!.2.1) (b[a.toNat]!.2.2.1) (b[a.toNat]!.2.2.2.1) (b[a.toNat]!.2.2.2.2.1) (b[a.toNat]!.2.2.2.2.2.1) (b[a.toNat]!.2.2.2.2.2.2)).bind fun d=>ck (0≤a∧a<(c.length:Int)) (ck (R64 (a+1)) ((Iv N b e) ((c).set (a.toNat) d) (a+1))))else some c
def Nj(N:Nat)(a:List ((List UInt8)×Int×(List (Int×Int×Int))×(List Int)×Int×(List (Int×BitVec 128))×Int)):Option (List (List UInt8)):=ck (0≤(a.length:Int)∧(a.length:Int)≤8796093022208) (Iv N a N ((List.replicate ((a.length:Int)).toNat ([]))) 0)
theorem Wn(N l' r)(b:Nj N l'=some r)(ro l'v)(hl':RdN Ae1 ro l'v l'):Does prog 192 #[l'v,vF 135 #[] #[]] ro [] (p1 (fun s_=>s_) 9 Aa4 r):=by
 unfold Nj at b
 refine Aj follows func192 rfl 26 rfl _ fz2 (fun B=> ?_)
 refine AZ rfl<|Ad<|rn 1 rfl<|rL (RdN.shp hl') rfl<|kC b fun C b=>cB 10<|Sq (Ls:=[]) 9 Aa4 ([]) (l'.length:Int) rfl rfl rfl rfl rfl rfl rfl rfl rfl rfl 8796093022208 rfl C (fun _ _ _ _ _=>Iff.rfl) (fun D H I=> ?_)
 refine rz rfl<|Aa fun L F=>Ad<|rn 1 rfl<|rL (RdN.shp hl') rfl<|rz rfl<|Ah<|Bo _ (Sub.pick [H] [0] rfl)<|AC (fun tt ll nn=> ∃(p:Nat) (g:List (List UInt8)) (a:Int),(Iv N l' p g a=some r)∧ ∃(c:List Bl),Sl 9 Aa4 D g c∧Is [(1,vF 135 #[] #[]),(5,D),(11,l'v),(12,vI (l'.length:Int)),(13,vI a)] (List.flatten [c]) tt ll∧nn=p+1) (N+1) ?_ ?_
 ·exact⟨N,(List.replicate ((l'.length:Int)).toNat ([])),0,b,H,I,Af rfl rfl,rfl⟩
 clear b;rintro t l _ ⟨p,g,a,b,c,h,⟨⟨T,rfl⟩,rfl⟩,rfl⟩
 rcases p with _|p
 ·exact absurd b (by simp [Iv])
 rw [Iv] at b
 refine AZ rfl<|Aa fun J s=>aD b rfl (fun u b=> ?_) (fun u b=> ?_)
 ·refine Ab<|s _ _ ?_
  refine Aa fun K v=>Ah<|Ad<|rn 1 rfl<|kC b fun i b=> ?_
  obtain⟨_,⟨d,e,f,j,k,m,rfl⟩,hat22⟩:=RdN.at (E:=Ae1) hl' (De i)
  refine rI (RdN.shp hl') i rfl<|MG (vA #[vS (l'[a.toNat]!.1),vI (l'[a.toNat]!.2.1),d,e,vI (l'[a.toNat]!.2.2.2.2.1),f,vI (l'[a.toNat]!.2.2.2.2.2.2)]) (vs:=[vS (l'[a.toNat]!.1),vI (l'[a.toNat]!.2.1),d,e,vI (l'[a.toNat]!.2.2.2.2.1),f,vI (l'[a.toNat]!.2.2.2.2.2.2)]) (a.toNat*7) 0 rfl rfl (fun o w z_=>At.mono z_.ro_cell hat22) rfl<|rA rfl fun q=>rn 1 rfl<|r_s (List.flatten [(KN q (l'[a.toNat]!.1) (l'[a.toNat]!.2.1) d e (l'[a.toNat]!.2.2.2.2.1) f (l'[a.toNat]!.2.2.2.2.2.2)),c]) 0 _ _ _ _ _ (#[vS (l'[a.toNat]!.1),vI (l'[a.toNat]!.2.1),d,e,vI (l'[a.toNat]!.2.2.2.2.1),f,vI (l'[a.toNat]!.2.2.2.2.2.2)]) rfl rfl rfl rfl (.ofS rfl rfl (Ae rfl (Ae rfl (Ae (Shp.one (Rd.shp j)) (Ae (Shp.one (Rd.shp k)) (Ae rfl (Ae (Shp.one (Rd.shp m)) (Ae rfl Bt)))))))) rfl rfl<|Ak<|Ag<|rn 3 rfl ?_
  refine rm 1 [0] rfl<|kB b fun x y b=>gV _ (BG (caps:=[]) rfl lP rfl) (fun o w z_=>Tt N (l'[a.toNat]!.1) (l'[a.toNat]!.2.1) (l'[a.toNat]!.2.2.1) (l'[a.toNat]!.2.2.2.1) (l'[a.toNat]!.2.2.2.2.1) (l'[a.toNat]!.2.2.2.2.2.1) (l'[a.toNat]!.2.2.2.2.2.2) _ y z_.view d (z_.r j) e (z_.r k) f (z_.r m))<|kC b fun n b=>rI (Sl.shp h) n rfl<|QS (Ls:=[(KN q (l'[a.toNat]!.1) (l'[a.toNat]!.2.1) d e (l'[a.toNat]!.2.2.2.2.1) f (l'[a.toNat]!.2.2.2.2.2.2)),c]) 1 (En:=Aa4) (g[a.toNat]!) x (a.toNat) 0 rfl rfl rfl h (De n) rfl rfl rfl (HN rfl) rfl (fun z G=> ?_)
  refine Ak<|v _ _ ?_
  refine Ag<|kC b fun A b=>rX A rfl<|rz rfl<|fg _ (Sub.pick [(KN q (l'[a.toNat]!.1) (l'[a.toNat]!.2.1) d e (l'[a.toNat]!.2.2.2.2.1) f (l'[a.toNat]!.2.2.2.2.2.2)),z] [1] rfl) ?_
  exact⟨p+1,by omega,p,(g).set (a.toNat) x,(a+1),b,z,G,Af rfl rfl,rfl⟩
 refine AD<|F _ _ ?_
 refine AZ rfl ?_
 cases b
 refine Bi (fun M=>Ha (v0:=D) h (EK (Sub.pick [c] [0] rfl)) rfl (Gj rfl))
def GH(_:Nat)(n:Int)(a:Int)(b:Int):Option Bool:=if n≥a then some (decide (n≤b))else some false
theorem NT(N n least most r)(a:GH N n least most=some r):Gives prog 195 #[vI n,vI least,vI most] (vB r):=by
 unfold GH at a
 refine As follows func195 rfl 15 rfl _ fz3 (fun d=> ?_)
 refine AZ rfl<|Aa fun e b=>Ag<|rn 4 rfl ?_
 rcases c:(decide (n≥least))with _|_
 ·replace a:=iF c a
  refine rz rfl<|b _ _ ?_
  cases a
  exact aR eE1
 replace a:=iD c a
 refine rz rfl<|b _ _ ?_
 cases a
 exact aR eE1
def HT(N:Nat)(a:List ((List UInt8)×(List Int)×(List (Int×Int×Int×Int×BitVec 128))))(i:Int):Option Bool:=ck ((R64 ((a.length:Int) - 1))) ((AE N i 0 ((a.length:Int) - 1)).bind fun b=>some b)
theorem KY(N l' i r)(a:HT N l' i=some r)(ro l'v)(hl':RdN Ad6 ro l'v l'):Does prog 240 #[l'v,vI i] ro [] (pV (vB r)):=by
 unfold HT at a
 refine Aj follows func240 rfl 10 rfl _ fz2 (fun b=> ?_)
 refine AZ rfl<|Ad<|rn 2 rfl<|rL (RdN.shp hl') rfl<|kC a fun c a=>rX c rfl<|kB a fun e d a=>rc _ (cF Dg) (AO N i 0 ((l'.length:Int) - 1) _ d)<|rz rfl ?_
 cases a
 exact aR eV1
def Lk(N:Nat)(_:Int)(a:Int)(b:An):Option Int:=(HT N b.2.2.2.2.2.1 a).bind fun c=>(Ao N c 5).bind fun d=>some d
theorem Tz(N x a c r)(f:Lk N x a c=some r)(ro)(d:Nat)(b:Ay)(g:Aa2 ro b c)(e:Blk ro d (Gl c b)):Does prog 239 #[vI x,vI a,vP d 0] ro [] (pV (vI r)):=by
 unfold Lk at f
 refine Aj follows func239 rfl 12 rfl _ fz3 (fun h=> ?_)
 refine AZ rfl<|Ad<|rn 2 rfl<|GX b.2.2.2.2.1 (vs:=(Gl c b)) (o:=5) rfl rfl (AQ e) rfl<|rn 1 rfl<|kB f fun k i f=>gV _ (cF VB) (fun o w z_=>KY N c.2.2.2.2.2.1 a _ i z_.view b.2.2.2.2.1 (RdN.mono z_.ro_cell g.2.2.2.2.1))<|kB f fun l j f=>rc _ (cF Bg) (Ax N k 5 _ j)<|rz rfl ?_
 cases f
 exact aR eV1
def JL(N:Nat)(c:List Int)(b:An):Nat→Int→Option (Int×Int)
  |0,_=>none
  |e+1,a=>if a<(c.length:Int)then ck (0≤a∧a<(c.length:Int)) ((Lk N a (c[a.toNat]!) b).bind fun d=>if(d:Int)≠0 then some (a,d)else ck (R64 (a+1)) ((JL N c b e) (a+1)))else some (0,0)
def PE(N:Nat)(c:List Int)(b:Int)(a:An):Option (Int×Int):=if(c.length:Int)>b then some (0,2)else JL N c a N 0
theorem aq(N l' most c r)(b:PE N l' most c=some r)(ro l'v)(hl':Rd BJ ro l'v l')(a:Nat)(d:Ay)(g:Aa2 ro d c)(f:Blk ro a (Gl c d)):Does prog 138 #[l'v,vI most,vF 239 #[] #[vP a 0]] ro [] (pV (vT #[vI r.1,vI r.2])):=by
 unfold PE at b
 refine Aj follows func138 rfl 31 rfl _ fz3 (fun s=> ?_)
 refine AZ rfl<|Aa fun B u=>Ad<|rn 1 rfl<|rL (Rd.shp hl') rfl<|rz rfl<|aD b rfl (fun v b=> ?_) (fun v b=> ?_)
 ·refine AZ rfl ?_
  cases b
  exact aR eV2
 refine Ab<|u _ _ ?_
 refine Aa fun C x=>Ad<|rn 1 rfl<|rL (Rd.shp hl') rfl<|rz rfl<|Ah<|AC (fun tt ll nn=> ∃(i:Nat) (e:Int),(JL N l' c i e=some r)∧Is [(2,vF 239 #[] #[vP a 0]),(15,l'v),(16,vI (l'.length:Int)),(17,vI e)] [] tt ll∧nn=i+1) (N+1) ?_ ?_
 ·exact⟨N,0,b,Af rfl rfl,rfl⟩
 clear b;rintro t l _ ⟨i,e,b,⟨⟨T,rfl⟩,rfl⟩,rfl⟩
 rcases i with _|i
 ·exact absurd b (by simp [JL])
 rw [JL] at b
 refine AZ rfl<|Aa fun y j=>aD b rfl (fun k b=> ?_) (fun k b=> ?_)
 ·refine Ab<|j _ _ ?_
  refine Aa fun z m=>Ah<|Ad<|rn 1 rfl<|kC b fun h b=>rI (Rd.shp hl') h rfl<|rE (Au hl') h 0 rfl<|rz rfl<|Ad<|rn 3 rfl<|kB b fun A n b=>gV _ (BG (caps:=[vP a 0]) rfl jY rfl) (fun o w z_=>Tz N e (l'[e.toNat]!) c _ n z_.view a d (Aa2.mono z_.ro_cell g) (AQ f o w z_))<|rz rfl<|AZ rfl<|aN b rfl (fun p b=> ?_) (fun p b=> ?_)
  ·refine AZ rfl ?_
   cases b
   exact aR eV2
  refine Ab<|m _ _ ?_
  refine Ag<|kC b fun q b=>rX q rfl<|rz rfl<|fg _ (Sub.of suN) ?_
  exact⟨i+1,by omega,i,(e+1),b,Af rfl rfl,rfl⟩
 refine AD<|x _ _ ?_
 refine AZ rfl ?_
 cases b
 exact aR eV2
def FV(s:List Int)(b:Int):Nat→Int→Option Int
  |0,_=>none
  |c+1,a=>if a<(s.length:Int)then ck (0≤a∧a<(s.length:Int)) (if b=s[a.toNat]! then some a else ck (R64 (a+1)) ((FV s b c) (a+1)))else some (-1)
def Ij(N:Nat)(s:List Int)(a:Int):Option Int:=FV s a N 0
theorem Pd(N s v' r)(a:Ij N s v'=some r)(ro sv)(hs:Rd BJ ro sv s):Does prog 204 #[sv,vI v'] ro [] (pV (vI r)):=by
 unfold Ij at a
 refine Aj follows func204 rfl 19 rfl _ fz2 (fun g=> ?_)
 refine AZ rfl<|Aa fun m h=>Ad<|rn 1 rfl<|rL (Rd.shp hs) rfl<|rz rfl<|Ah<|AC (fun tt ll nn=> ∃(d:Nat) (b:Int),(FV s v' d b=some r)∧Is [(0,sv),(1,vI v'),(7,vI (s.length:Int)),(8,vI b)] [] tt ll∧nn=d+1) (N+1) ?_ ?_
 ·exact⟨N,0,a,Af rfl rfl,rfl⟩
 clear a;rintro t l _ ⟨d,b,a,⟨⟨T,rfl⟩,rfl⟩,rfl⟩
 rcases d with _|d
 ·exact absurd a (by simp [FV])
 rw [FV] at a
 refine AZ rfl<|Aa fun n i=>aD a rfl (fun j a=> ?_) (fun j a=> ?_)
 ·refine Ab<|i _ _ ?_
  refine Aa fun o k=>Ah<|AZ rfl<|Ad<|rn 3 rfl<|kC a fun c a=>rI (Rd.shp hs) c rfl<|rE (Au hs) c 0 rfl<|rz rfl<|aE a rfl (fun e a=> ?_) (fun e a=> ?_)
  ·refine AZ rfl ?_
   cases a
   exact aR eV1
  refine Ab<|k _ _ ?_
  refine Ag<|kC a fun f a=>rX f rfl<|rz rfl<|fg _ (Sub.of suN) ?_
  exact⟨d+1,by omega,d,(b+1),a,Af rfl rfl,rfl⟩
 refine AD<|h _ _ ?_
 refine AZ rfl ?_
 cases a
 exact aR eV1
def BE(N:Nat)(s:List Int)(a:Int):Option Bool:=(Ij N s a).bind fun b=>some (decide (b≥0))
theorem Hu(N s v' r)(a:BE N s v'=some r)(ro sv)(hs:Rd BJ ro sv s):Does prog 140 #[sv,vI v'] ro [] (pV (vB r)):=by
 unfold BE at a
 refine Aj follows func140 rfl 9 rfl _ fz2 (fun b=> ?_)
 refine AZ rfl<|Ad<|rn 2 rfl<|kB a fun d c a=>gV _ (cF kL) (fun o w z_=>Pd N s v' _ c z_.view sv (z_.r hs))<|rz rfl ?_
 cases a
 exact aR eV1
def Lj(N:Nat)(i:Int)(a:Int)(b:List Int):Option Int:=ck (0≤i∧i≤(b.length:Int)) ((BE N (((b).take (i.toNat)).drop 0) a).bind fun d=>(Ao N (!(d)) 6).bind fun c=>some c)
theorem Ty(N i a f r)(c:Lj N i a f=some r)(ro)(d:Nat)(b)(e:Rd BJ ro b f)(g:Blk ro d [b]):Does prog 241 #[vI i,vI a,vP d 0] ro [] (pV (vI r)):=by
 unfold Lj at c
 refine Aj follows func241 rfl 13 rfl _ fz3 (fun j=> ?_)
 refine AZ rfl<|Ad<|GX b (vs:=[b]) (o:=0) rfl rfl (AQ g) rfl<|rn 1 rfl<|kC c fun h c=>r_W (Fy b 0 (i.toNat) 1) rfl (ET (HC rfl rfl rfl rfl (Rd.shp e) h))<|rn 1 rfl<|kB c fun m k c=>gV _ (cF VI) (fun o w z_=>Hu N (((f).take (i.toNat)).drop 0) a _ k z_.view (Fy b 0 (i.toNat) 1) ((Ol (Au e) (Nat.zero_le _) (GD h.2)) o w z_))<|rn 1 rfl<|kB c fun n l c=>rc _ (cF Bg) (Ax N (!(m)) 6 _ l)<|rz rfl ?_
 cases c
 exact aR eV1
def JK(N:Nat)(c:List Int)(b:List Int):Nat→Int→Option (Int×Int)
  |0,_=>none
  |e+1,a=>if a<(c.length:Int)then ck (0≤a∧a<(c.length:Int)) ((Lj N a (c[a.toNat]!) b).bind fun d=>if(d:Int)≠0 then some (a,d)else ck (R64 (a+1)) ((JK N c b e) (a+1)))else some (0,0)
def PD(N:Nat)(c:List Int)(b:Int)(a:List Int):Option (Int×Int):=if(c.length:Int)>b then some (0,2)else JK N c a N 0
theorem ao(N l' most c r)(b:PD N l' most c=some r)(ro l'v)(hl':Rd BJ ro l'v l')(a:Nat)(d)(g:Rd BJ ro d c)(f:Blk ro a [d]):Does prog 138 #[l'v,vI most,vF 241 #[] #[vP a 0]] ro [] (pV (vT #[vI r.1,vI r.2])):=by
 unfold PD at b
 refine Aj follows func138 rfl 31 rfl _ fz3 (fun s=> ?_)
 refine AZ rfl<|Aa fun B u=>Ad<|rn 1 rfl<|rL (Rd.shp hl') rfl<|rz rfl<|aD b rfl (fun v b=> ?_) (fun v b=> ?_)
 ·refine AZ rfl ?_
  cases b
  exact aR eV2
 refine Ab<|u _ _ ?_
 refine Aa fun C x=>Ad<|rn 1 rfl<|rL (Rd.shp hl') rfl<|rz rfl<|Ah<|AC (fun tt ll nn=> ∃(i:Nat) (e:Int),(JK N l' c i e=some r)∧Is [(2,vF 241 #[] #[vP a 0]),(15,l'v),(16,vI (l'.length:Int)),(17,vI e)] [] tt ll∧nn=i+1) (N+1) ?_ ?_
 ·exact⟨N,0,b,Af rfl rfl,rfl⟩
 clear b;rintro t l _ ⟨i,e,b,⟨⟨T,rfl⟩,rfl⟩,rfl⟩
 rcases i with _|i
 ·exact absurd b (by simp [JK])
 rw [JK] at b
 refine AZ rfl<|Aa fun y j=>aD b rfl (fun k b=> ?_) (fun k b=> ?_)
 ·refine Ab<|j _ _ ?_
  refine Aa fun z m=>Ah<|Ad<|rn 1 rfl<|kC b fun h b=>rI (Rd.shp hl') h rfl<|rE (Au hl') h 0 rfl<|rz rfl<|Ad<|rn 3 rfl<|kB b fun A n b=>gV _ (BG (caps:=[vP a 0]) rfl jX rfl) (fun o w z_=>Ty N e (l'[e.toNat]!) c _ n z_.view a d (z_.r g) (AQ f o w z_))<|rz rfl<|AZ rfl<|aN b rfl (fun p b=> ?_) (fun p b=> ?_)
  ·refine AZ rfl ?_
   cases b
   exact aR eV2
  refine Ab<|m _ _ ?_
  refine Ag<|kC b fun q b=>rX q rfl<|rz rfl<|fg _ (Sub.of suN) ?_
  exact⟨i+1,by omega,i,(e+1),b,Af rfl rfl,rfl⟩
 refine AD<|x _ _ ?_
 refine AZ rfl ?_
 cases b
 exact aR eV2
def Jb(N:Nat)(c:An)(a:List Int):Option Int:=(PE N a 8 c).bind fun f=>(PD N a 8 a).bind fun e=>(Ao N (decide ((a.length:Int)>0)) 5).bind fun b=>(AP N ([b,f.2,e.2])).bind fun d=>some d
theorem WA(N c l' r)(a:Jb N c l'=some r)(ro)(cv:Ay)(hc:Aa2 ro cv c)(l'v)(hl':Rd BJ ro l'v l'):Does prog 196 #[vA (Ac c cv),l'v] ro [] (pV (vI r)):=by
 unfold Jb at a
 refine Aj follows func196 rfl 29 rfl _ fz2 (fun f=> ?_)
 refine Ad<|rA rfl fun g=>r_a (29, #[l'v]) rfl rfl (MF rfl (Rd.shp hl')) (fun h=> ?_) (.inr rfl)
 refine rz rfl<|Ad<|rm 1 [0] rfl<|r_W (vF 239 #[] #[vP g 0]) rfl (HD rfl)<|kB a fun q i a=>gV _ (cF RW) (fun o w z_=>aq N l' 8 c _ i z_.view l'v ((Au hl') o w z_) g cv (Aa2.mono z_.ro_cell hc) (Cw 1 rfl rfl o w z_))<|rz rfl<|Ad<|rm 1 [0] rfl<|r_W (vF 241 #[] #[vP h 0]) rfl (HD rfl)<|kB a fun s j a=>gV _ (cF RW) (fun o w z_=>ao N l' 8 l' _ j z_.view l'v ((Au hl') o w z_) h l'v ((Au hl') o w z_) (Cw 0 rfl rfl o w z_))<|rz rfl<|Ad<|rm 1 [0] rfl<|rL (Rd.shp hl') rfl<|rn 1 rfl<|kB a fun b d a=>rc _ (cF Bg) (Ax N (decide ((l'.length:Int)>0)) 5 _ d)<|rn 2 rfl<|gB (Ls:=[(dX h l'v),[(g,143,(Ac c cv))]]) 46 BJ [b,q.2,s.2] (fun l m n=> ?_)
 refine kB a fun p e a=>gV _ (cF EG) (fun o w z_=>BS N ([b,q.2,s.2]) _ e z_.view l ((Av n (Ai (Ls:=[(dX h l'v),[(g,143,(Ac c cv))],m]) (k:=2) rfl rfl)) o w z_))<|rz rfl<|Gm [(4,vI p)] rfl (fun T=> ?_)
 cases a
 exact aR eV1
def Nx(N:Nat)(i:Int)(b:Int)(c:BitVec 128)(a:List Int):Option Int:=ck (0≤i∧i<(a.length:Int)) ((GS N b c (a[i.toNat]!)).bind fun e=>(Ao N e 9).bind fun d=>some d)
theorem WD(N i v_0 v_1 e r)(b:Nx N i v_0 v_1 e=some r)(ro)(c:Nat)(a)(d:Rd BJ ro a e)(f:Blk ro c [a]):Does prog 243 #[vI i,vA #[vI v_0,U (hi v_1),U (lo v_1)],vP c 0] ro [] (pV (vI r)):=by
 unfold Nx at b
 refine Aj follows func243 rfl 13 rfl _ fz3 (fun h=> ?_)
 refine Ad<|rA rfl fun n=>rz rfl<|Aa fun p j=>Hb [] (by decide+kernel) (fun q=>AH)<|rm 1 [0] rfl<|GX a (vs:=[a]) (o:=0) rfl rfl (AQ f) rfl<|rn 1 rfl<|kC b fun g b=>rI (Rd.shp d) g rfl<|rE (Au d) g 0 rfl<|kB b fun m k b=>rc _ (cF VC) (Na N v_0 v_1 (e[i.toNat]!) _ k)<|kB b fun s l b=>rc _ (cF Bg) (Ax N m 9 _ l)<|rz rfl<|j _ _ ?_
 cases b
 exact aR eV1
def JQ(N:Nat)(c:List (Int×BitVec 128))(b:List Int):Nat→Int→Option (Int×Int)
  |0,_=>none
  |e+1,a=>if a<(c.length:Int)then ck (0≤a∧a<(c.length:Int)) ((Nx N a ((c[a.toNat]!).1) ((c[a.toNat]!).2) b).bind fun d=>if(d:Int)≠0 then some (a,d)else ck (R64 (a+1)) ((JQ N c b e) (a+1)))else some (0,0)
def PI(N:Nat)(c:List (Int×BitVec 128))(b:Int)(a:List Int):Option (Int×Int):=if(c.length:Int)>b then some (0,2)else JQ N c a N 0
theorem ax(N l' most c r)(b:PI N l' most c=some r)(ro l'v)(hl':Rd Ac8 ro l'v l')(a:Nat)(d)(g:Rd BJ ro d c)(f:Blk ro a [d]):Does prog 242 #[l'v,vI most,vF 243 #[] #[vP a 0]] ro [] (pV (vT #[vI r.1,vI r.2])):=by
 unfold PI at b
 refine Aj follows func242 rfl 31 rfl _ fz3 (fun s=> ?_)
 refine AZ rfl<|Aa fun C u=>Ad<|rn 1 rfl<|rL (Rd.shp hl') rfl<|rz rfl<|aD b rfl (fun v b=> ?_) (fun v b=> ?_)
 ·refine AZ rfl ?_
  cases b
  exact aR eV2
 refine Ab<|u _ _ ?_
 refine Aa fun D x=>Ad<|rn 1 rfl<|rL (Rd.shp hl') rfl<|rz rfl<|Ah<|AC (fun tt ll nn=> ∃(i:Nat) (e:Int),(JQ N l' c i e=some r)∧Is [(2,vF 243 #[] #[vP a 0]),(15,l'v),(16,vI (l'.length:Int)),(17,vI e)] [] tt ll∧nn=i+1) (N+1) ?_ ?_
 ·exact⟨N,0,b,Af rfl rfl,rfl⟩
 clear b;rintro t l _ ⟨i,e,b,⟨⟨T,rfl⟩,rfl⟩,rfl⟩
 rcases i with _|i
 ·exact absurd b (by simp [JQ])
 rw [JQ] at b
 refine AZ rfl<|Aa fun y j=>aD b rfl (fun k b=> ?_) (fun k b=> ?_)
 ·refine Ab<|j _ _ ?_
  refine Aa fun z m=>Ah<|Ad<|rn 1 rfl<|kC b fun h b=>rI (Rd.shp hl') h rfl<|rE (Au hl') h 0 rfl<|rA rfl fun A=>ry [0] rfl<|Ad<|rm 3 [0] rfl<|kB b fun B n b=>gV _ (BG (caps:=[vP a 0]) rfl jV rfl) (fun o w z_=>WD N e ((l'[e.toNat]!).1) ((l'[e.toNat]!).2) c _ n z_.view a d (z_.r g) (AQ f o w z_))<|rz rfl<|AZ rfl<|aN b rfl (fun p b=> ?_) (fun p b=> ?_)
  ·refine AZ rfl ?_
   cases b
   exact aR eV2
  refine Ab<|m _ _ ?_
  refine Ag<|kC b fun q b=>rX q rfl<|rz rfl<|fg _ (Sub.of (suC _ suN)) ?_
  exact⟨i+1,by omega,i,(e+1),b,Af rfl rfl,rfl⟩
 refine AD<|x _ _ ?_
 refine AZ rfl ?_
 cases b
 exact aR eV2
def Jn(N:Nat)(c:An)(a:Int)(b:List (Int×BitVec 128)):Option Int:=(HT N c.2.2.2.2.2.1 a).bind fun e=>if e=true then ck (0≤a∧a<(c.2.2.2.2.2.1.length:Int)) (if(b.length:Int)≠(((c.2.2.2.2.2.1)[a.toNat]!.2.1).length:Int)then some 2 else(PI N b (b.length:Int) ((c.2.2.2.2.2.1)[a.toNat]!.2.1)).bind fun d=>some d.2)else some 5
theorem Td(N c action l' r)(a:Jn N c action l'=some r)(ro)(cv:Ay)(hc:Aa2 ro cv c)(l'v)(hl':Rd Ac8 ro l'v l'):Does prog 197 #[vA (Ac c cv),vI action,l'v] ro [] (pV (vI r)):=by
 unfold Jn at a
 refine Aj follows func197 rfl 37 rfl _ fz3 (fun k=> ?_)
 refine Ad<|rA rfl fun s=>rz rfl<|Aa fun u l=>Ad<|rm 4 [0] rfl<|kB a fun v m a=>gV _ (cF VB) (fun o w z_=>KY N c.2.2.2.2.2.1 action _ m z_.view cv.2.2.2.2.1 (RdN.mono z_.ro_cell hc.2.2.2.2.1))<|rz rfl<|Bv _ rfl (fun f=> ?_) (fun f=> ?_)
 ·replace a:=ifn (Bool.eq_false_iff.1 (CM f)) a
  refine AZ rfl ?_
  cases a
  exact aR eV1
 replace a:=ifp (CN f) a
 refine Ab<|l _ _ ?_
 refine Ad<|rm 4 [0] rfl<|kC a fun d a=> ?_
 obtain⟨_,⟨e,n,b,q,rfl⟩,hat15⟩:=RdN.at (E:=Ad6) hc.2.2.2.2.1 (De d)
 refine rI (RdN.shp hc.2.2.2.2.1) d rfl<|rF (RdN.shp hc.2.2.2.2.1) (Bb d) rfl<|MG e (vs:=[vS ((c.2.2.2.2.2.1)[action.toNat]!.1),e,n]) (action.toNat*3) 1 rfl rfl (fun o w z_=>At.mono z_.ro_cell hat15) rfl<|rA rfl fun g=>r_s [(g,29, #[e]),(s,143,(Ac c cv))] 0 _ _ _ _ _ (#[e]) rfl rfl rfl (FM rfl (Rd.shp b)) (.ofS rfl rfl (Ae (Shp.one (Rd.shp b)) Bt)) rfl rfl<|Ak<|Aa fun t h=>Ad<|rn 1 rfl<|rL (Rd.shp hl') rfl<|rm 1 [0] rfl<|rL (Rd.shp b) rfl<|rz rfl ?_
 refine aN a rfl (fun i a=> ?_) (fun i a=> ?_)
 ·refine AZ rfl ?_
  cases a
  exact aR eV1
 refine Ab<|h _ _ ?_
 refine Ad<|rn 2 rfl<|rL (Rd.shp hl') rfl<|r_W (vF 243 #[] #[vP g 0]) rfl (HD rfl)<|kB a fun p j a=>gV _ (cF jW) (fun o w z_=>ax N l' (l'.length:Int) ((c.2.2.2.2.2.1)[action.toNat]!.2.1) _ j z_.view l'v ((Au hl') o w z_) g e (z_.r b) (Cw 0 rfl rfl o w z_))<|rz rfl<|Gm [(9,vI p.2)] rfl (fun T=> ?_)
 refine AZ rfl ?_
 cases a
 exact aR eV1
def JV(N:Nat)(c:An)(_:List UInt8)(m:Int)(b:List (Int×Int×Int))(a:List Int)(d:Int)(k:List (Int×BitVec 128))(n:Int):Option Int:=(GH N m 0 3).bind fun r=>(Ao N r 10).bind fun q=>(Ao N (decide ((b.length:Int)>0)) 5).bind fun p=>(ID N c b 2).bind fun g=>(Jb N c a).bind fun o=>(BE N a d).bind fun l=>(Ao N l 16).bind fun j=>(Jn N c d k).bind fun i=>(AE N n 1 256).bind fun h=>(Ao N h 7).bind fun e=>(AP N ([q,p,g,o,j,i,e])).bind fun f=>some f
theorem YD(N c x_0 x_1 x_2 x_3 x_4 x_5 x_6 r)(a:JV N c x_0 x_1 x_2 x_3 x_4 x_5 x_6=some r)(ro)(cv:Ay)(hc:Aa2 ro cv c)(x_2v)(hx_2:Rd Ad0 ro x_2v x_2)(x_3v)(hx_3:Rd BJ ro x_3v x_3)(x_5v)(hx_5:Rd Ac8 ro x_5v x_5):DoesI prog 136 #[vA (Ac c cv),vA #[vS x_0,vI x_1,x_2v,x_3v,vI x_4,x_5v,vI x_6]] GC ro [] (pV (vI r)):=by
 unfold JV at a
 refine AW follows func136 rfl 43 rfl _ fz2 Be (fun H=> ?_)
 refine Ad<|rA rfl fun S=>rA rfl fun U=>rz rfl<|Aa fun W I=> ?_
 refine Bw [(some 17,false),(some 21,false),(some 27,false),(some 36,false),(some 41,false),(some 42,false)] (conG prog [(17,cV (ID N c x_2 2) fun b=>vI b),(21,cV (Jb N c x_3) fun b=>vI b),(27,cV (BE N x_3 x_4) fun b=>vB b),(36,cV (Jn N c x_4 x_5) fun b=>vI b),(42,fun _ _ v_ L_ U_=> ∀b,GH N x_1 0 3=some b→ ∀y,Ao N b 10=some y→ ∀z,Ao N (decide ((x_2.length:Int)>0)) 5=some z→ ∀A,ID N c x_2 2=some A→ ∀B,Jb N c x_3=some B→ ∀C,BE N x_3 x_4=some C→ ∀D,Ao N C 16=some D→ ∀E,Jn N c x_4 x_5=some E→ ∀F,AE N x_6 1 256=some F→ ∀G,Ao N F 7=some G→ ∀n,AP N ([y,z,A,B,D,E,G])=some n→(pV (vI n)) v_ L_ U_)]) [] (by decide+kernel) (fun X=>AH) ?_
 refine rm 2 [0] rfl<|kB a fun V p a=>rc _ (cF kT) (NT N x_1 0 3 _ p)<|kB a fun J q a=>rc _ (cF Bg) (Ax N V 10 _ q)<|rm 2 [0] rfl<|rL (Rd.shp hx_2) rfl<|rn 1 rfl<|kB a fun K h a=>rc _ (cF Bg) (Ax N (decide ((x_2.length:Int)>0)) 5 _ h)<|rm 3 [1,0] rfl<|kB a fun s d a=>rg _ (cF bx) (fun o w z_=>UX N c x_2 2 _ d z_.view cv (Aa2.mono z_.ro_cell hc) x_2v (z_.r hx_2)) (GB d)<|rm 3 [1,0] rfl<|kB a fun t e a=>rg _ (cF kS) (fun o w z_=>(Does.inv (WA N c x_3 _ e z_.view cv (Aa2.mono z_.ro_cell hc) x_3v (z_.r hx_3)) _)) (GB e)<|rm 5 [0,0] rfl<|kB a fun L f a=>rg _ (cF VI) (fun o w z_=>(Does.inv (Hu N x_3 x_4 _ f z_.view x_3v (z_.r hx_3)) _)) (GB f)<|kB a fun u i a=>rc _ (cF Bg) (Ax N L 16 _ i)<|rm 7 [1,0,0] rfl<|kB a fun v g a=>rg _ (cF bw) (fun o w z_=>(Does.inv (Td N c x_4 x_5 _ g z_.view cv (Aa2.mono z_.ro_cell hc) x_5v (z_.r hx_5)) _)) (GB g)<|rm 2 [0] rfl<|kB a fun M j a=>rc _ (cF Dg) (AO N x_6 1 256 _ j)<|kB a fun x l a=>rc _ (cF Bg) (Ax N M 7 _ l) ?_
 refine IW (Ls:=[(KN U x_0 x_1 x_2v x_3v x_4 x_5v x_6),[(S,143,(Ac c cv))]]) 46 BJ [J,K,s,t,u,v,x] [vI J,vI K,vI s,vI t,vI u,vI v,vI x] [vI 0,vI 0,vI 0,vI 0,vI 0,vI 0,vI 0] rfl rfl rfl rfl rfl rfl rfl (by kernel_rfl) (by kernel_rfl) rfl rfl rfl (fun O P Q=> ?_)
 refine kB a fun R m a=>rg _ (cF EG) (fun o w z_=>(Does.inv (BS N ([J,K,s,t,u,v,x]) _ m z_.view O ((Av Q (Ai (Ls:=[(KN U x_0 x_1 x_2v x_3v x_4 x_5v x_6),[(S,143,(Ac c cv))],P]) (k:=2) rfl rfl)) o w z_)) _)) (fun _ _ v_ L_ U_=>⟨fun h_=>h_ _ p _ q _ h _ d _ e _ f _ i _ g _ j _ l _ m,fun h_=>by intro _ e_;cases q1 (e_.symm.trans p);intro _ e_;cases q1 (e_.symm.trans q);intro _ e_;cases q1 (e_.symm.trans h);intro _ e_;cases q1 (e_.symm.trans d);intro _ e_;cases q1 (e_.symm.trans e);intro _ e_;cases q1 (e_.symm.trans f);intro _ e_;cases q1 (e_.symm.trans i);intro _ e_;cases q1 (e_.symm.trans g);intro _ e_;cases q1 (e_.symm.trans j);intro _ e_;cases q1 (e_.symm.trans l);intro _ e_;cases q1 (e_.symm.trans m);exact h_⟩) ?_
 refine rz rfl<|I _ _ ?_
 refine Gm [(4,vI R)] rfl (fun T=> ?_)
 cases a
 exact aR eV1
def KZ(N:Nat)(i:Int)(f:List UInt8)(k:Int)(e:List (Int×Int×Int))(c:List Int)(l:Int)(h:List (Int×BitVec 128))(j:Int)(b:List (List UInt8))(a:An):Option Int:=ck (0≤i∧i<(b.length:Int)) ((FS N (b[i.toNat]!)).bind fun o=>(Ao N o 4).bind fun m=>(Bf N b i).bind fun n=>(JV N a f k e c l h j).bind fun d=>(AP N ([m,n,d])).bind fun g=>some g)
theorem Tm(N i x_0 x_1 x_2 x_3 x_4 x_5 x_6 b c3_p0_0_ r)(c:KZ N i x_0 x_1 x_2 x_3 x_4 x_5 x_6 b c3_p0_0_=some r)(ro x_2v)(hx_2:Rd Ad0 ro x_2v x_2)(x_3v)(hx_3:Rd BJ ro x_3v x_3)(x_5v)(hx_5:Rd Ac8 ro x_5v x_5)(l:Nat)(a)(g:Rd Aa4 ro a b)(h:Blk ro l [a])(m:Nat)(c3_p0_0_v:Ay)(hc3_p0_0_:Aa2 ro c3_p0_0_v c3_p0_0_)(n:Blk ro m [vF 136 #[vA (Ac c3_p0_0_ c3_p0_0_v)] #[]]):DoesI prog 194 #[vI i,vA #[vS x_0,vI x_1,x_2v,x_3v,vI x_4,x_5v,vI x_6],vP l 0,vP m 0] GC ro [] (pV (vI r)):=by
 unfold KZ at c
 refine AW follows func194 rfl 21 rfl _ fz4 Be (fun z=> ?_)
 refine Ad<|rA rfl fun G=>rz rfl<|Aa fun J A=> ?_
 refine Bw [(some 15,false),(some 18,false),(some 19,false),(some 20,false)] (conG prog [(15,cV (Bf N b i) fun f=>vI f),(18,cV (JV N c3_p0_0_ x_0 x_1 x_2 x_3 x_4 x_5 x_6) fun f=>vI f),(20,fun _ _ v_ L_ U_=> ∀f,FS N (b[i.toNat]!)=some f→ ∀t,Ao N f 4=some t→ ∀u,Bf N b i=some u→ ∀v,JV N c3_p0_0_ x_0 x_1 x_2 x_3 x_4 x_5 x_6=some v→ ∀x,AP N ([t,u,v])=some x→(pV (vI x)) v_ L_ U_)]) [] (by decide+kernel) (fun K=>AH) ?_
 refine GX a (vs:=[a]) (o:=0) rfl rfl (AQ h) rfl<|rn 1 rfl<|kC c fun y c=>rI (Rd.shp g) y rfl<|rE (Au g) y 0 rfl<|kB c fun H p c=>rc _ (cF ME) (Kr N (b[i.toNat]!) _ p)<|kB c fun B q c=>rc _ (cF Bg) (Ax N H 4 _ q)<|GX a (vs:=[a]) (o:=0) rfl rfl (AQ h) rfl<|rn 1 rfl<|kB c fun C d c=>rg _ (cF KU) (fun o w z_=>(Does.inv (Hp N b i _ d z_.view a (z_.r g)) _)) (GB d)<|GX (vF 136 #[vA (Ac c3_p0_0_ c3_p0_0_v)] #[]) (vs:=[vF 136 #[vA (Ac c3_p0_0_ c3_p0_0_v)] #[]]) (o:=0) rfl rfl (AQ n) rfl<|rm 1 [0] rfl<|kB c fun s e c=>rg _ (PX (bd:=[vA (Ac c3_p0_0_ c3_p0_0_v)]) (caps:=[]) rfl lO rfl) (fun o w z_=>YD N c3_p0_0_ x_0 x_1 x_2 x_3 x_4 x_5 x_6 _ e z_.view c3_p0_0_v (Aa2.mono z_.ro_cell hc3_p0_0_) x_2v (z_.r hx_2) x_3v (z_.r hx_3) x_5v (z_.r hx_5)) (GB e) ?_
 refine IW (Ls:=[(KN G x_0 x_1 x_2v x_3v x_4 x_5v x_6)]) 46 BJ [B,C,s] [vI B,vI C,vI s] [vI 0,vI 0,vI 0] rfl rfl rfl rfl rfl rfl rfl (by kernel_rfl) (by kernel_rfl) rfl rfl rfl (fun D E F=> ?_)
 refine kB c fun I j c=>rg _ (cF EG) (fun o w z_=>(Does.inv (BS N ([B,C,s]) _ j z_.view D ((Av F (Ai (Ls:=[(KN G x_0 x_1 x_2v x_3v x_4 x_5v x_6),E]) (k:=1) rfl rfl)) o w z_)) _)) (fun _ _ v_ L_ U_=>⟨fun h_=>h_ _ p _ q _ d _ e _ j,fun h_=>by intro _ e_;cases q1 (e_.symm.trans p);intro _ e_;cases q1 (e_.symm.trans q);intro _ e_;cases q1 (e_.symm.trans d);intro _ e_;cases q1 (e_.symm.trans e);intro _ e_;cases q1 (e_.symm.trans j);exact h_⟩) ?_
 refine rz rfl<|A _ _ ?_
 cases c
 exact aR eV1
def Iz(N:Nat)(c:List ((List UInt8)×Int×(List (Int×Int×Int))×(List Int)×Int×(List (Int×BitVec 128))×Int))(d:List (List UInt8))(b:An):Nat→Int→Option (Int×Int)
  |0,_=>none
  |f+1,a=>if a<(c.length:Int)then ck (0≤a∧a<(c.length:Int)) ((KZ N a (c[a.toNat]!.1) (c[a.toNat]!.2.1) (c[a.toNat]!.2.2.1) (c[a.toNat]!.2.2.2.1) (c[a.toNat]!.2.2.2.2.1) (c[a.toNat]!.2.2.2.2.2.1) (c[a.toNat]!.2.2.2.2.2.2) d b).bind fun e=>if(e:Int)≠0 then some (a,e)else ck (R64 (a+1)) ((Iz N c d b f) (a+1)))else some (0,0)
def Nn(N:Nat)(d:List ((List UInt8)×Int×(List (Int×Int×Int))×(List Int)×Int×(List (Int×BitVec 128))×Int))(c:Int)(b:List (List UInt8))(a:An):Option (Int×Int):=if(d.length:Int)>c then some (0,2)else Iz N d b a N 0
theorem Wr(N l' most e ask1_p0_0_ r)(d:Nn N l' most e ask1_p0_0_=some r)(ro l'v)(hl':RdN Ae1 ro l'v l')(b:Nat)(f)(m:Rd Aa4 ro f e)(g:Blk ro b [f])(c:Nat)(ask1_p0_0_v:Ay)(hask1_p0_0_:Aa2 ro ask1_p0_0_v ask1_p0_0_)(h:Blk ro c [vF 136 #[vA (Ac ask1_p0_0_ ask1_p0_0_v)] #[]]):DoesI prog 193 #[l'v,vI most,vF 194 #[] #[vP b 0,vP c 0]] GC ro [] (pV (vT #[vI r.1,vI r.2])):=by
 unfold Nn at d
 refine AW follows func193 rfl 31 rfl _ fz3 Be (fun C=> ?_)
 refine AZ rfl<|Aa fun L D=>Ad<|rn 1 rfl<|rL (RdN.shp hl') rfl<|rz rfl<|aD d rfl (fun F d=> ?_) (fun F d=> ?_)
 ·refine AZ rfl ?_
  cases d
  exact aR eV2
 refine Ab<|D _ _ ?_
 refine Aa fun M G=>Ad<|rn 1 rfl<|rL (RdN.shp hl') rfl<|rz rfl<|Ah<|AC (fun tt ll nn=> ∃(u:Nat) (a:Int),(Iz N l' e ask1_p0_0_ u a=some r)∧Is [(2,vF 194 #[] #[vP b 0,vP c 0]),(15,l'v),(16,vI (l'.length:Int)),(17,vI a)] [] tt ll∧nn=u+1) (N+1) ?_ ?_
 ·exact⟨N,0,d,Af rfl rfl,rfl⟩
 clear d;rintro t l _ ⟨u,a,d,⟨⟨T,rfl⟩,rfl⟩,rfl⟩
 rcases u with _|u
 ·exact absurd d (by simp [Iz])
 rw [Iz] at d
 refine AZ rfl<|Aa fun I v=>aD d rfl (fun x d=> ?_) (fun x d=> ?_)
 ·refine Ab<|v _ _ ?_
  refine Aa fun J y=>Ah<|Ad<|rn 1 rfl<|kC d fun n d=> ?_
  obtain⟨_,⟨i,j,k,p,q,s,rfl⟩,hat21⟩:=RdN.at (E:=Ae1) hl' (De n)
  refine rI (RdN.shp hl') n rfl<|MG (vA #[vS (l'[a.toNat]!.1),vI (l'[a.toNat]!.2.1),i,j,vI (l'[a.toNat]!.2.2.2.2.1),k,vI (l'[a.toNat]!.2.2.2.2.2.2)]) (vs:=[vS (l'[a.toNat]!.1),vI (l'[a.toNat]!.2.1),i,j,vI (l'[a.toNat]!.2.2.2.2.1),k,vI (l'[a.toNat]!.2.2.2.2.2.2)]) (a.toNat*7) 0 rfl rfl (fun o w z_=>At.mono z_.ro_cell hat21) rfl<|rA rfl fun H=>rn 1 rfl<|r_s (KN H (l'[a.toNat]!.1) (l'[a.toNat]!.2.1) i j (l'[a.toNat]!.2.2.2.2.1) k (l'[a.toNat]!.2.2.2.2.2.2)) 0 _ _ _ _ _ (#[vS (l'[a.toNat]!.1),vI (l'[a.toNat]!.2.1),i,j,vI (l'[a.toNat]!.2.2.2.2.1),k,vI (l'[a.toNat]!.2.2.2.2.2.2)]) rfl rfl rfl rfl (.ofS rfl rfl (Ae rfl (Ae rfl (Ae (Shp.one (Rd.shp p)) (Ae (Shp.one (Rd.shp q)) (Ae rfl (Ae (Shp.one (Rd.shp s)) (Ae rfl Bt)))))))) rfl rfl<|Ak<|Ad<|rn 2 rfl ?_
  refine rm 1 [0] rfl<|kB d fun K z d=>gV _ (BG (caps:=[vP b 0,vP c 0]) rfl kU rfl) (fun o w z_=>Tm N a (l'[a.toNat]!.1) (l'[a.toNat]!.2.1) (l'[a.toNat]!.2.2.1) (l'[a.toNat]!.2.2.2.1) (l'[a.toNat]!.2.2.2.2.1) (l'[a.toNat]!.2.2.2.2.2.1) (l'[a.toNat]!.2.2.2.2.2.2) e ask1_p0_0_ _ z z_.view i (z_.r p) j (z_.r q) k (z_.r s) b f (z_.r m) (AQ g o w z_) c ask1_p0_0_v (Aa2.mono z_.ro_cell hask1_p0_0_) (AQ h o w z_)) ?_
  refine rz rfl<|AZ rfl<|aN d rfl (fun A d=> ?_) (fun A d=> ?_)
  ·refine AZ rfl ?_
   cases d
   exact aR eV2
  refine Ab<|y _ _ ?_
  refine Ag<|kC d fun B d=>rX B rfl<|rz rfl<|fg _ (Sub.of (suC _ suN)) ?_
  exact⟨u+1,by omega,u,(a+1),d,Af rfl rfl,rfl⟩
 refine AD<|G _ _ ?_
 refine AZ rfl ?_
 cases d
 exact aR eV2
def Nd(N:Nat)(d:List ((List UInt8)×Int×(List (Int×Int×Int))×(List Int)×Int×(List (Int×BitVec 128))×Int))(c:Int)(a:An):Option (Int×Int):=(Nj N d).bind fun e=>(Nn N d c e a).bind fun b=>some (b.1,b.2)
theorem Wi(N l' most b r)(d:Nd N l' most b=some r)(ro l'v)(hl':RdN Ae1 ro l'v l')(a:Ay)(c:Aa2 ro a b):DoesI prog 134 #[l'v,vI most,vF 135 #[] #[],vF 136 #[vA (Ac b a)] #[]] GC ro [] (pV (vT #[vI r.1,vI r.2])):=by
 unfold Nd at d
 refine AW follows func134 rfl 20 rfl _ fz4 Be (fun g=> ?_)
 refine Ad<|rA rfl fun e=>rz rfl<|Ad<|rn 2 rfl<|kB d fun n j d=>gS (Ls:=[(UC e (vF 136 #[vA (Ac b a)] #[]))]) (cF kW) (fun o w z_=>(Does.inv (Wn N l' _ j z_.view l'v (RdN.mono z_.ro_cell hl')) _)) (fun h m l=> ?_)
 refine rA rfl fun i=>r_s (List.flatten [(ah i h),(UC e (vF 136 #[vA (Ac b a)] #[])),m]) 0 _ _ _ _ _ (#[h]) rfl rfl rfl (FM rfl (Sl.shp l)) (.ofS rfl rfl (Ae (Shp.one (Sl.shp l)) Bt)) rfl rfl<|Ak<|Ad<|rn 2 rfl<|r_W (vF 194 #[] #[vP i 0,vP e 0]) rfl (HD rfl)<|kB d fun p f d=>gV _ (cF kV) (fun o w z_=>Wr N l' most n b _ f z_.view l'v (RdN.mono z_.ro_cell hl') i h ((Av l (Ai (Ls:=[(ah i h),(UC e (vF 136 #[vA (Ac b a)] #[])),m]) (k:=2) rfl rfl)) o w z_) (Cw 0 rfl rfl o w z_) e a (Aa2.mono z_.ro_cell c) (Cw 1 rfl rfl o w z_))<|rz rfl ?_
 cases d
 exact aR eV2
def Nr(N:Nat)(c:An):Option (Int×Int):=(Nd N c.2.2.2.2.2.2.1 8 c).bind fun a=>some (a.1,a.2)
theorem Wv(N c r)(a:Nr N c=some r)(ro)(cv:Ay)(hc:Aa2 ro cv c):DoesI prog 83 #[vA (Ac c cv)] GC ro [] (pV (vT #[vI r.1,vI r.2])):=by
 unfold Nr at a
 refine AW follows func83 rfl 12 rfl _ fz1 Be (fun b=> ?_)
 refine Ad<|rA rfl fun e=>rz rfl<|Ad<|rm 4 [0,0] rfl<|r_W (vF 136 #[vA (Ac c cv)] #[]) rfl (HO rfl rfl)<|kB a fun f d a=>gV _ (cF lQ) (fun o w z_=>Wi N c.2.2.2.2.2.2.1 8 c _ d z_.view cv.2.2.2.2.2.1 (RdN.mono z_.ro_cell hc.2.2.2.2.2.1) cv (Aa2.mono z_.ro_cell hc))<|rz rfl ?_
 cases a
 exact aR eV2
def Mf(N:Nat)(a:List ((List UInt8)×Int×(List (Int×Int×Int))×(List Int)×Int×(List (Int×BitVec 128))×Int))(i:Int):Option Bool:=ck ((R64 ((a.length:Int) - 1))) ((AE N i 0 ((a.length:Int) - 1)).bind fun b=>some b)
theorem UM(N l' i r)(a:Mf N l' i=some r)(ro l'v)(hl':RdN Ae1 ro l'v l'):Does prog 244 #[l'v,vI i] ro [] (pV (vB r)):=by
 unfold Mf at a
 refine Aj follows func244 rfl 10 rfl _ fz2 (fun b=> ?_)
 refine AZ rfl<|Ad<|rn 2 rfl<|rL (RdN.shp hl') rfl<|kC a fun c a=>rX c rfl<|kB a fun e d a=>rc _ (cF Dg) (AO N i 0 ((l'.length:Int) - 1) _ d)<|rz rfl ?_
 cases a
 exact aR eV1
def HA(N:Nat)(c:An)(a:Int)(b:Int)(_:List (Int×Int×Int×Int×BitVec 128))(_:List (Int×BitVec 128))(_:Int)(_:Int):Option Int:=if a=0 then(Mf N c.2.2.2.2.2.2.1 b).bind fun j=>(Ao N j 5).bind fun f=>some f else if a=1 then(Ao N (b==0) 5).bind fun h=>some h else if a=2 then(HT N c.2.2.2.2.2.1 b).bind fun g=>(Ao N g 5).bind fun d=>some d else if a=3 then(Ht N c b).bind fun e=>(Ao N e 5).bind fun i=>some i else some 10
theorem SH(N c x_0 x_1 x_2 x_3 x_4 x_5 r)(a:HA N c x_0 x_1 x_2 x_3 x_4 x_5=some r)(ro)(cv:Ay)(hc:Aa2 ro cv c)(x_2v:Value)(_hx_2:Rd Ac9 ro x_2v x_2)(x_3v:Value)(_hx_3:Rd Ac8 ro x_3v x_3):Does prog 200 #[vA (Ac c cv),vA #[vI x_0,vI x_1,x_2v,x_3v,vI x_4,vI x_5]] ro [] (pV (vI r)):=by
 unfold HA at a
 refine Aj follows func200 rfl 39 rfl _ fz2 (fun m=> ?_)
 refine Ad<|rA rfl fun z=>rA rfl fun A=>rz rfl<|Aa fun B n=>AY [0] rfl<|Ah<|AZ rfl<|aE a rfl (fun p a=> ?_) (fun p a=> ?_)
 ·refine Ad<|rm 5 [1,0] rfl<|kB a fun t b a=>gV _ (cF jU) (fun o w z_=>UM N c.2.2.2.2.2.2.1 x_1 _ b z_.view cv.2.2.2.2.2.1 (RdN.mono z_.ro_cell hc.2.2.2.2.2.1))<|kB a fun u d a=>rc _ (cF Bg) (Ax N t 5 _ d)<|rz rfl ?_
  cases a
  exact aR eV1
 refine AZ rfl<|aE a rfl (fun e a=> ?_) (fun e a=> ?_)
 ·refine Ad<|rm 3 [0] rfl<|kB a fun v f a=>rc _ (cF Bg) (Ax N (x_1==0) 5 _ f)<|rz rfl ?_
  cases a
  exact aR eV1
 refine AZ rfl<|aE a rfl (fun g a=> ?_) (fun g a=> ?_)
 ·refine Ad<|rm 5 [1,0] rfl<|kB a fun q h a=>gV _ (cF VB) (fun o w z_=>KY N c.2.2.2.2.2.1 x_1 _ h z_.view cv.2.2.2.2.1 (RdN.mono z_.ro_cell hc.2.2.2.2.1))<|kB a fun x i a=>rc _ (cF Bg) (Ax N q 5 _ i)<|rz rfl ?_
  cases a
  exact aR eV1
 refine AZ rfl<|aE a rfl (fun j a=> ?_) (fun j a=> ?_)
 ·refine Ad<|rm 4 [1,0] rfl<|kB a fun s k a=>gV _ (cF VL) (fun o w z_=>MZ N c x_1 _ k z_.view cv (Aa2.mono z_.ro_cell hc))<|kB a fun y l a=>rc _ (cF Bg) (Ax N s 5 _ l)<|rz rfl ?_
  cases a
  exact aR eV1
 refine Ab<|n _ _ ?_
 refine AZ rfl ?_
 cases a
 exact aR eV1
def HY(N:Nat)(c:An)(b:Int)(_:Int)(a:List (Int×Int×Int×Int×BitVec 128))(_:List (Int×BitVec 128))(_:Int)(_:Int):Option Int:=if b=1 then(Jm N c ([]) a).bind fun e=>some e else(Ao N ((a.length:Int)==0) 4).bind fun d=>some d
theorem Tv(N c x_0 x_1 x_2 x_3 x_4 x_5 r)(a:HY N c x_0 x_1 x_2 x_3 x_4 x_5=some r)(ro)(cv:Ay)(hc:Aa2 ro cv c)(x_2v)(hx_2:Rd Ac9 ro x_2v x_2)(x_3v:Value)(_hx_3:Rd Ac8 ro x_3v x_3):DoesI prog 201 #[vA (Ac c cv),vA #[vI x_0,vI x_1,x_2v,x_3v,vI x_4,vI x_5]] GC ro [] (pV (vI r)):=by
 unfold HY at a
 refine AW follows func201 rfl 18 rfl _ fz2 Be (fun d=> ?_)
 refine Ad<|rA rfl fun i=>rA rfl fun j=>rz rfl<|Aa fun k e=>AY [0] rfl<|aE a rfl (fun f a=> ?_) (fun f a=> ?_)
 ·refine Ad<|rm 4 [1,0] rfl<|kB a fun l g a=>gV _ (cF Zl) (fun o w z_=>PB N c ([]) x_2 _ g z_.view cv (Aa2.mono z_.ro_cell hc) nS ((fun _ _ _=> .inl ⟨rfl,rfl⟩) o w z_) x_2v (z_.r hx_2))<|rz rfl ?_
  cases a
  exact aR eV1
 refine Ab<|e _ _ ?_
 refine Ad<|rm 2 [0] rfl<|rL (Rd.shp hx_2) rfl<|rn 1 rfl<|kB a fun h b a=>rc _ (cF Bg) (Ax N ((x_2.length:Int)==0) 4 _ b)<|rz rfl ?_
 cases a
 exact aR eV1
def HZ(N:Nat)(c:An)(d:Int)(e:Int)(_:List (Int×Int×Int×Int×BitVec 128))(a:List (Int×BitVec 128))(_:Int)(_:Int):Option Int:=if d=2 then(Jn N c e a).bind fun f=>some f else(Ao N ((a.length:Int)==0) 4).bind fun b=>some b
theorem Tw(N c x_0 x_1 x_2 x_3 x_4 x_5 r)(a:HZ N c x_0 x_1 x_2 x_3 x_4 x_5=some r)(ro)(cv:Ay)(hc:Aa2 ro cv c)(x_2v:Value)(_hx_2:Rd Ac9 ro x_2v x_2)(x_3v)(hx_3:Rd Ac8 ro x_3v x_3):Does prog 202 #[vA (Ac c cv),vA #[vI x_0,vI x_1,x_2v,x_3v,vI x_4,vI x_5]] ro [] (pV (vI r)):=by
 unfold HZ at a
 refine Aj follows func202 rfl 19 rfl _ fz2 (fun d=> ?_)
 refine Ad<|rA rfl fun i=>rA rfl fun j=>rz rfl<|Aa fun k e=>AY [0] rfl<|aE a rfl (fun f a=> ?_) (fun f a=> ?_)
 ·refine Ad<|rm 5 [1,0,0] rfl<|kB a fun l g a=>gV _ (cF bw) (fun o w z_=>Td N c x_1 x_3 _ g z_.view cv (Aa2.mono z_.ro_cell hc) x_3v (z_.r hx_3))<|rz rfl ?_
  cases a
  exact aR eV1
 refine Ab<|e _ _ ?_
 refine Ad<|rm 2 [0] rfl<|rL (Rd.shp hx_3) rfl<|rn 1 rfl<|kB a fun h b a=>rc _ (cF Bg) (Ax N ((x_3.length:Int)==0) 4 _ b)<|rz rfl ?_
 cases a
 exact aR eV1
def Hx(N:Nat)(g:Int)(_:Int)(_:List (Int×Int×Int×Int×BitVec 128))(_:List (Int×BitVec 128))(j:Int)(c:Int)(a:Int)(b:Int):Option Int:=ck (R64 (a+1)) ((AE N j (a+1) b).bind fun l=>(Ao N l 12).bind fun h=>if g=2 then(Ao N (c==0) 4).bind fun k=>(AP N ([k,h])).bind fun d=>some d else ck (R64 (a+1)) ((AE N c (a+1) b).bind fun f=>(Ao N f 12).bind fun e=>(AP N ([h,e])).bind fun i=>some i))
theorem SD(N x_0 x_1 x_2 x_3 x_4 x_5 at' end' r)(a:Hx N x_0 x_1 x_2 x_3 x_4 x_5 at' end'=some r)(ro:Ro)(x_2v:Value)(_hx_2:Rd Ac9 ro x_2v x_2)(x_3v:Value)(_hx_3:Rd Ac8 ro x_3v x_3):Does prog 203 #[vA #[vI x_0,vI x_1,x_2v,x_3v,vI x_4,vI x_5],vI at',vI end'] ro [] (pV (vI r)):=by
 unfold Hx at a
 refine Aj follows func203 rfl 35 rfl _ fz3 (fun l=> ?_)
 refine Ad<|rA rfl fun m=>rz rfl<|Ad<|rm 3 [0] rfl<|kC a fun p a=>rX p rfl<|rn 1 rfl<|kB a fun C q a=>rc _ (cF Dg) (AO N x_4 (at'+1) end' _ q)<|kB a fun n s a=>rc _ (cF Bg) (Ax N C 12 _ s)<|rz rfl<|Aa fun F t=>AY [0] rfl<|aE a rfl (fun b a=> ?_) (fun b a=> ?_)
 ·refine Ad<|rm 3 [0] rfl<|kB a fun c d a=>rc _ (cF Bg) (Ax N (x_5==0) 4 _ d)<|rn 1 rfl<|gB (Ls:=[(Mc m x_0 x_1 x_2v x_3v x_4 x_5)]) 46 BJ [c,n] (fun u v x=> ?_)
  refine kB a fun D e a=>gV _ (cF EG) (fun o w z_=>BS N ([c,n]) _ e z_.view u ((Av x (Ai (Ls:=[(Mc m x_0 x_1 x_2v x_3v x_4 x_5),v]) (k:=1) rfl rfl)) o w z_))<|rz rfl ?_
  cases a
  exact aR eV1
 refine Ab<|t _ _ ?_
 refine Ad<|rm 4 [0] rfl<|kC a fun f a=>rX f rfl<|rn 1 rfl<|kB a fun y g a=>rc _ (cF Dg) (AO N x_5 (at'+1) end' _ g)<|kB a fun h i a=>rc _ (cF Bg) (Ax N y 12 _ i)<|gB (Ls:=[(Mc m x_0 x_1 x_2v x_3v x_4 x_5)]) 46 BJ [n,h] (fun z A B=> ?_)
 refine kB a fun E j a=>gV _ (cF EG) (fun o w z_=>BS N ([n,h]) _ j z_.view z ((Av B (Ai (Ls:=[(Mc m x_0 x_1 x_2v x_3v x_4 x_5),A]) (k:=1) rfl rfl)) o w z_))<|rz rfl ?_
 cases a
 exact aR eV1
def Mp(N:Nat)(i:Int)(c:Int)(e:Int)(b:List (Int×Int×Int×Int×BitVec 128))(a:List (Int×BitVec 128))(f:Int)(d:Int)(g:An)(j:List (Int×Int×(List (Int×Int×Int×Int×BitVec 128))×(List (Int×BitVec 128))×Int×Int)):Option Int:=(HA N g c e b a f d).bind fun m=>(HY N g c e b a f d).bind fun n=>(HZ N g c e b a f d).bind fun l=>(Hx N c e b a f d i (j.length:Int)).bind fun h=>(AP N ([m,n,l,h])).bind fun k=>some k
theorem UW(N i x_0 x_1 x_2 x_3 x_4 x_5 a h r)(g:Mp N i x_0 x_1 x_2 x_3 x_4 x_5 a h=some r)(ro x_2v)(hx_2:Rd Ac9 ro x_2v x_2)(x_3v)(hx_3:Rd Ac8 ro x_3v x_3)(q:Nat)(b:Ay)(j:Aa2 ro b a)(d:Blk ro q (Gl a b))(s:Nat)(e)(v:RdN Ad2 ro e h)(t:Blk ro s [e]):DoesI prog 199 #[vI i,vA #[vI x_0,vI x_1,x_2v,x_3v,vI x_4,vI x_5],vP q 0,vP s 0] GC ro [] (pV (vI r)):=by
 unfold Mp at g
 refine AW follows func199 rfl 23 rfl _ fz4 Be (fun B=> ?_)
 refine Ad<|rA rfl fun J=>rz rfl<|Aa fun L C=> ?_
 refine Bw [(some 9,false),(some 12,false),(some 15,false),(some 20,false),(some 21,false),(some 22,false)] (conG prog [(9,cV (HA N a x_0 x_1 x_2 x_3 x_4 x_5) fun c=>vI c),(12,cV (HY N a x_0 x_1 x_2 x_3 x_4 x_5) fun c=>vI c),(15,cV (HZ N a x_0 x_1 x_2 x_3 x_4 x_5) fun c=>vI c),(20,cV (Hx N x_0 x_1 x_2 x_3 x_4 x_5 i (h.length:Int)) fun c=>vI c),(22,fun _ _ v_ L_ U_=> ∀c,HA N a x_0 x_1 x_2 x_3 x_4 x_5=some c→ ∀x,HY N a x_0 x_1 x_2 x_3 x_4 x_5=some x→ ∀y,HZ N a x_0 x_1 x_2 x_3 x_4 x_5=some y→ ∀z,Hx N x_0 x_1 x_2 x_3 x_4 x_5 i (h.length:Int)=some z→ ∀A,AP N ([c,x,y,z])=some A→(pV (vI A)) v_ L_ U_)]) [] (by decide+kernel) (fun M=>AH) ?_
 refine GX (vA (Ac a b)) (vs:=(Gl a b)) (o:=0) rfl rfl (AQ d) rfl<|rm 1 [0] rfl<|kB g fun D m g=>rg _ (cF kP) (fun o w z_=>(Does.inv (SH N a x_0 x_1 x_2 x_3 x_4 x_5 _ m z_.view b (Aa2.mono z_.ro_cell j) x_2v (z_.r hx_2) x_3v (z_.r hx_3)) _)) (GB m)<|GX (vA (Ac a b)) (vs:=(Gl a b)) (o:=0) rfl rfl (AQ d) rfl<|rm 1 [0] rfl<|kB g fun E n g=>rg _ (cF kO) (fun o w z_=>Tv N a x_0 x_1 x_2 x_3 x_4 x_5 _ n z_.view b (Aa2.mono z_.ro_cell j) x_2v (z_.r hx_2) x_3v (z_.r hx_3)) (GB n)<|GX (vA (Ac a b)) (vs:=(Gl a b)) (o:=0) rfl rfl (AQ d) rfl<|rm 1 [0] rfl<|kB g fun F p g=>rg _ (cF kN) (fun o w z_=>(Does.inv (Tw N a x_0 x_1 x_2 x_3 x_4 x_5 _ p z_.view b (Aa2.mono z_.ro_cell j) x_2v (z_.r hx_2) x_3v (z_.r hx_3)) _)) (GB p)<|rm 2 [0] rfl<|GX e (vs:=[e]) (o:=0) rfl rfl (AQ t) rfl<|rL (RdN.shp v) rfl<|kB g fun u f g=>rg _ (cF kM) (fun o w z_=>(Does.inv (SD N x_0 x_1 x_2 x_3 x_4 x_5 i (h.length:Int) _ f z_.view x_2v (z_.r hx_2) x_3v (z_.r hx_3)) _)) (GB f) ?_
 refine IW (Ls:=[(Mc J x_0 x_1 x_2v x_3v x_4 x_5)]) 46 BJ [D,E,F,u] [vI D,vI E,vI F,vI u] [vI 0,vI 0,vI 0,vI 0] rfl rfl rfl rfl rfl rfl rfl (by kernel_rfl) (by kernel_rfl) rfl rfl rfl (fun G H I=> ?_)
 refine kB g fun K l g=>rg _ (cF EG) (fun o w z_=>(Does.inv (BS N ([D,E,F,u]) _ l z_.view G ((Av I (Ai (Ls:=[(Mc J x_0 x_1 x_2v x_3v x_4 x_5),H]) (k:=1) rfl rfl)) o w z_)) _)) (fun _ _ v_ L_ U_=>⟨fun h_=>h_ _ m _ n _ p _ f _ l,fun h_=>by intro _ e_;cases q1 (e_.symm.trans m);intro _ e_;cases q1 (e_.symm.trans n);intro _ e_;cases q1 (e_.symm.trans p);intro _ e_;cases q1 (e_.symm.trans f);intro _ e_;cases q1 (e_.symm.trans l);exact h_⟩) ?_
 refine rz rfl<|C _ _ ?_
 cases g
 exact aR eV1
def IY(N:Nat)(b:List (Int×Int×(List (Int×Int×Int×Int×BitVec 128))×(List (Int×BitVec 128))×Int×Int))(d:An)(c:List (Int×Int×(List (Int×Int×Int×Int×BitVec 128))×(List (Int×BitVec 128))×Int×Int)):Nat→Int→Option (Int×Int)
  |0,_=>none
  |f+1,a=>if a<(b.length:Int)then ck (0≤a∧a<(b.length:Int)) ((Mp N a (b[a.toNat]!.1) (b[a.toNat]!.2.1) (b[a.toNat]!.2.2.1) (b[a.toNat]!.2.2.2.1) (b[a.toNat]!.2.2.2.2.1) (b[a.toNat]!.2.2.2.2.2) d c).bind fun e=>if(e:Int)≠0 then some (a,e)else ck (R64 (a+1)) ((IY N b d c f) (a+1)))else some (0,0)
def OA(N:Nat)(d:List (Int×Int×(List (Int×Int×Int×Int×BitVec 128))×(List (Int×BitVec 128))×Int×Int))(c:Int)(a:An)(b:List (Int×Int×(List (Int×Int×Int×Int×BitVec 128))×(List (Int×BitVec 128))×Int×Int)):Option (Int×Int):=if(d.length:Int)>c then some (0,2)else IY N d a b N 0
theorem YB(N l' most e f r)(d:OA N l' most e f=some r)(ro l'v)(hl':RdN Ad2 ro l'v l')(b:Nat)(g:Ay)(n:Aa2 ro g e)(i:Blk ro b (Gl e g))(c:Nat)(h)(p:RdN Ad2 ro h f)(j:Blk ro c [h]):DoesI prog 198 #[l'v,vI most,vF 199 #[] #[vP b 0,vP c 0]] GC ro [] (pV (vT #[vI r.1,vI r.2])):=by
 unfold OA at d
 refine AW follows func198 rfl 31 rfl _ fz3 Be (fun D=> ?_)
 refine AZ rfl<|Aa fun M F=>Ad<|rn 1 rfl<|rL (RdN.shp hl') rfl<|rz rfl<|aD d rfl (fun G d=> ?_) (fun G d=> ?_)
 ·refine AZ rfl ?_
  cases d
  exact aR eV2
 refine Ab<|F _ _ ?_
 refine Aa fun O H=>Ad<|rn 1 rfl<|rL (RdN.shp hl') rfl<|rz rfl<|Ah<|AC (fun tt ll nn=> ∃(v:Nat) (a:Int),(IY N l' e f v a=some r)∧Is [(2,vF 199 #[] #[vP b 0,vP c 0]),(15,l'v),(16,vI (l'.length:Int)),(17,vI a)] [] tt ll∧nn=v+1) (N+1) ?_ ?_
 ·exact⟨N,0,d,Af rfl rfl,rfl⟩
 clear d;rintro t l _ ⟨v,a,d,⟨⟨T,rfl⟩,rfl⟩,rfl⟩
 rcases v with _|v
 ·exact absurd d (by simp [IY])
 rw [IY] at d
 refine AZ rfl<|Aa fun J x=>aD d rfl (fun y d=> ?_) (fun y d=> ?_)
 ·refine Ab<|x _ _ ?_
  refine Aa fun K z=>Ah<|Ad<|rn 1 rfl<|kC d fun q d=> ?_
  obtain⟨_,⟨k,m,s,u,rfl⟩,hat19⟩:=RdN.at (E:=Ad2) hl' (De q)
  refine rI (RdN.shp hl') q rfl<|MG (vA #[vI (l'[a.toNat]!.1),vI (l'[a.toNat]!.2.1),k,m,vI (l'[a.toNat]!.2.2.2.2.1),vI (l'[a.toNat]!.2.2.2.2.2)]) (vs:=[vI (l'[a.toNat]!.1),vI (l'[a.toNat]!.2.1),k,m,vI (l'[a.toNat]!.2.2.2.2.1),vI (l'[a.toNat]!.2.2.2.2.2)]) (a.toNat*6) 0 rfl rfl (fun o w z_=>At.mono z_.ro_cell hat19) rfl<|rA rfl fun I=>rn 1 rfl<|r_s (Mc I (l'[a.toNat]!.1) (l'[a.toNat]!.2.1) k m (l'[a.toNat]!.2.2.2.2.1) (l'[a.toNat]!.2.2.2.2.2)) 0 _ _ _ _ _ (#[vI (l'[a.toNat]!.1),vI (l'[a.toNat]!.2.1),k,m,vI (l'[a.toNat]!.2.2.2.2.1),vI (l'[a.toNat]!.2.2.2.2.2)]) rfl rfl rfl rfl (.ofS rfl rfl (Ae rfl (Ae rfl (Ae (Shp.one (Rd.shp s)) (Ae (Shp.one (Rd.shp u)) (Ae rfl (Ae rfl Bt))))))) rfl rfl<|Ak<|Ad<|rn 2 rfl ?_
  refine rm 1 [0] rfl<|kB d fun L A d=>gV _ (BG (caps:=[vP b 0,vP c 0]) rfl kQ rfl) (fun o w z_=>UW N a (l'[a.toNat]!.1) (l'[a.toNat]!.2.1) (l'[a.toNat]!.2.2.1) (l'[a.toNat]!.2.2.2.1) (l'[a.toNat]!.2.2.2.2.1) (l'[a.toNat]!.2.2.2.2.2) e f _ A z_.view k (z_.r s) m (z_.r u) b g (Aa2.mono z_.ro_cell n) (AQ i o w z_) c h (RdN.mono z_.ro_cell p) (AQ j o w z_))<|rz rfl<|AZ rfl ?_
  refine aN d rfl (fun B d=> ?_) (fun B d=> ?_)
  ·refine AZ rfl ?_
   cases d
   exact aR eV2
  refine Ab<|z _ _ ?_
  refine Ag<|kC d fun C d=>rX C rfl<|rz rfl<|fg _ (Sub.of (suC _ suN)) ?_
  exact⟨v+1,by omega,v,(a+1),d,Af rfl rfl,rfl⟩
 refine AD<|H _ _ ?_
 refine AZ rfl ?_
 cases d
 exact aR eV2
def LG(N:Nat)(c:An)(a:List (Int×Int×(List (Int×Int×Int×Int×BitVec 128))×(List (Int×BitVec 128))×Int×Int)):Option (Int×Int):=(OA N a 32 c a).bind fun b=>some (b.1,b.2)
theorem RJ(N c l' r)(a:LG N c l'=some r)(ro)(cv:Ay)(hc:Aa2 ro cv c)(l'v)(hl':RdN Ad2 ro l'v l'):DoesI prog 137 #[vA (Ac c cv),l'v] GC ro [] (pV (vT #[vI r.1,vI r.2])):=by
 unfold LG at a
 refine AW follows func137 rfl 11 rfl _ fz2 Be (fun b=> ?_)
 refine Ad<|rA rfl fun e=>r_a (28, #[l'v]) rfl rfl (MF rfl (RdN.shp hl')) (fun f=> ?_) (.inr rfl)
 refine rz rfl<|Ad<|rm 1 [0] rfl<|r_W (vF 199 #[] #[vP e 0,vP f 0]) rfl (HD rfl)<|kB a fun g d a=>gV _ (cF kR) (fun o w z_=>YB N l' 32 c l' _ d z_.view l'v (RdN.mono z_.ro_cell hl') e cv (Aa2.mono z_.ro_cell hc) (Cw 1 rfl rfl o w z_) f l'v (RdN.mono z_.ro_cell hl') (Cw 0 rfl rfl o w z_))<|rz rfl ?_
 cases a
 exact aR eV2
def Mq(N:Nat)(c:An):Option (Int×Int):=(LG N c c.2.2.2.2.2.2.2.1).bind fun a=>some (a.1,a.2)
theorem UZ(N c r)(a:Mq N c=some r)(ro)(cv:Ay)(hc:Aa2 ro cv c):DoesI prog 84 #[vA (Ac c cv)] GC ro [] (pV (vT #[vI r.1,vI r.2])):=by
 unfold Mq at a
 refine AW follows func84 rfl 11 rfl _ fz1 Be (fun b=> ?_)
 refine Ad<|rA rfl fun e=>rz rfl<|Ad<|rm 4 [0,0] rfl<|kB a fun f d a=>gV _ (cF bI) (fun o w z_=>RJ N c c.2.2.2.2.2.2.2.1 _ d z_.view cv (Aa2.mono z_.ro_cell hc) cv.2.2.2.2.2.2.1 (RdN.mono z_.ro_cell hc.2.2.2.2.2.2.1))<|rz rfl ?_
 cases a
 exact aR eV2
def Nv(N:Nat)(c:An):Option (Int×Int):=(LG N c c.2.2.2.2.2.2.2.2.1).bind fun a=>some (a.1,a.2)
theorem Wz(N c r)(a:Nv N c=some r)(ro)(cv:Ay)(hc:Aa2 ro cv c):DoesI prog 85 #[vA (Ac c cv)] GC ro [] (pV (vT #[vI r.1,vI r.2])):=by
 unfold Nv at a
 refine AW follows func85 rfl 11 rfl _ fz1 Be (fun b=> ?_)
 refine Ad<|rA rfl fun e=>rz rfl<|Ad<|rm 4 [0,0] rfl<|kB a fun f d a=>gV _ (cF bI) (fun o w z_=>RJ N c c.2.2.2.2.2.2.2.2.1 _ d z_.view cv (Aa2.mono z_.ro_cell hc) cv.2.2.2.2.2.2.2.1 (RdN.mono z_.ro_cell hc.2.2.2.2.2.2.2.1))<|rz rfl ?_
 cases a
 exact aR eV2
def Kx(N:Nat)(i:Int)(a:Int)(b:An):Option Int:=(Ht N b a).bind fun e=>(Ao N e 5).bind fun g=>ck (0≤i∧i≤(b.2.2.2.2.2.2.2.2.2.1.length:Int)) ((BE N (((b.2.2.2.2.2.2.2.2.2.1).take (i.toNat)).drop 0) a).bind fun f=>(Ao N (!(f)) 6).bind fun c=>(AP N ([g,c])).bind fun d=>some d)
theorem SK(N i slot b r)(c:Kx N i slot b=some r)(ro)(m:Nat)(a:Ay)(e:Aa2 ro a b)(f:Blk ro m (Gl b a)):Does prog 139 #[vI i,vI slot,vP m 0] ro [] (pV (vI r)):=by
 unfold Kx at c
 refine Aj follows func139 rfl 22 rfl _ fz3 (fun x=> ?_)
 refine AZ rfl<|Aa fun G y=> ?_
 refine Bw [(some 9,false),(some 17,false),(some 20,false),(some 21,false)] (conG prog [(9,cV (Ht N b slot) fun d=>vB d),(17,cV (BE N (((b.2.2.2.2.2.2.2.2.2.1).take (i.toNat)).drop 0) slot) fun d=>vB d),(21,fun _ _ v_ L_ U_=> ∀d,Ht N b slot=some d→ ∀q,Ao N d 5=some q→ ∀s,BE N (((b.2.2.2.2.2.2.2.2.2.1).take (i.toNat)).drop 0) slot=some s→ ∀t,Ao N (!(s)) 6=some t→ ∀u,AP N ([q,t])=some u→(pV (vI u)) v_ L_ U_)]) [] (by decide+kernel) (fun H=>AH) ?_
 refine rn 1 rfl<|GX (vA (Ac b a)) (vs:=(Gl b a)) (o:=0) rfl rfl (AQ f) rfl<|rn 1 rfl<|kB c fun D j c=>rg _ (cF VL) (fun o w z_=>MZ N b slot _ j z_.view a (Aa2.mono z_.ro_cell e)) (GB j)<|kB c fun z n c=>rc _ (cF Bg) (Ax N D 5 _ n)<|rn 2 rfl<|GX a.2.2.2.2.2.2.2.2.1 (vs:=(Gl b a)) (o:=9) rfl rfl (AQ f) rfl<|rn 1 rfl<|kC c fun v c=>r_W (Fy a.2.2.2.2.2.2.2.2.1 0 (i.toNat) 1) rfl (ET (HC rfl rfl rfl rfl (Rd.shp e.2.2.2.2.2.2.2.2.1) v))<|rn 1 rfl<|kB c fun E l c=>rg _ (cF VI) (fun o w z_=>Hu N (((b.2.2.2.2.2.2.2.2.2.1).take (i.toNat)).drop 0) slot _ l z_.view (Fy a.2.2.2.2.2.2.2.2.1 0 (i.toNat) 1) ((Ol (Au e.2.2.2.2.2.2.2.2.1) (Nat.zero_le _) (GD v.2)) o w z_)) (GB l)<|rn 1 rfl<|kB c fun p g c=>rc _ (cF Bg) (Ax N (!(E)) 6 _ g) ?_
 refine IW (Ls:=[]) 46 BJ [z,p] [vI z,vI p] [vI 0,vI 0] rfl rfl rfl rfl rfl rfl rfl (by kernel_rfl) (by kernel_rfl) rfl rfl rfl (fun A B C=> ?_)
 refine kB c fun F h c=>rg _ (cF EG) (fun o w z_=>BS N ([z,p]) _ h z_.view A ((Av C (Ai (Ls:=[B]) (k:=0) rfl rfl)) o w z_)) (fun _ _ v_ L_ U_=>⟨fun h_=>h_ _ j _ n _ l _ g _ h,fun h_=>by intro _ e_;cases q1 (e_.symm.trans j);intro _ e_;cases q1 (e_.symm.trans n);intro _ e_;cases q1 (e_.symm.trans l);intro _ e_;cases q1 (e_.symm.trans g);intro _ e_;cases q1 (e_.symm.trans h);exact h_⟩) ?_
 refine rz rfl<|y _ _ ?_
 cases c
 exact aR eV1
def JJ(N:Nat)(c:List Int)(b:An):Nat→Int→Option (Int×Int)
  |0,_=>none
  |e+1,a=>if a<(c.length:Int)then ck (0≤a∧a<(c.length:Int)) ((Kx N a (c[a.toNat]!) b).bind fun d=>if(d:Int)≠0 then some (a,d)else ck (R64 (a+1)) ((JJ N c b e) (a+1)))else some (0,0)
def PC(N:Nat)(c:List Int)(b:Int)(a:An):Option (Int×Int):=if(c.length:Int)>b then some (0,2)else JJ N c a N 0
theorem an(N l' most c r)(b:PC N l' most c=some r)(ro l'v)(hl':Rd BJ ro l'v l')(a:Nat)(d:Ay)(g:Aa2 ro d c)(f:Blk ro a (Gl c d)):Does prog 138 #[l'v,vI most,vF 139 #[] #[vP a 0]] ro [] (pV (vT #[vI r.1,vI r.2])):=by
 unfold PC at b
 refine Aj follows func138 rfl 31 rfl _ fz3 (fun s=> ?_)
 refine AZ rfl<|Aa fun B u=>Ad<|rn 1 rfl<|rL (Rd.shp hl') rfl<|rz rfl<|aD b rfl (fun v b=> ?_) (fun v b=> ?_)
 ·refine AZ rfl ?_
  cases b
  exact aR eV2
 refine Ab<|u _ _ ?_
 refine Aa fun C x=>Ad<|rn 1 rfl<|rL (Rd.shp hl') rfl<|rz rfl<|Ah<|AC (fun tt ll nn=> ∃(i:Nat) (e:Int),(JJ N l' c i e=some r)∧Is [(2,vF 139 #[] #[vP a 0]),(15,l'v),(16,vI (l'.length:Int)),(17,vI e)] [] tt ll∧nn=i+1) (N+1) ?_ ?_
 ·exact⟨N,0,b,Af rfl rfl,rfl⟩
 clear b;rintro t l _ ⟨i,e,b,⟨⟨T,rfl⟩,rfl⟩,rfl⟩
 rcases i with _|i
 ·exact absurd b (by simp [JJ])
 rw [JJ] at b
 refine AZ rfl<|Aa fun y j=>aD b rfl (fun k b=> ?_) (fun k b=> ?_)
 ·refine Ab<|j _ _ ?_
  refine Aa fun z m=>Ah<|Ad<|rn 1 rfl<|kC b fun h b=>rI (Rd.shp hl') h rfl<|rE (Au hl') h 0 rfl<|rz rfl<|Ad<|rn 3 rfl<|kB b fun A n b=>gV _ (BG (caps:=[vP a 0]) rfl lM rfl) (fun o w z_=>SK N e (l'[e.toNat]!) c _ n z_.view a d (Aa2.mono z_.ro_cell g) (AQ f o w z_))<|rz rfl<|AZ rfl<|aN b rfl (fun p b=> ?_) (fun p b=> ?_)
  ·refine AZ rfl ?_
   cases b
   exact aR eV2
  refine Ab<|m _ _ ?_
  refine Ag<|kC b fun q b=>rX q rfl<|rz rfl<|fg _ (Sub.of suN) ?_
  exact⟨i+1,by omega,i,(e+1),b,Af rfl rfl,rfl⟩
 refine AD<|x _ _ ?_
 refine AZ rfl ?_
 cases b
 exact aR eV2
def Ms(N:Nat)(c:An):Option (Int×Int):=(PC N c.2.2.2.2.2.2.2.2.2.1 32 c).bind fun a=>some (a.1,a.2)
theorem Vb(N c r)(a:Ms N c=some r)(ro)(cv:Ay)(hc:Aa2 ro cv c):Does prog 86 #[vA (Ac c cv)] ro [] (pV (vT #[vI r.1,vI r.2])):=by
 unfold Ms at a
 refine Aj follows func86 rfl 11 rfl _ fz1 (fun b=> ?_)
 refine Ad<|rA rfl fun e=>rz rfl<|Ad<|rm 3 [0] rfl<|r_W (vF 139 #[] #[vP e 0]) rfl (HD rfl)<|kB a fun f d a=>gV _ (cF RW) (fun o w z_=>an N c.2.2.2.2.2.2.2.2.2.1 32 c _ d z_.view cv.2.2.2.2.2.2.2.2.1 ((Au hc.2.2.2.2.2.2.2.2.1) o w z_) e cv (Aa2.mono z_.ro_cell hc) (Cw 0 rfl rfl o w z_))<|rz rfl ?_
 cases a
 exact aR eV2
def MX(N:Nat)(_:List UInt8)(a:List (List UInt8×Int))(_:Int)(_:Int)(_:Int)(_:Int)(f:Int):Option (Int×Bool):=ck ((R64 ((a.length:Int) - 1))) ((FB N f 0 ((a.length:Int) - 1)).bind fun c=>if c=true then ck (0≤f∧f≤(a.length:Int)) ((Qf N (((a).take (f.toNat)).drop 0)).bind fun b=>some (b,true))else some (0,false))
theorem VY(N h_0 h_1 h_2 h_3 h_4 h_5 f r)(a:MX N h_0 h_1 h_2 h_3 h_4 h_5 f=some r)(ro h_1v)(hh_1:Rd Ab4 ro h_1v h_1):Does prog 207 #[vA #[vS h_0,h_1v,vI h_2,vI h_3,vI h_4,vI h_5],vI f] ro [] (pV (vT #[vI r.1,vB r.2])):=by
 unfold MX at a
 refine Aj follows func207 rfl 18 rfl _ fz2 (fun e=> ?_)
 refine Ad<|rA rfl fun k=>rz rfl<|Aa fun l g=>Ad<|rm 3 [0] rfl<|rL (Rd.shp hh_1) rfl<|kC a fun h a=>rX h rfl<|kB a fun m i a=>rc _ (cF KG) (Hr N f 0 ((h_1.length:Int) - 1) _ i)<|rz rfl<|Bv _ rfl (fun c=> ?_) (fun c=> ?_)
 ·replace a:=ifn (Bool.eq_false_iff.1 (CM c)) a
  refine AZ rfl ?_
  cases a
  exact aR eV2
 replace a:=ifp (CN c) a
 refine Ab<|g _ _ ?_
 refine Ad<|rm 3 [0] rfl<|kC a fun b a=>r_W (Fy h_1v 0 (f.toNat) 2) rfl (ET (HC rfl rfl rfl rfl (Rd.shp hh_1) b))<|kB a fun j d a=>gV _ (cF bB) (fun o w z_=>Xj N (((h_1).take (f.toNat)).drop 0) _ d z_.view (Fy h_1v 0 (f.toNat) 2) ((Ol (Au hh_1) (Nat.zero_le _) (GD b.2)) o w z_))<|rz rfl ?_
 cases a
 exact aR eV2
def Ns(N:Nat)(_:Int)(f:Int)(g:Int)(e:An):Option Int:=(MM N e f).bind fun a=>(MX N a.1 a.2.1 a.2.2.1 a.2.2.2.1 a.2.2.2.2.1 a.2.2.2.2.2.1 g).bind fun b=>(JI N e f g).bind fun c=>(Ao N c.2 5).bind fun d=>if c.1=16 then ck (0≤b.1∧b.1≤9223372036854775807) ((Ao N ((b.1%16:Int)==0) 9).bind fun i=>(AP N ([d,i])).bind fun j=>some j)else(Ao N false 9).bind fun k=>(AP N ([d,k])).bind fun h=>some h
theorem Ww(N x x_0 x_1 d r)(c:Ns N x x_0 x_1 d=some r)(ro)(h:Nat)(b:Ay)(i:Aa2 ro b d)(e:Blk ro h (Gl d b)):Does prog 206 #[vI x,vA #[vI x_0,vI x_1],vP h 0] ro [] (pV (vI r)):=by
 unfold Ns at c
 refine Aj follows func206 rfl 49 rfl _ fz3 (fun F=> ?_)
 refine Ad<|rA rfl fun n=>rz rfl<|Ad<|rn 1 rfl<|GX (vA (Ac d b)) (vs:=(Gl d b)) (o:=0) rfl rfl (AQ e) rfl<|rm 2 [0] rfl<|kB c fun a G c=>gS (Ls:=[(Mb n x_0 x_1)]) (cF bG) (fun o w z_=>Ta N d x_0 _ G z_.view b (Aa2.mono z_.ro_cell i)) (fun j q O=> ?_)
 refine rn 3 rfl<|rA rfl fun s=>r_s (List.flatten [(NQ s a.1 j a.2.2.1 a.2.2.2.1 a.2.2.2.2.1 a.2.2.2.2.2.1),(Mb n x_0 x_1),q]) 0 _ _ _ _ _ (#[vS a.1,j,vI a.2.2.1,vI a.2.2.2.1,vI a.2.2.2.2.1,vI a.2.2.2.2.2.1]) rfl rfl rfl rfl (.ofS rfl rfl (Ae rfl (Ae (Shp.one (Sl.shp O)) (Ae rfl (Ae rfl (Ae rfl (Ae rfl Bt))))))) rfl rfl<|rz rfl<|Ad<|rm 3 [0,1] rfl<|kB c fun p t c=>gV _ (cF kI) (fun o w z_=>VY N a.1 a.2.1 a.2.2.1 a.2.2.2.1 a.2.2.2.2.1 a.2.2.2.2.2.1 x_1 _ t z_.view j ((Av O (Ai (Ls:=[(NQ s a.1 j a.2.2.1 a.2.2.2.1 a.2.2.2.2.1 a.2.2.2.2.2.1),(Mb n x_0 x_1),q]) (k:=2) rfl rfl)) o w z_))<|rz rfl<|Ad<|rn 1 rfl<|GX (vA (Ac d b)) (vs:=(Gl d b)) (o:=0) rfl rfl (AQ e) rfl<|rn 1 rfl ?_
 refine rm 3 [1,1] rfl<|kB c fun f u c=>gV _ (cF Zf) (fun o w z_=>Oy N d x_0 x_1 _ u z_.view b (Aa2.mono z_.ro_cell i))<|rz rfl<|Gm [(8,vI p.1),(10,vI f.1),(11,vB f.2)] rfl (fun T=> ?_)
 refine Aa fun P l=>Ag<|rn 1 rfl<|kB c fun g v c=>rc _ (cF Bg) (Ax N f.2 5 _ v)<|rn 3 rfl ?_
 rcases m:(f.1==16)with _|_
 ·replace c:=iG m c
  refine rn 4 rfl<|kB c fun y z c=>rc _ (cF Bg) (Ax N false 9 _ z)<|gB (Ls:=[(NQ s a.1 j a.2.2.1 a.2.2.2.1 a.2.2.2.2.1 a.2.2.2.2.2.1),(Mb n x_0 x_1),q]) 46 BJ [g,y] (fun H I J=> ?_)
  refine kB c fun Q A c=>gV _ (cF EG) (fun o w z_=>BS N ([g,y]) _ A z_.view H ((Av J (Ai (Ls:=[(NQ s a.1 j a.2.2.1 a.2.2.2.1 a.2.2.2.2.1 a.2.2.2.2.2.1),(Mb n x_0 x_1),q,I]) (k:=3) rfl rfl)) o w z_))<|rz rfl<|l _ _ ?_
  cases c
  exact aR eV1
 replace c:=iE m c
 refine rn 1 rfl<|r_y rfl<|kC c fun B c=>r_X (vI (p.1%16)) rfl (Rr B.1) rfl<|rn 2 rfl<|kB c fun C D c=>rc _ (cF Bg) (Ax N ((p.1%16:Int)==0) 9 _ D)<|gB (Ls:=[(NQ s a.1 j a.2.2.1 a.2.2.2.1 a.2.2.2.2.1 a.2.2.2.2.2.1),(Mb n x_0 x_1),q]) 46 BJ [g,C] (fun K L M=> ?_)
 refine kB c fun R E c=>gV _ (cF EG) (fun o w z_=>BS N ([g,C]) _ E z_.view K ((Av M (Ai (Ls:=[(NQ s a.1 j a.2.2.1 a.2.2.2.1 a.2.2.2.2.1 a.2.2.2.2.2.1),(Mb n x_0 x_1),q,L]) (k:=3) rfl rfl)) o w z_))<|rz rfl<|l _ _ ?_
 cases c
 exact aR eV1
def JR(N:Nat)(c:List (Int×Int))(b:An):Nat→Int→Option (Int×Int)
  |0,_=>none
  |e+1,a=>if a<(c.length:Int)then ck (0≤a∧a<(c.length:Int)) ((Ns N a ((c[a.toNat]!).1) ((c[a.toNat]!).2) b).bind fun d=>if(d:Int)≠0 then some (a,d)else ck (R64 (a+1)) ((JR N c b e) (a+1)))else some (0,0)
def PJ(N:Nat)(c:List (Int×Int))(b:Int)(a:An):Option (Int×Int):=if(c.length:Int)>b then some (0,2)else JR N c a N 0
theorem ay(N l' most c r)(b:PJ N l' most c=some r)(ro l'v)(hl':Rd Ae3 ro l'v l')(a:Nat)(d:Ay)(g:Aa2 ro d c)(f:Blk ro a (Gl c d)):Does prog 205 #[l'v,vI most,vF 206 #[] #[vP a 0]] ro [] (pV (vT #[vI r.1,vI r.2])):=by
 unfold PJ at b
 refine Aj follows func205 rfl 31 rfl _ fz3 (fun s=> ?_)
 refine AZ rfl<|Aa fun C u=>Ad<|rn 1 rfl<|rL (Rd.shp hl') rfl<|rz rfl<|aD b rfl (fun v b=> ?_) (fun v b=> ?_)
 ·refine AZ rfl ?_
  cases b
  exact aR eV2
 refine Ab<|u _ _ ?_
 refine Aa fun D x=>Ad<|rn 1 rfl<|rL (Rd.shp hl') rfl<|rz rfl<|Ah<|AC (fun tt ll nn=> ∃(i:Nat) (e:Int),(JR N l' c i e=some r)∧Is [(2,vF 206 #[] #[vP a 0]),(15,l'v),(16,vI (l'.length:Int)),(17,vI e)] [] tt ll∧nn=i+1) (N+1) ?_ ?_
 ·exact⟨N,0,b,Af rfl rfl,rfl⟩
 clear b;rintro t l _ ⟨i,e,b,⟨⟨T,rfl⟩,rfl⟩,rfl⟩
 rcases i with _|i
 ·exact absurd b (by simp [JR])
 rw [JR] at b
 refine AZ rfl<|Aa fun y j=>aD b rfl (fun k b=> ?_) (fun k b=> ?_)
 ·refine Ab<|j _ _ ?_
  refine Aa fun z m=>Ah<|Ad<|rn 1 rfl<|kC b fun h b=>rI (Rd.shp hl') h rfl<|rE (Au hl') h 0 rfl<|rA rfl fun A=>ry [0] rfl<|Ad<|rm 3 [0] rfl<|kB b fun B n b=>gV _ (BG (caps:=[vP a 0]) rfl kJ rfl) (fun o w z_=>Ww N e ((l'[e.toNat]!).1) ((l'[e.toNat]!).2) c _ n z_.view a d (Aa2.mono z_.ro_cell g) (AQ f o w z_))<|rz rfl<|AZ rfl<|aN b rfl (fun p b=> ?_) (fun p b=> ?_)
  ·refine AZ rfl ?_
   cases b
   exact aR eV2
  refine Ab<|m _ _ ?_
  refine Ag<|kC b fun q b=>rX q rfl<|rz rfl<|fg _ (Sub.of (suC _ suN)) ?_
  exact⟨i+1,by omega,i,(e+1),b,Af rfl rfl,rfl⟩
 refine AD<|x _ _ ?_
 refine AZ rfl ?_
 cases b
 exact aR eV2
end Go.Proofs.YthmpbldidnmenaaGreatDoor
