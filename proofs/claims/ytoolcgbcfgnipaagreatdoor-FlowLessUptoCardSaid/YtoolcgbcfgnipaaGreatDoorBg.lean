import Derived.Test.YtoolcgbcfgnipaaGreatDoorBf
namespace Go.Proofs.YtoolcgbcfgnipaaGreatDoor
open Go Go.RowKit Go.Eng _root_.Go.Proofs.Tryz
set_option linter.unusedSimpArgs false
set_option linter.unusedVariables false
set_option maxRecDepth 100000
set_option maxHeartbeats 80000000
abbrev Qw(b:Nat)(x0:Value):List Bl:=[(b,83, #[x0])]
abbrev SL(b:Nat)(x0:Int):List Bl:=[(b,3, #[vI x0])]
abbrev RJ(b:Nat)(x0:BitVec 64)(x1:BitVec 64):List Bl:=[(b,326, #[U x0,U x1])]
abbrev RK(b:Nat)(x0:Int)(x1:BitVec 64)(x2:BitVec 64)(x3:Int)(x4:BitVec 64)(x5:BitVec 64)(x6:Int):List Bl:=[(b,246, #[vI x0,U x1,U x2,vI x3,U x4,U x5,vI x6])]
abbrev ax(b:Nat)(x0:Int)(x1:Int)(x2:Int):List Bl:=[(b,310, #[vI x0,vI x1,vI x2])]
abbrev ay(b:Nat)(x0:Int):List Bl:=[(b,275, #[vI x0])]
abbrev KB(b:Nat)(x0:List UInt8)(x1:Value)(x2:Value)(x3:Value)(x4:Int):List Bl:=[(b,86, #[vS x0,x1,x2,x3,vI x4])]
abbrev UP(b:Nat)(x0:Value):List Bl:=[(b,192, #[x0])]
abbrev az(b:Nat)(x0:Value):List Bl:=[(b,118, #[x0])]
abbrev UQ(b:Nat)(x0:List UInt8)(x1:Value)(x2:Value):List Bl:=[(b,172, #[vS x0,x1,x2])]
abbrev Xk(b:Nat)(x0:Int)(x1:Int):List Bl:=[(b,222, #[vI x0,vI x1])]
abbrev jY(b:Nat)(x0:Int)(x1:Int)(x2:Int)(x3:Int)(x4:BitVec 64)(x5:BitVec 64):List Bl:=[(b,53, #[vI x0,vI x1,vI x2,vI x3,U x4,U x5])]
def HS(N:Nat)(m:Ao)(i:Int):Option (Int×Bool):=(Az N i 0 7).bind fun b=>if b=true then ck (0≤i∧i<8) (some ((Gv[i.toNat]!),true))else ck ((R64 (8+(m.2.2.2.1.length:Int)))) (ck ((R64 ((8+(m.2.2.2.1.length:Int)) - 1))) ((Az N i 8 ((8+(m.2.2.2.1.length:Int)) - 1)).bind fun a=>if a=true then ck (R64 (i - 8)) (ck (0≤(i - 8)∧(i - 8)<(m.2.2.2.1.length:Int)) (some (((m.2.2.2.1)[((i - 8)).toNat]!).2,true)))else some (0,false)))
theorem Tn(N m i r)(a:HS N m i=some r)(ro)(mv:AD)(hm:Aa1 ro mv m):DoesI prog 58 #[vA (Ac m mv),vI i] Ie ro [] (pV (vT #[vI r.1,vB r.2])):=by
 unfold HS at a
 refine AX follows func58 rfl 27 rfl _ fz2 Bg (fun o=> ?_)
 refine Ad<|rA rfl fun w=>rz rfl<|Aa fun x p=>Ai<|Ad<|rn 1 rfl<|kB a fun y q a=>rc _ (cF EV) (AP N i 0 7 _ q)<|rz rfl<|aB a rfl (fun s a=> ?_) (fun s a=> ?_)
 ·refine Ad<|rn 1 rfl<|kC a fun u a=> ?_
  have e:=fun c=>Ef (RV (P:=prog) (c:=c) (t:=213) (b:=0) (off:=0) (k:= .i64) rfl rfl rfl u)
  simp only [q6] at e
  have f:i.toNat<8:=by omega
  refine r_W (Value.pointer (some ⟨0,i.toNat,none⟩)) rfl (e _)<|cB 11<|uz (vI (Gv[i.toNat]!)) rfl rfl rfl rfl rfl (fun _ h_=>QI h_ _ f) (fun _ _ _ _ _=>Iff.rfl)<|rz rfl ?_
  cases a
  exact aR eV2
 refine Ad<|rm 3 [0] rfl<|rL (Rd.shp hm.2.2.1) rfl<|kC a fun g a=>rX g rfl<|kC a fun h a=>rX h rfl<|kB a fun v j a=>rc _ (cF EV) (AP N i 8 ((8+(m.2.2.2.1.length:Int)) - 1) _ j)<|rz rfl<|aB a rfl (fun l a=> ?_) (fun l a=> ?_)
 ·refine Ad<|rm 3 [0] rfl<|kC a fun n a=>rX n rfl<|kC a fun d a=>rI (Rd.shp hm.2.2.1) d rfl<|rF (Rd.shp hm.2.2.1) (Be d) rfl<|rE (Aw hm.2.2.1) d 1 rfl<|rz rfl ?_
  cases a
  exact aR eV2
 refine Ab<|p _ _ ?_
 refine AZ rfl ?_
 cases a
 exact aR eV2
def Hj(N:Nat)(m:Ao)(a:Int)(d:Int)(c:Int):Option (Int×Bool):=if a=0 then(GD N m d c).bind fun e=>some (e.1,e.2)else if a=1 then(HS N m d).bind fun b=>some (b.1,b.2)else if a=2 then some (c,true)else some (0,false)
theorem OM(N m k_0 k_1 k_2 r)(a:Hj N m k_0 k_1 k_2=some r)(ro)(mv:AD)(hm:Aa1 ro mv m):DoesI prog 248 #[vA (Ac m mv),vA #[vI k_0,vI k_1,vI k_2]] Ie ro [] (pV (vT #[vI r.1,vB r.2])):=by
 unfold Hj at a
 refine AX follows func248 rfl 30 rfl _ fz2 Bg (fun f=> ?_)
 refine Ad<|rA rfl fun j=>rA rfl fun k=>rz rfl<|Aa fun l g=>AY [0] rfl<|Ai<|AZ rfl<|aE a rfl (fun h a=> ?_) (fun h a=> ?_)
 ·refine Ad<|rm 5 [1,0,0] rfl<|kB a fun n b a=>gV _ (cF Zu) (fun o w z_=>(Does.inv (Pk N m k_1 k_2 _ b z_.view mv (Aa1.mono z_.ro_cell hm)) _))<|rz rfl ?_
  cases a
  exact aR eV2
 refine AZ rfl<|aE a rfl (fun c a=> ?_) (fun c a=> ?_)
 ·refine Ad<|rm 3 [1,0] rfl<|kB a fun i d a=>gV _ (cF fK) (fun o w z_=>Tn N m k_1 _ d z_.view mv (Aa1.mono z_.ro_cell hm))<|rz rfl ?_
  cases a
  exact aR eV2
 refine AZ rfl<|aE a rfl (fun e a=> ?_) (fun e a=> ?_)
 ·refine AY [0] rfl ?_
  cases a
  exact aR eV2
 refine Ab<|g _ _ ?_
 refine AZ rfl ?_
 cases a
 exact aR eV2
def IG(N:Nat)(m:Ao)(d:List (Int×Int×Int)):Nat→Int→Int→Option (Int×Bool)
  |0,_,_=>none
  |f+1,a,b=>if b<(d.length:Int)then ck (0≤b∧b<(d.length:Int)) ((Hj N m ((d[b.toNat]!).1) ((d[b.toNat]!).2.1) ((d[b.toNat]!).2.2)).bind fun c=>if c.2=true then ck (R64 (128 - a)) ((Az N c.1 1 (128 - a)).bind fun e=>if e=true then ck (R64 (a+c.1)) (ck (R64 (b+1)) ((IG N m d f) (a+c.1) (b+1)))else some (0,false))else some (0,false))else some (a,true)
def Nl(N:Nat)(m:Ao)(a:List (Int×Int×Int)):Option (Int×Bool):=IG N m a N 0 0
theorem UU(N m l' r)(b:Nl N m l'=some r)(ro)(mv:AD)(hm:Aa1 ro mv m)(l'v)(hl':Rd Ac9 ro l'v l'):DoesI prog 220 #[vA (Ac m mv),l'v] Ie ro [] (pV (vT #[vI r.1,vB r.2])):=by
 unfold Nl at b
 refine AX follows func220 rfl 37 rfl _ fz2 Bg (fun v=> ?_)
 refine Ad<|rA rfl fun A=>rz rfl<|AZ rfl<|Aa fun G x=>Ad<|rn 1 rfl<|rL (Rd.shp hl') rfl<|rz rfl<|Ai<|AH (fun tt ll nn=> ∃(h:Nat) (a:Int) (c:Int),(IG N m l' h a c=some r)∧Is [(2,vP A 0),(6,vI a),(11,l'v),(12,vI (l'.length:Int)),(13,vI c)] [(A,35,(Ac m mv))] tt ll∧nn=h+1) (N+1) ?_ ?_
 ·exact⟨N,0,0,b,Ah rfl rfl,rfl⟩
 clear b;rintro t l _ ⟨h,a,c,b,⟨⟨T,rfl⟩,rfl⟩,rfl⟩
 rcases h with _|h
 ·exact absurd b (by simp [IG])
 rw [IG] at b
 refine AZ rfl<|Aa fun H y=>aD b rfl (fun z b=> ?_) (fun z b=> ?_)
 ·refine Ab<|y _ _ ?_
  refine Aa fun B j=>Ai<|Ad<|kC b fun f b=>rI (Rd.shp hl') f rfl<|rE (Aw hl') f 0 rfl<|rA rfl fun C=>ry [0] rfl<|Ad<|rm 2 [1,0] rfl<|kB b fun i k b=>gV _ (cF bO) (fun o w z_=>OM N m ((l'[c.toNat]!).1) ((l'[c.toNat]!).2.1) ((l'[c.toNat]!).2.2) _ k z_.view mv (Aa1.mono z_.ro_cell hm))<|rz rfl<|Aa fun D n=>Aa fun E g=>Ag<|rn 3 rfl ?_
  rcases d:(!(i.2))with _|_
  ·replace b:=ifp (Db d) b
   refine rn 2 rfl<|r_y rfl<|kC b fun p b=>rX p rfl<|r_y rfl<|kB b fun F q b=>rc _ (cF EV) (AP N i.1 1 (128 - a) _ q)<|rz rfl<|g _ _ ?_
   refine Bf _ rfl (fun e=> ?_) (fun e=> ?_)
   ·replace b:=ifn (Bool.eq_false_iff.1 (Da e)) b
    refine AZ rfl<|GQ [(4,vI 0),(5,vB false)] rfl (fun T=> ?_)
    cases b
    exact aR eV2
   replace b:=ifp (Db e) b
   refine Ab<|n _ _ ?_
   refine Ag<|rn 2 rfl<|kC b fun s b=>rX s rfl<|rz rfl<|j _ _ ?_
   refine Ag<|kC b fun u b=>rX u rfl<|rz rfl<|fg _ (Sub.of (suC _ (suK _ suN))) ?_
   exact⟨h+1,by omega,h,(a+i.1),(c+1),b,Ah (by first|rfl|(simp only [d];done)|(simp only [d];rfl)|(simp only [Bo];rfl)) rfl,rfl⟩
  replace b:=ifn (Bool.eq_false_iff.1 (Da d)) b
  refine rz rfl<|g _ _ ?_
  refine MP rfl ?_
  refine AZ rfl<|GQ [(4,vI 0),(5,vB false)] rfl (fun T=> ?_)
  cases b
  exact aR eV2
 refine AI<|x _ _ ?_
 refine AZ rfl ?_
 cases b
 exact aR eV2
def Ib(N:Nat)(c:Ao)(a:List (Int×Int×Int)):Option Int:=(Nl N c a).bind fun b=>some b.1
theorem WI(N c key r)(e:Ib N c key=some r)(ro)(cv:AD)(hc:Aa1 ro cv c)(keyv)(hkey:Rd Ac9 ro keyv key):DoesI prog 166 #[vA (Ac c cv),keyv] Ie ro [] (pO [] (oB 83 #[keyv] fun b_0=>(oB 3 #[vI r] fun b_1=>(oB 90 (Ac c cv) fun b_2=>(oE (vF 221 #[] #[vP b_0 0,vP b_1 0,vP b_2 0]) []))))):=by
 unfold Ib at e
 refine Eg follows func166 rfl 15 rfl _ fz2 Bg (fun f=> ?_)
 refine Ad<|rA rfl fun a=>r_a (83, #[keyv]) rfl rfl (NA rfl (Rd.shp hkey)) (fun b=> ?_) (.inr rfl)
 refine rz rfl<|Ad<|rm 3 [1,0] rfl<|kB e fun h g e=>gV _ (cF bP) (fun o w z_=>UU N c key _ g z_.view cv (Aa1.mono z_.ro_cell hc) keyv (z_.r hkey))<|rn 3 rfl<|rA rfl fun d=>ry [0] rfl<|Ad<|r_W (vF 221 #[] #[vP b 0,vP d 0,vP a 0]) rfl (IA rfl)<|rz rfl ?_
 cases e
 refine Bb (fun i=>GP (v0:=vF 221 #[] #[vP b 0,vP d 0,vP a 0]) (O:=[(Qw b keyv),(SL d h.1),[(a,90,(Ac c cv))]]) (EJ rfl) (Sub.pick [(SL d h.1),(Qw b keyv),[(a,90,(Ac c cv))]] [1,0,2] rfl) ⟨b,_,⟨d,_,⟨a,_,⟨rfl,rfl⟩,rfl⟩,rfl⟩,rfl⟩)
def Ju(_:Nat)(_:Int)(a:BitVec 128):Option (BitVec 128):=some a
theorem QS(N v_0 v_1 r)(b:Ju N v_0 v_1=some r):Gives prog 223 #[vA #[vI v_0,U (hi v_1),U (lo v_1)]] (vA #[U (hi r),U (lo r)]):=by
 unfold Ju at b
 refine Av follows func223 rfl 8 rfl _ fz1 (fun a=> ?_)
 refine Ad<|rA rfl fun c=>rA rfl fun e=>Af<|Ad<|r_V (vP c 1) rfl<|rl (U (hi v_1)) 1<|r_V (vP c 2) rfl<|rl (U (lo v_1)) 1<|r_W (vA #[U (hi v_1),U (lo v_1)]) rfl (Ap rfl rfl rfl rfl)<|ry [0] rfl ?_
 cases b
 refine Bb (fun d=>EC (v0:=vA #[U (hi v_1),U (lo v_1)]) rfl (EJ (Bh d 0 rfl rfl rfl)))
def OU(_:Nat)(a:BitVec 128):Option (BitVec 128):=some ((~~~(hi a))++(~~~(lo a)))
theorem cQ(N a r)(c:OU N a=some r):Gives prog 224 #[vA #[U (hi a),U (lo a)]] (vA #[U (hi r),U (lo r)]):=by
 unfold OU at c
 refine Av follows func224 rfl 10 rfl _ fz1 (fun b=> ?_)
 refine Ad<|rA rfl fun e=>rA rfl fun f=>Af<|Ad<|rm 2 [1] rfl<|r_X (U (~~~(hi a))) rfl (ss (hi a)) rfl<|rm 2 [1] rfl<|r_X (U (~~~(lo a))) rfl (ss (lo a)) rfl<|r_W (vA #[U (~~~(hi a)),U (~~~(lo a))]) rfl (Ap rfl rfl rfl rfl)<|ry [0] rfl ?_
 cases c
 refine Bb (fun d=>EC (v0:=vA #[U (~~~(hi a)),U (~~~(lo a))]) (by first|rfl|(simp only [Bo];done)|simp only [Bo]) (EJ (Bh d 0 rfl rfl rfl)))
def OV(_:Nat)(a:BitVec 128)(b:BitVec 128):Option (BitVec 128):=some ((hi a&&&hi b)++(lo a&&&lo b))
theorem cR(N a b r)(d:OV N a b=some r):Gives prog 222 #[vA #[U (hi a),U (lo a)],vA #[U (hi b),U (lo b)]] (vA #[U (hi r),U (lo r)]):=by
 unfold OV at d
 refine Av follows func222 rfl 16 rfl _ fz2 (fun c=> ?_)
 refine Ad<|rA rfl fun f=>rA rfl fun g=>rA rfl fun h=>Af<|Ad<|rm 4 [2,1] rfl<|r_X (U (hi a&&&hi b)) rfl (VW (hi a) (hi b)) rfl<|rm 4 [2,1] rfl<|r_X (U (lo a&&&lo b)) rfl (VW (lo a) (lo b)) rfl<|r_W (vA #[U (hi a&&&hi b),U (lo a&&&lo b)]) rfl (Ap rfl rfl rfl rfl) ?_
 refine ry [0] rfl ?_
 cases d
 refine Bb (fun e=>EC (v0:=vA #[U (hi a&&&hi b),U (lo a&&&lo b)]) (by first|rfl|(simp only [Bo];done)|simp only [Bo]) (EJ (Bh e 0 rfl rfl rfl)))
def Jt(_:Nat)(w:Int):Option Bool:=if w≥1 then some (decide (w≤128))else some false
theorem Ua(N w r)(a:Jt N w=some r):Gives prog 238 #[vI w] (vB r):=by
 unfold Jt at a
 refine Av follows func238 rfl 9 rfl _ fz1 (fun d=> ?_)
 refine AZ rfl<|Aa fun e b=>Ag<|rn 3 rfl ?_
 rcases c:(decide (w≥1))with _|_
 ·replace a:=iF c a
  refine rz rfl<|b _ _ ?_
  cases a
  exact aR eE1
 replace a:=iD c a
 refine rz rfl<|b _ _ ?_
 cases a
 exact aR eE1
def MQ(N:Nat)(a:Int)(b:BitVec 128):Option Bool:=(Jt N a).bind fun c=>if c=true then(Ju N a b).bind fun d=>some (decide ((((len128 d:Nat):Int):Int)≤a))else some false
theorem WP(N v_0 v_1 r)(a:MQ N v_0 v_1=some r):Gives prog 201 #[vA #[vI v_0,U (hi v_1),U (lo v_1)]] (vB r):=by
 unfold MQ at a
 refine Av follows func201 rfl 14 rfl _ fz1 (fun d=> ?_)
 refine Ad<|rA rfl fun i=>rz rfl<|Aa fun j b=>IE [] (by decide+kernel) (fun k=>AQ)<|rm 2 [0] rfl<|kB a fun g e a=>rc _ (cF lI) (Ua N v_0 _ e)<|rn 1 rfl ?_
 rcases c:g with _|_
 ·replace a:=iB c a
  refine rz rfl<|b _ _ ?_
  cases a
  exact aR eE1
 replace a:=ifp c a
 refine r_y rfl<|rm 1 [0] rfl<|r_y rfl<|kB a fun h f a=>rc _ (cF VK) (QS N v_0 v_1 _ f)<|r_y rfl<|rc _ (cF lH) (uX h)<|rn 1 rfl<|r_y rfl<|ry [0] rfl<|b _ _ ?_
 cases a
 exact aR eE1
def FF(N:Nat)(a:Int)(b:BitVec 128)(w:Int):Option Bool:=if a=w then(MQ N a b).bind fun c=>some c else some false
theorem Oh(N v_0 v_1 w r)(a:FF N v_0 v_1 w=some r):Gives prog 225 #[vA #[vI v_0,U (hi v_1),U (lo v_1)],vI w] (vB r):=by
 unfold FF at a
 refine Av follows func225 rfl 13 rfl _ fz2 (fun d=> ?_)
 refine Ad<|rA rfl fun f=>rz rfl<|Aa fun g b=>Ag<|rm 5 [0] rfl ?_
 rcases c:(v_0==w)with _|_
 ·replace a:=iG c a
  refine rz rfl<|b _ _ ?_
  cases a
  exact aR eE1
 replace a:=iE c a
 refine r_y rfl<|rm 1 [0] rfl<|r_y rfl<|kB a fun h e a=>rc _ (cF bZ) (WP N v_0 v_1 _ e)<|rz rfl<|b _ _ ?_
 cases a
 exact aR eE1
def Lq(N:Nat)(a:List ((List UInt8)×(List (Int×Int))×(List (Int×Int×Int))×(List (Int×BitVec 128×Int×BitVec 128×Int))×Int))(i:Int):Option Bool:=ck ((R64 ((a.length:Int) - 1))) ((Az N i 0 ((a.length:Int) - 1)).bind fun b=>some b)
theorem UX(N l' i r)(a:Lq N l' i=some r)(ro l'v)(hl':RdN Ad8 ro l'v l'):Does prog 230 #[l'v,vI i] ro [] (pV (vB r)):=by
 unfold Lq at a
 refine Al follows func230 rfl 10 rfl _ fz2 (fun b=> ?_)
 refine AZ rfl<|Ad<|rn 2 rfl<|rL (RdN.shp hl') rfl<|kC a fun c a=>rX c rfl<|kB a fun e d a=>rc _ (cF EV) (AP N i 0 ((l'.length:Int) - 1) _ d)<|rz rfl ?_
 cases a
 exact aR eV1
def Gi(N:Nat)(c:Ao)(n:Int):Option Int:=(Lq N c.2.2.2.2.1 n).bind fun d=>if d=true then(Aq N true 5).bind fun b=>some b else if n= -1 then(Aq N true 5).bind fun a=>some a else(Aq N (n== -2) 5).bind fun e=>some e
theorem Qg(N c n r)(a:Gi N c n=some r)(ro)(cv:AD)(hc:Aa1 ro cv c):Does prog 168 #[vA (Ac c cv),vI n] ro [] (pV (vI r)):=by
 unfold Gi at a
 refine Al follows func168 rfl 19 rfl _ fz2 (fun h=> ?_)
 refine Ad<|rA rfl fun p=>rz rfl<|Aa fun q b=>Ag<|rm 4 [0] rfl<|kB a fun k i a=>gV _ (cF lQ) (fun o w z_=>UX N c.2.2.2.2.1 n _ i z_.view cv.2.2.2.1 (RdN.mono z_.ro_cell hc.2.2.2.1))<|rn 1 rfl ?_
 rcases d:k with _|_
 ·replace a:=iB d a
  refine rn 4 rfl ?_
  rcases e:(n== -1)with _|_
  ·replace a:=iG e a
   refine rn 3 rfl<|kB a fun s j a=>rc _ (cF Bj) (Ay N (n== -2) 5 _ j)<|rz rfl<|b _ _ ?_
   cases a
   exact aR eV1
  replace a:=iE e a
  refine rn 3 rfl<|kB a fun l f a=>rc _ (cF Bj) (Ay N true 5 _ f)<|rz rfl<|b _ _ ?_
  cases a
  exact aR eV1
 replace a:=ifp d a
 refine rn 7 rfl<|kB a fun m g a=>rc _ (cF Bj) (Ay N true 5 _ g)<|rz rfl<|b _ _ ?_
 cases a
 exact aR eV1
def HH(N:Nat)(_:Int)(a:Int)(f:BitVec 128)(i:Int)(d:BitVec 128)(e:Int)(r:List (Int×Int×Int))(b:Int)(g:Ao):Option Int:=(Ju N a f).bind fun v=>(Ju N i d).bind fun u=>(OU N u).bind fun w=>(OV N v w).bind fun c=>(Aq N (decide ((r.length:Int)>0)) 4).bind fun h=>(FF N a f b).bind fun l=>if l=true then(FF N i d b).bind fun k=>(Aq N k 9).bind fun q=>(Aq N (c==((0#64)++(0#64))) 14).bind fun s=>(Gi N g e).bind fun j=>(AE N ([h,q,s,j])).bind fun n=>some n else(Aq N false 9).bind fun p=>(Aq N (c==((0#64)++(0#64))) 14).bind fun t=>(Gi N g e).bind fun o=>(AE N ([h,p,t,o])).bind fun m=>some m
theorem TJ(N x x_0 x_1 x_2 x_3 x_4 B g f r)(b:HH N x x_0 x_1 x_2 x_3 x_4 B g f=some r)(ro)(K:Nat)(n)(aa:Rd Ac9 ro n B)(Q:Blk ro K [n])(L:Nat)(C:Blk ro L [vI g])(M:Nat)(e:AD)(O:Aa1 ro e f)(D:Blk ro M (GB f e)):Does prog 221 #[vI x,vA #[vI x_0,U (hi x_1),U (lo x_1),vI x_2,U (hi x_3),U (lo x_3),vI x_4],vP K 0,vP L 0,vP M 0] ro [] (pV (vI r)):=by
 unfold HH at b
 refine Al follows func221 rfl 42 rfl _ fz5 (fun ae=> ?_)
 refine Ad<|rA rfl fun b2=>rz rfl<|Aa fun K3 af=>IE [] (by decide+kernel) (fun hn=>AQ)<|rm 2 [0] rfl<|kB b fun r4 ag b=>rc _ (cF VK) (QS N x_0 x_1 _ ag)<|rm 2 [0] rfl<|kB b fun r6 ah b=>rc _ (cF VK) (QS N x_2 x_3 _ ah)<|kB b fun r8 ai b=>rc _ (cF lV) (cQ N r6 _ ai)<|kB b fun a ac b=>rc _ (cF lW) (cR N r4 r8 _ ac)<|rA rfl fun E=>jh [(E,326, #[U (hi a),U (lo a)]),(b2,246, #[vI x_0,U (hi x_1),U (lo x_1),vI x_2,U (hi x_3),U (lo x_3),vI x_4])] 0 _ _ _ (#[U (0#64),U (0#64)]) (#[U (hi a),U (lo a)]) (#[U (hi a),U (lo a)]) rfl rfl rfl rfl rfl (.of rfl rfl) rfl rfl<|Af<|af _ _ ?_
 refine Aa fun ay P=> ?_
 refine BE [(some 39,false),(some 40,false),(some 41,false)] (conG prog [(39,cV (Gi N f x_4) fun m=>vI m),(41,fun _ _ v_ L_ U_=>(∀m,Aq N (decide ((B.length:Int)>0)) 4=some m→ ∀F,FF N x_0 x_1 g=some F→(if F=true then(1:Nat)else 0)=0→ ∀G,Aq N false 9=some G→ ∀H,Aq N (a==((0#64)++(0#64))) 14=some H→ ∀I,Gi N f x_4=some I→ ∀J,AE N ([m,G,H,I])=some J→(pV (vI J)) v_ L_ U_)∧(∀m,Aq N (decide ((B.length:Int)>0)) 4=some m→ ∀F,FF N x_0 x_1 g=some F→(if F=true then(1:Nat)else 0)=1→ ∀G,FF N x_2 x_3 g=some G→ ∀H,Aq N G 9=some H→ ∀I,Aq N (a==((0#64)++(0#64))) 14=some I→ ∀J,Gi N f x_4=some J→ ∀ad,AE N ([m,H,I,J])=some ad→(pV (vI ad)) v_ L_ U_))]) [] (by decide+kernel) (fun hn=>AQ) ?_
 refine Hr n (vs:=[n]) (o:=0) rfl rfl (AS Q) rfl<|rL (Rd.shp aa) rfl<|rn 1 rfl<|kB b fun A h b=>rc _ (cF Bj) (Ay N (decide ((B.length:Int)>0)) 4 _ h)<|rm 2 [1] rfl<|Hr (vI g) (vs:=[vI g]) (o:=0) rfl rfl (AS C) rfl<|kB b fun R i b=>rc _ (cF VJ) (Oh N x_0 x_1 g _ i)<|rn 1 rfl ?_
 rcases p:R with _|_
 ·replace b:=iB p b
  have d:(if R=true then(1:Nat)else 0)=0:=(if_neg (Bool.eq_false_iff.1 p))
  refine rn 5 rfl<|kB b fun S q b=>rc _ (cF Bj) (Ay N false 9 _ q)<|rl (vA #[U (hi a),U (lo a)]) 0<|r_W (vA #[U (0#64),U (0#64)]) rfl (Ap rfl rfl rfl rfl)<|r_W (vB (a==((0#64)++(0#64)))) rfl (Vw rfl rfl kK (by have h_:=fun c=>Vx (c:=c) a ((0#64)++(0#64));simp only [Bo] at h_;exact h_ _))<|kB b fun V s b=>rc _ (cF Bj) (Ay N (a==((0#64)++(0#64))) 14 _ s)<|Hr (vA (Ac f e)) (vs:=(GB f e)) (o:=0) rfl rfl (AS D) rfl<|rm 2 [1] rfl<|kB b fun W j b=>rg _ (cF VN) (fun o w z_=>Qg N f x_4 _ j z_.view e (Aa1.mono z_.ro_cell O)) (Ha j) ?_
  refine Kq (Ls:=[(RJ E (hi a) (lo a)),(RK b2 x_0 (hi x_1) (lo x_1) x_2 (hi x_3) (lo x_3) x_4)]) 42 BI [A,S,V,W] [vI A,vI S,vI V,vI W] [vI 0,vI 0,vI 0,vI 0] rfl rfl rfl rfl rfl rfl rfl (by kernel_rfl) (by kernel_rfl) rfl rfl rfl (fun aj ak al=> ?_)
  refine kB b fun am t b=>rg _ (cF ED) (fun o w z_=>BQ N ([A,S,V,W]) _ t z_.view aj ((Ax al (Ak (Ls:=[(RJ E (hi a) (lo a)),(RK b2 x_0 (hi x_1) (lo x_1) x_2 (hi x_3) (lo x_3) x_4),ak]) (k:=2) rfl rfl)) o w z_)) (fun _ _ v_ L_ U_=>⟨fun h_=>h_.1 _ h _ i d _ q _ s _ j _ t,fun h_=>⟨by intro _ e_;cases q1 (e_.symm.trans h);intro _ e_;cases q1 (e_.symm.trans i);intro e_;first|(cases(e_.symm.trans d);done)|(cases(e_.symm.trans d);intro _ e_;cases q1 (e_.symm.trans q);intro _ e_;cases q1 (e_.symm.trans s);intro _ e_;cases q1 (e_.symm.trans j);intro _ e_;cases q1 (e_.symm.trans t);exact h_),by intro _ e_;cases q1 (e_.symm.trans h);intro _ e_;cases q1 (e_.symm.trans i);intro e_;first|(cases(e_.symm.trans d);done)|(cases(e_.symm.trans d);intro _ e_;cases q1 (e_.symm.trans u);intro _ e_;cases q1 (e_.symm.trans v);intro _ e_;cases q1 (e_.symm.trans y);intro _ e_;cases q1 (e_.symm.trans l);intro _ e_;cases q1 (e_.symm.trans z);exact h_)⟩⟩) ?_
  refine rz rfl<|P _ _ ?_
  refine GQ [(7,vI am)] rfl (fun T=> ?_)
  cases b
  exact aR eV1
 replace b:=ifp p b
 have d:(if R=true then(1:Nat)else 0)=1:=(if_pos p)
 refine rn 1 rfl<|r_y rfl<|rm 1 [1] rfl<|r_y rfl<|Hr (vI g) (vs:=[vI g]) (o:=0) rfl rfl (AS C) rfl<|r_y rfl<|kB b fun an u b=>rc _ (cF VJ) (Oh N x_2 x_3 g _ u)<|rn 1 rfl<|kB b fun X v b=>rc _ (cF Bj) (Ay N an 9 _ v)<|rl (vA #[U (hi a),U (lo a)]) 0<|r_W (vA #[U (0#64),U (0#64)]) rfl (Ap rfl rfl rfl rfl)<|r_W (vB (a==((0#64)++(0#64)))) rfl (Vw rfl rfl kK (by have h_:=fun c=>Vx (c:=c) a ((0#64)++(0#64));simp only [Bo] at h_;exact h_ _))<|kB b fun Y y b=>rc _ (cF Bj) (Ay N (a==((0#64)++(0#64))) 14 _ y)<|Hr (vA (Ac f e)) (vs:=(GB f e)) (o:=0) rfl rfl (AS D) rfl<|rm 2 [1] rfl<|kB b fun Z l b=>rg _ (cF VN) (fun o w z_=>Qg N f x_4 _ l z_.view e (Aa1.mono z_.ro_cell O)) (Ha l) ?_
 refine Kq (Ls:=[(RJ E (hi a) (lo a)),(RK b2 x_0 (hi x_1) (lo x_1) x_2 (hi x_3) (lo x_3) x_4)]) 42 BI [A,X,Y,Z] [vI A,vI X,vI Y,vI Z] [vI 0,vI 0,vI 0,vI 0] rfl rfl rfl rfl rfl rfl rfl (by kernel_rfl) (by kernel_rfl) rfl rfl rfl (fun ao ap aq=> ?_)
 refine kB b fun ar z b=>rg _ (cF ED) (fun o w z_=>BQ N ([A,X,Y,Z]) _ z z_.view ao ((Ax aq (Ak (Ls:=[(RJ E (hi a) (lo a)),(RK b2 x_0 (hi x_1) (lo x_1) x_2 (hi x_3) (lo x_3) x_4),ap]) (k:=2) rfl rfl)) o w z_)) (fun _ _ v_ L_ U_=>⟨fun h_=>h_.2 _ h _ i d _ u _ v _ y _ l _ z,fun h_=>⟨by intro _ e_;cases q1 (e_.symm.trans h);intro _ e_;cases q1 (e_.symm.trans i);intro e_;first|(cases(e_.symm.trans d);done)|(cases(e_.symm.trans d);intro _ e_;cases q1 (e_.symm.trans q);intro _ e_;cases q1 (e_.symm.trans s);intro _ e_;cases q1 (e_.symm.trans j);intro _ e_;cases q1 (e_.symm.trans t);exact h_),by intro _ e_;cases q1 (e_.symm.trans h);intro _ e_;cases q1 (e_.symm.trans i);intro e_;first|(cases(e_.symm.trans d);done)|(cases(e_.symm.trans d);intro _ e_;cases q1 (e_.symm.trans u);intro _ e_;cases q1 (e_.symm.trans v);intro _ e_;cases q1 (e_.symm.trans y);intro _ e_;cases q1 (e_.symm.trans l);intro _ e_;cases q1 (e_.symm.trans z);exact h_)⟩⟩) ?_
 refine rz rfl<|P _ _ ?_
 refine GQ [(7,vI ar)] rfl (fun T=> ?_)
 cases b
 exact aR eV1
def Jh(N:Nat)(b:List (Int×BitVec 128×Int×BitVec 128×Int))(d:List (Int×Int×Int))(c:Int)(e:Ao):Nat→Int→Option (Int×Int)
  |0,_=>none
  |g+1,a=>if a<(b.length:Int)then ck (0≤a∧a<(b.length:Int)) ((HH N a ((b[a.toNat]!).1) ((b[a.toNat]!).2.1) ((b[a.toNat]!).2.2.1) ((b[a.toNat]!).2.2.2.1) ((b[a.toNat]!).2.2.2.2) d c e).bind fun f=>if(f:Int)≠0 then some (a,f)else ck (R64 (a+1)) ((Jh N b d c e g) (a+1)))else some (0,0)
def Lx(N:Nat)(e:List (Int×BitVec 128×Int×BitVec 128×Int))(d:Int)(b:List (Int×Int×Int))(a:Int)(c:Ao):Option (Int×Int):=if(e.length:Int)>d then some (0,2)else Jh N e b a c N 0
theorem Yv(N l' most g h e r)(d:Lx N l' most g h e=some r)(ro l'v)(hl':Rd Af0 ro l'v l')(a:Nat)(i)(p:Rd Ac9 ro i g)(k:Blk ro a [i])(b:Nat)(m:Blk ro b [vI h])(c:Nat)(j:AD)(q:Aa1 ro j e)(n:Blk ro c (GB e j)):Does prog 165 #[l'v,vI most,vF 221 #[] #[vP a 0,vP b 0,vP c 0]] ro [] (pV (vT #[vI r.1,vI r.2])):=by
 unfold Lx at d
 refine Al follows func165 rfl 31 rfl _ fz3 (fun C=> ?_)
 refine AZ rfl<|Aa fun K D=>Ad<|rn 1 rfl<|rL (Rd.shp hl') rfl<|rz rfl<|aD d rfl (fun E d=> ?_) (fun E d=> ?_)
 ·refine AZ rfl ?_
  cases d
  exact aR eV2
 refine Ab<|D _ _ ?_
 refine Aa fun L F=>Ad<|rn 1 rfl<|rL (Rd.shp hl') rfl<|rz rfl<|Ai<|AH (fun tt ll nn=> ∃(u:Nat) (f:Int),(Jh N l' g h e u f=some r)∧Is [(2,vF 221 #[] #[vP a 0,vP b 0,vP c 0]),(15,l'v),(16,vI (l'.length:Int)),(17,vI f)] [] tt ll∧nn=u+1) (N+1) ?_ ?_
 ·exact⟨N,0,d,Ah rfl rfl,rfl⟩
 clear d;rintro t l _ ⟨u,f,d,⟨⟨T,rfl⟩,rfl⟩,rfl⟩
 rcases u with _|u
 ·exact absurd d (by simp [Jh])
 rw [Jh] at d
 refine AZ rfl<|Aa fun G v=>aD d rfl (fun x d=> ?_) (fun x d=> ?_)
 ·refine Ab<|v _ _ ?_
  refine Aa fun H y=>Ai<|Ad<|rn 1 rfl<|kC d fun s d=>rI (Rd.shp hl') s rfl<|rE (Aw hl') s 0 rfl<|rA rfl fun I=>ry [0] rfl<|Ad ?_
  refine rm 3 [0] rfl<|kB d fun J z d=>gV _ (BF (caps:=[vP a 0,vP b 0,vP c 0]) rfl lX rfl) (fun o w z_=>TJ N f ((l'[f.toNat]!).1) ((l'[f.toNat]!).2.1) ((l'[f.toNat]!).2.2.1) ((l'[f.toNat]!).2.2.2.1) ((l'[f.toNat]!).2.2.2.2) g h e _ z z_.view a i (z_.r p) (AS k o w z_) b (AS m o w z_) c j (Aa1.mono z_.ro_cell q) (AS n o w z_))<|rz rfl<|AZ rfl ?_
  refine aN d rfl (fun A d=> ?_) (fun A d=> ?_)
  ·refine AZ rfl ?_
   cases d
   exact aR eV2
  refine Ab<|y _ _ ?_
  refine Ag<|kC d fun B d=>rX B rfl<|rz rfl<|fg _ (Sub.of (suC _ suN)) ?_
  exact⟨u+1,by omega,u,(f+1),d,Ah rfl rfl,rfl⟩
 refine AI<|F _ _ ?_
 refine AZ rfl ?_
 cases d
 exact aR eV2
def FB(_:Nat)(n:Int)(a:Int)(b:Int):Option Bool:=if n≥a then some (decide (n≤b))else some false
theorem OL(N n least most r)(a:FB N n least most=some r):Gives prog 228 #[vI n,vI least,vI most] (vB r):=by
 unfold FB at a
 refine Av follows func228 rfl 15 rfl _ fz3 (fun d=> ?_)
 refine AZ rfl<|Aa fun e b=>Ag<|rn 4 rfl ?_
 rcases c:(decide (n≥least))with _|_
 ·replace a:=iF c a
  refine rz rfl<|b _ _ ?_
  cases a
  exact aR eE1
 replace a:=iD c a
 refine rz rfl<|b _ _ ?_
 cases a
 exact aR eE1
def Gj(N:Nat)(d:Int×Bool)(a:Bool):Option Int:=(Aq N d.2 5).bind fun e=>(Aq N a 7).bind fun b=>(AE N ([e,b])).bind fun c=>some c
def Ht(N:Nat)(c:Ao)(b:Int)(e:Int)(a:Int):Option Int:=(Hj N c b e a).bind fun d=>if b=1 then Gj N d (a==0)else if b=2 then(Az N e 0 1024).bind fun f=>if f=true then(Az N a 1 64).bind fun g=>Gj N d g else Gj N d false else Gj N d true
theorem Vi(N c k_0 k_1 k_2 r)(b:Ht N c k_0 k_1 k_2=some r)(ro)(cv:AD)(hc:Aa1 ro cv c):DoesI prog 229 #[vA (Ac c cv),vA #[vI k_0,vI k_1,vI k_2]] Ie ro [] (pV (vI r)):=by
 unfold Ht at b
 refine AX follows func229 rfl 38 rfl _ fz2 Bg (fun p=> ?_)
 refine Ad<|rA rfl fun C=>rA rfl fun D=>rz rfl<|Ad<|rm 3 [1,0] rfl<|kB b fun q s b=>gV _ (cF bO) (fun o w z_=>OM N c k_0 k_1 k_2 _ s z_.view cv (Aa1.mono z_.ro_cell hc))<|rz rfl<|AZ rfl<|Cb (fun tt ll=> ∃(a:Bool),(Gj N q a=some r)∧Is [(6,vB q.2),(7,vB a)] [] tt ll) ?_ ?_
 ·refine AY [0] rfl<|Ai<|AZ rfl<|aE b rfl (fun e b=> ?_) (fun e b=> ?_)
  ·refine Ag<|ry [0] rfl<|fg _ (Sub.of (suC _ (suC _ suN))) ?_
   exact⟨(k_2==0),b,Ah rfl rfl⟩
  refine AZ rfl<|aE b rfl (fun f b=> ?_) (fun f b=> ?_)
  ·refine Ag<|rm 2 [0] rfl<|kB b fun u g b=>rc _ (cF EV) (AP N k_1 0 1024 _ g)<|rn 1 rfl ?_
   rcases d:u with _|_
   ·replace b:=iB d b
    refine rz rfl<|fg _ (Sub.of (suC _ (suC _ suN))) ?_
    exact⟨false,b,Ah (by first|rfl|(simp only [d];done)|(simp only [d];rfl)|(simp only [Bo];rfl)) rfl⟩
   replace b:=ifp d b
   refine rn 1 rfl<|r_y rfl<|rm 1 [0] rfl<|r_y rfl<|kB b fun v h b=>rc _ (cF EV) (AP N k_2 1 64 _ h)<|rz rfl<|fg _ (Sub.of (suC _ (suC _ suN))) ?_
   exact⟨v,b,Ah (by first|rfl|(simp only [d];done)|(simp only [d];rfl)|(simp only [Bo];rfl)) rfl⟩
  refine Ab<|fg _ (Sub.of (suC _ (suC _ suN))) ?_
  exact⟨true,b,Ah rfl rfl⟩
 clear b;rintro t l ⟨a,b,⟨T,rfl⟩,rfl⟩
 unfold Gj at b
 refine Ad<|rn 1 rfl<|kB b fun A i b=>rc _ (cF Bj) (Ay N q.2 5 _ i)<|rn 1 rfl<|kB b fun j m b=>rc _ (cF Bj) (Ay N a 7 _ m)<|gB (Ls:=[]) 42 BI [A,j] (fun x y z=> ?_)
 refine kB b fun B n b=>gV _ (cF ED) (fun o w z_=>(Does.inv (BQ N ([A,j]) _ n z_.view x ((Ax z (Ak (Ls:=[y]) (k:=0) rfl rfl)) o w z_)) _))<|rz rfl ?_
 cases b
 exact aR eV1
def Kl(N:Nat)(_:Int)(b:Int)(f:Int)(d:Int)(a:Int)(e:Ao):Option Int:=ck (R64 (a - 1)) ((FB N b 0 (a - 1)).bind fun g=>(Aq N g 10).bind fun h=>(Ht N e b f d).bind fun i=>(AE N ([h,i])).bind fun c=>some c)
theorem YC(N x k_0 k_1 k_2 d a r)(e:Kl N x k_0 k_1 k_2 d a=some r)(ro)(h:Nat)(j:Blk ro h [vI d])(i:Nat)(b:AD)(p:Aa1 ro b a)(l:Blk ro i (GB a b)):DoesI prog 227 #[vI x,vA #[vI k_0,vI k_1,vI k_2],vP h 0,vP i 0] Ie ro [] (pV (vI r)):=by
 unfold Kl at e
 refine AX follows func227 rfl 18 rfl _ fz4 Bg (fun u=> ?_)
 refine Ad<|rA rfl fun E=>rz rfl<|Aa fun H v=>BE [(some 15,false),(some 16,false),(some 17,false)] (conG prog [(15,cV (Ht N a k_0 k_1 k_2) fun g=>vI g),(17,fun _ _ v_ L_ U_=> ∀g,FB N k_0 0 (d - 1)=some g→ ∀q,Aq N g 10=some q→ ∀s,Ht N a k_0 k_1 k_2=some s→ ∀t,AE N ([q,s])=some t→(pV (vI t)) v_ L_ U_)]) [] (by decide+kernel) (fun I=>AQ)<|rm 2 [0] rfl ?_
 refine Hr (vI d) (vs:=[vI d]) (o:=0) rfl rfl (AS j) rfl<|kC e fun y e=>rX y rfl<|kB e fun F m e=>rc _ (cF lS) (OL N k_0 0 (d - 1) _ m)<|kB e fun z n e=>rc _ (cF Bj) (Ay N F 10 _ n)<|Hr (vA (Ac a b)) (vs:=(GB a b)) (o:=0) rfl rfl (AS l) rfl<|rm 1 [0] rfl<|kB e fun A c e=>rg _ (cF lR) (fun o w z_=>Vi N a k_0 k_1 k_2 _ c z_.view b (Aa1.mono z_.ro_cell p)) (Ha c) ?_
 refine Kq (Ls:=[(ax E k_0 k_1 k_2)]) 42 BI [z,A] [vI z,vI A] [vI 0,vI 0] rfl rfl rfl rfl rfl rfl rfl (by kernel_rfl) (by kernel_rfl) rfl rfl rfl (fun B C D=> ?_)
 refine kB e fun G f e=>rg _ (cF ED) (fun o w z_=>(Does.inv (BQ N ([z,A]) _ f z_.view B ((Ax D (Ak (Ls:=[(ax E k_0 k_1 k_2),C]) (k:=1) rfl rfl)) o w z_)) _)) (fun _ _ v_ L_ U_=>⟨fun h_=>h_ _ m _ n _ c _ f,fun h_=>by intro _ e_;cases q1 (e_.symm.trans m);intro _ e_;cases q1 (e_.symm.trans n);intro _ e_;cases q1 (e_.symm.trans c);intro _ e_;cases q1 (e_.symm.trans f);exact h_⟩) ?_
 refine rz rfl<|v _ _ ?_
 cases e
 exact aR eV1
def Kg(N:Nat)(d:List (Int×Int×Int))(c:Int)(b:Ao):Nat→Int→Option (Int×Int)
  |0,_=>none
  |f+1,a=>if a<(d.length:Int)then ck (0≤a∧a<(d.length:Int)) ((Kl N a ((d[a.toNat]!).1) ((d[a.toNat]!).2.1) ((d[a.toNat]!).2.2) c b).bind fun e=>if(e:Int)≠0 then some (a,e)else ck (R64 (a+1)) ((Kg N d c b f) (a+1)))else some (0,0)
def NW(N:Nat)(d:List (Int×Int×Int))(c:Int)(a:Int)(b:Ao):Option (Int×Int):=if(d.length:Int)>c then some (0,2)else Kg N d a b N 0
theorem aQ(N l' most e d r)(c:NW N l' most e d=some r)(ro l'v)(hl':Rd Ac9 ro l'v l')(a:Nat)(h:Blk ro a [vI e])(b:Nat)(f:AD)(j:Aa1 ro f d)(i:Blk ro b (GB d f)):DoesI prog 226 #[l'v,vI most,vF 227 #[] #[vP a 0,vP b 0]] Ie ro [] (pV (vT #[vI r.1,vI r.2])):=by
 unfold NW at c
 refine AX follows func226 rfl 31 rfl _ fz3 Bg (fun x=> ?_)
 refine AZ rfl<|Aa fun F y=>Ad<|rn 1 rfl<|rL (Rd.shp hl') rfl<|rz rfl<|aD c rfl (fun z c=> ?_) (fun z c=> ?_)
 ·refine AZ rfl ?_
  cases c
  exact aR eV2
 refine Ab<|y _ _ ?_
 refine Aa fun G A=>Ad<|rn 1 rfl<|rL (Rd.shp hl') rfl<|rz rfl<|Ai<|AH (fun tt ll nn=> ∃(m:Nat) (g:Int),(Kg N l' e d m g=some r)∧Is [(2,vF 227 #[] #[vP a 0,vP b 0]),(15,l'v),(16,vI (l'.length:Int)),(17,vI g)] [] tt ll∧nn=m+1) (N+1) ?_ ?_
 ·exact⟨N,0,c,Ah rfl rfl,rfl⟩
 clear c;rintro t l _ ⟨m,g,c,⟨⟨T,rfl⟩,rfl⟩,rfl⟩
 rcases m with _|m
 ·exact absurd c (by simp [Kg])
 rw [Kg] at c
 refine AZ rfl<|Aa fun B n=>aD c rfl (fun p c=> ?_) (fun p c=> ?_)
 ·refine Ab<|n _ _ ?_
  refine Aa fun C q=>Ai<|Ad<|rn 1 rfl<|kC c fun k c=>rI (Rd.shp hl') k rfl<|rE (Aw hl') k 0 rfl<|rA rfl fun D=>ry [0] rfl<|Ad<|rm 3 [0] rfl<|kB c fun E s c=>gV _ (BF (caps:=[vP a 0,vP b 0]) rfl lT rfl) (fun o w z_=>YC N g ((l'[g.toNat]!).1) ((l'[g.toNat]!).2.1) ((l'[g.toNat]!).2.2) e d _ s z_.view a (AS h o w z_) b f (Aa1.mono z_.ro_cell j) (AS i o w z_))<|rz rfl<|AZ rfl<|aN c rfl (fun u c=> ?_) (fun u c=> ?_)
  ·refine AZ rfl ?_
   cases c
   exact aR eV2
  refine Ab<|q _ _ ?_
  refine Ag<|kC c fun v c=>rX v rfl<|rz rfl<|fg _ (Sub.of (suC _ suN)) ?_
  exact⟨m+1,by omega,m,(g+1),c,Ah rfl rfl,rfl⟩
 refine AI<|A _ _ ?_
 refine AZ rfl ?_
 cases c
 exact aR eV2
def HY(N:Nat)(c:Ao)(e:List (Int×Int×Int))(a:Int):Option Int:=(NW N e 4 a c).bind fun f=>(Nl N c e).bind fun g=>(Aq N g.2 9).bind fun b=>(AE N ([f.2,b])).bind fun d=>some d
theorem Vh(N c l' kinds r)(a:HY N c l' kinds=some r)(ro)(cv:AD)(hc:Aa1 ro cv c)(l'v)(hl':Rd Ac9 ro l'v l'):DoesI prog 167 #[vA (Ac c cv),l'v,vI kinds] Ie ro [] (pV (vI r)):=by
 unfold HY at a
 refine AX follows func167 rfl 29 rfl _ fz3 Bg (fun f=> ?_)
 refine Ad<|rA rfl fun g=>rA rfl fun h=>rz rfl<|Ad<|rn 1 rfl<|r_W (vF 227 #[] #[vP h 0,vP g 0]) rfl (IA rfl)<|kB a fun q i a=>gV _ (cF lU) (fun o w z_=>aQ N l' 4 kinds c _ i z_.view l'v ((Aw hl') o w z_) h (Cw 0 rfl rfl o w z_) g cv (Aa1.mono z_.ro_cell hc) (Cw 1 rfl rfl o w z_))<|rz rfl<|Ad<|rm 3 [1] rfl<|kB a fun s j a=>gV _ (cF bP) (fun o w z_=>UU N c l' _ j z_.view cv (Aa1.mono z_.ro_cell hc) l'v ((Aw hl') o w z_))<|rz rfl<|Ad<|rn 2 rfl<|kB a fun b d a=>rc _ (cF Bj) (Ay N s.2 9 _ d)<|gB (Ls:=[(ay h kinds),[(g,90,(Ac c cv))]]) 42 BI [q.2,b] (fun l m n=> ?_)
 refine kB a fun p e a=>gV _ (cF ED) (fun o w z_=>(Does.inv (BQ N ([q.2,b]) _ e z_.view l ((Ax n (Ak (Ls:=[(ay h kinds),[(g,90,(Ac c cv))],m]) (k:=2) rfl rfl)) o w z_)) _))<|rz rfl<|GQ [(6,vI p)] rfl (fun T=> ?_)
 cases a
 exact aR eV1
def IR(N:Nat)(c:Ao)(_:List UInt8)(d:List (Int×Int))(a:List (Int×Int×Int))(b:List (Int×BitVec 128×Int×BitVec 128×Int))(f:Int):Option Int:=(NX N d 4 c).bind fun j=>(Ib N c a).bind fun k=>(Lx N b 8 a k c).bind fun i=>(HY N c a 3).bind fun e=>(Gi N c f).bind fun g=>(AE N ([j.2,e,i.2,g])).bind fun h=>some h
theorem Yx(N c s_0 s_1 s_2 s_3 s_4 r)(b:IR N c s_0 s_1 s_2 s_3 s_4=some r)(ro)(cv:AD)(hc:Aa1 ro cv c)(s_1v)(hs_1:Rd Ae9 ro s_1v s_1)(s_2v)(hs_2:Rd Ac9 ro s_2v s_2)(s_3v)(hs_3:Rd Af0 ro s_3v s_3):DoesI prog 99 #[vA (Ac c cv),vA #[vS s_0,s_1v,s_2v,s_3v,vI s_4]] Ie ro [] (pV (vI r)):=by
 unfold IR at b
 refine AX follows func99 rfl 39 rfl _ fz2 Bg (fun A=> ?_)
 refine Ad<|rA rfl fun p=>rA rfl fun g=>rz rfl<|Ad<|rm 3 [0,1] rfl<|r_W (vF 164 #[vA (Ac c cv)] #[]) rfl (IU rfl rfl)<|kB b fun B C b=>gV _ (cF mT) (fun o w z_=>(Does.inv (aS N s_1 4 c _ C z_.view s_1v (z_.r hs_1) cv (Aa1.mono z_.ro_cell hc)) _))<|rz rfl<|Aa fun K D=> ?_
 refine fS (Ls:=[(KB g s_0 s_1v s_2v s_3v s_4),[(p,90,(Ac c cv))]]) [(some 23,true),(some 24,false),(some 1000000024,true)] [(23,fun _ _ v_ L_ U_=>(pH ((List.flatten ([]:List (List Bl))).map (·.1)) (fun v_ L_ U_=> ∀a,Ib N c s_2=some a→(pO (List.flatten []) (oB 83 #[s_2v] fun b_0=>(oB 3 #[vI a] fun b_1=>(oB 90 (Ac c cv) fun b_2=>(oE (vF 221 #[] #[vP b_0 0,vP b_1 0,vP b_2 0]) []))))) v_ L_ U_) v_ L_ U_)),(24,fun _ _ v_ L_ U_=> ∀a,Ib N c s_2=some a→ ∀f,Lx N s_3 8 s_2 a c=some f→(pV (vT #[vI f.1,vI f.2])) v_ L_ U_)] [] [0,1] [] (by decide+kernel) (fun I=>AQ) (by decide+kernel) rfl (⟨.inr (fun _ _ _ _ _ h_=>sU (jm (Ls:=[(KB g s_0 s_1v s_2v s_3v s_4),[(p,90,(Ac c cv))]]) (is:=[]) (js:=[]) rfl) h_),⟨.inl rfl,trivial⟩⟩) (fun hnb_=> ?_)
 refine rn 1 rfl<|oP s_3v 0 _ _ _ _ rfl rfl rfl rfl rfl (hnb_ g (List.mem_of_getElem? (i:=0) rfl))<|oP (vA (Ac c cv)) 1 _ _ _ _ rfl rfl rfl rfl rfl (hnb_ p (List.mem_of_getElem? (i:=1) rfl))<|rn 1 rfl<|oP s_2v 0 _ _ _ _ rfl rfl rfl rfl rfl (hnb_ g (List.mem_of_getElem? (i:=0) rfl))<|kB b fun x s b=>gt (Ls:=[(KB g s_0 s_1v s_2v s_3v s_4),[(p,90,(Ac c cv))]]) (FL:=[]) [] _ (some 23) 166 _ rfl rfl rfl rfl rfl (cF mQ) (fun o w hn_ z_=>WI N c s_2 _ s _ cv (Aa1.mono (Lf (Ls:=[(KB g s_0 s_1v s_2v s_3v s_4),[(p,90,(Ac c cv))]]) (is:=[]) rfl z_) hc) s_2v (Rd.mono (Lf (Ls:=[(KB g s_0 s_1v s_2v s_3v s_4),[(p,90,(Ac c cv))]]) (is:=[]) rfl z_) hs_2)) (fun a_ c_ v_ L_ U_=>sT (q:=fun v_ L_ U_=> ∀a,Ib N c s_2=some a→(pO (List.flatten []) (oB 83 #[s_2v] fun b_0=>(oB 3 #[vI a] fun b_1=>(oB 90 (Ac c cv) fun b_2=>(oE (vF 221 #[] #[vP b_0 0,vP b_1 0,vP b_2 0]) []))))) v_ L_ U_) ((Ha s) a_ c_ v_ L_ U_)) (fun _=>(Ab8.sub (R:=[]) (eX fun b_0=>(eX fun b_1=>(eX fun b_2=>(Tl rfl)))) (Sub.pick [] [] rfl))) ?_
 rintro _ _ ⟨h,_,⟨j,_,⟨l,_,⟨rfl,rfl⟩,rfl⟩,rfl⟩,rfl⟩
 refine CZ (Ls:=[(KB g s_0 s_1v s_2v s_3v s_4),[(p,90,(Ac c cv))],(Qw h s_2v),(SL j x),[(l,90,(Ac c cv))]]) (Ls':=[(KB g s_0 s_1v s_2v s_3v s_4),[(p,90,(Ac c cv))],(Qw h s_2v),(SL j x),[(l,90,(Ac c cv))]]) [0,1,2,3,4] rfl rfl<|kB b fun t m b=>rg _ (cF mR) (fun o w z_=>(Does.inv (Yv N s_3 8 s_2 x c _ m z_.view s_3v (z_.r hs_3) h s_2v (z_.r hs_2) (Cw 2 rfl rfl o w z_) j (Cw 3 rfl rfl o w z_) l cv (Aa1.mono z_.ro_cell hc) (Cw 4 rfl rfl o w z_)) _)) (fun _ _ v_ L_ U_=>⟨fun h_=>h_ _ s _ m,fun h_=>by intro _ e_;cases q1 (e_.symm.trans s);intro _ e_;cases q1 (e_.symm.trans m);exact h_⟩) ?_
 refine rz rfl<|D _ _ ?_
 refine Aa fun J y=>BE [(some 31,false),(some 36,false),(some 37,false),(some 38,false)] (conG prog [(31,cV (HY N c s_2 3) fun a=>vI a),(36,cV (Gi N c s_4) fun a=>vI a),(38,fun _ _ v_ L_ U_=> ∀a,HY N c s_2 3=some a→ ∀f,Gi N c s_4=some f→ ∀z,AE N ([B.2,a,t.2,f])=some z→(pV (vI z)) v_ L_ U_)]) [] (by decide+kernel) (fun I=>AQ)<|rm 2 [1] rfl ?_
 refine rm 2 [0] rfl<|kB b fun u d b=>rg _ (cF cb) (fun o w z_=>Vh N c s_2 3 _ d z_.view cv (Aa1.mono z_.ro_cell hc) s_2v (z_.r hs_2)) (Ha d)<|rm 4 [1,0] rfl<|kB b fun v e b=>rg _ (cF VN) (fun o w z_=>(Does.inv (Qg N c s_4 _ e z_.view cv (Aa1.mono z_.ro_cell hc)) _)) (Ha e) ?_
 refine Kq (Ls:=[(KB g s_0 s_1v s_2v s_3v s_4),[(p,90,(Ac c cv))],(Qw h s_2v),(SL j x),[(l,90,(Ac c cv))]]) 42 BI [B.2,u,t.2,v] [vI B.2,vI u,vI t.2,vI v] [vI 0,vI 0,vI 0,vI 0] rfl rfl rfl rfl rfl rfl rfl (by kernel_rfl) (by kernel_rfl) rfl rfl rfl (fun E F G=> ?_)
 refine kB b fun H n b=>rg _ (cF ED) (fun o w z_=>(Does.inv (BQ N ([B.2,u,t.2,v]) _ n z_.view E ((Ax G (Ak (Ls:=[(KB g s_0 s_1v s_2v s_3v s_4),[(p,90,(Ac c cv))],(Qw h s_2v),(SL j x),[(l,90,(Ac c cv))],F]) (k:=5) rfl rfl)) o w z_)) _)) (fun _ _ v_ L_ U_=>⟨fun h_=>h_ _ d _ e _ n,fun h_=>by intro _ e_;cases q1 (e_.symm.trans d);intro _ e_;cases q1 (e_.symm.trans e);intro _ e_;cases q1 (e_.symm.trans n);exact h_⟩) ?_
 refine rz rfl<|y _ _ ?_
 refine GQ [(4,vI H)] rfl (fun T=> ?_)
 cases b
 exact aR eV1
def KE(N:Nat)(i:Int)(h:List UInt8)(j:List (Int×Int))(c:List (Int×Int×Int))(d:List (Int×BitVec 128×Int×BitVec 128×Int))(e:Int)(b:List (List UInt8))(a:Ao):Option Int:=ck (0≤i∧i<(b.length:Int)) ((EB N (b[i.toNat]!)).bind fun k=>(Aq N k 4).bind fun l=>(AU N b i).bind fun m=>(IR N a h j c d e).bind fun f=>(AE N ([l,m,f])).bind fun g=>some g)
theorem Tv(N i x_0 x_1 x_2 x_3 x_4 b c3_p0_0_ r)(c:KE N i x_0 x_1 x_2 x_3 x_4 b c3_p0_0_=some r)(ro x_1v)(hx_1:Rd Ae9 ro x_1v x_1)(x_2v)(hx_2:Rd Ac9 ro x_2v x_2)(x_3v)(hx_3:Rd Af0 ro x_3v x_3)(l:Nat)(a)(g:Rd Aa3 ro a b)(h:Blk ro l [a])(m:Nat)(c3_p0_0_v:AD)(hc3_p0_0_:Aa1 ro c3_p0_0_v c3_p0_0_)(n:Blk ro m [vF 99 #[vA (Ac c3_p0_0_ c3_p0_0_v)] #[]]):DoesI prog 162 #[vI i,vA #[vS x_0,x_1v,x_2v,x_3v,vI x_4],vP l 0,vP m 0] Ie ro [] (pV (vI r)):=by
 unfold KE at c
 refine AX follows func162 rfl 21 rfl _ fz4 Bg (fun z=> ?_)
 refine Ad<|rA rfl fun G=>rz rfl<|Aa fun J A=> ?_
 refine BE [(some 15,false),(some 18,false),(some 19,false),(some 20,false)] (conG prog [(15,cV (AU N b i) fun f=>vI f),(18,cV (IR N c3_p0_0_ x_0 x_1 x_2 x_3 x_4) fun f=>vI f),(20,fun _ _ v_ L_ U_=> ∀f,EB N (b[i.toNat]!)=some f→ ∀t,Aq N f 4=some t→ ∀u,AU N b i=some u→ ∀v,IR N c3_p0_0_ x_0 x_1 x_2 x_3 x_4=some v→ ∀x,AE N ([t,u,v])=some x→(pV (vI x)) v_ L_ U_)]) [] (by decide+kernel) (fun K=>AQ) ?_
 refine Hr a (vs:=[a]) (o:=0) rfl rfl (AS h) rfl<|rn 1 rfl<|kC c fun y c=>rI (Rd.shp g) y rfl<|rE (Aw g) y 0 rfl<|kB c fun H p c=>rc _ (cF Nz) (LM N (b[i.toNat]!) _ p)<|kB c fun B q c=>rc _ (cF Bj) (Ay N H 4 _ q)<|Hr a (vs:=[a]) (o:=0) rfl rfl (AS h) rfl<|rn 1 rfl<|kB c fun C d c=>rg _ (cF Od) (fun o w z_=>(Does.inv (HQ N b i _ d z_.view a (z_.r g)) _)) (Ha d)<|Hr (vF 99 #[vA (Ac c3_p0_0_ c3_p0_0_v)] #[]) (vs:=[vF 99 #[vA (Ac c3_p0_0_ c3_p0_0_v)] #[]]) (o:=0) rfl rfl (AS n) rfl<|rm 1 [0] rfl<|kB c fun s e c=>rg _ (FZ (bd:=[vA (Ac c3_p0_0_ c3_p0_0_v)]) (caps:=[]) rfl qh rfl) (fun o w z_=>Yx N c3_p0_0_ x_0 x_1 x_2 x_3 x_4 _ e z_.view c3_p0_0_v (Aa1.mono z_.ro_cell hc3_p0_0_) x_1v (z_.r hx_1) x_2v (z_.r hx_2) x_3v (z_.r hx_3)) (Ha e) ?_
 refine Kq (Ls:=[(KB G x_0 x_1v x_2v x_3v x_4)]) 42 BI [B,C,s] [vI B,vI C,vI s] [vI 0,vI 0,vI 0] rfl rfl rfl rfl rfl rfl rfl (by kernel_rfl) (by kernel_rfl) rfl rfl rfl (fun D E F=> ?_)
 refine kB c fun I j c=>rg _ (cF ED) (fun o w z_=>(Does.inv (BQ N ([B,C,s]) _ j z_.view D ((Ax F (Ak (Ls:=[(KB G x_0 x_1v x_2v x_3v x_4),E]) (k:=1) rfl rfl)) o w z_)) _)) (fun _ _ v_ L_ U_=>⟨fun h_=>h_ _ p _ q _ d _ e _ j,fun h_=>by intro _ e_;cases q1 (e_.symm.trans p);intro _ e_;cases q1 (e_.symm.trans q);intro _ e_;cases q1 (e_.symm.trans d);intro _ e_;cases q1 (e_.symm.trans e);intro _ e_;cases q1 (e_.symm.trans j);exact h_⟩) ?_
 refine rz rfl<|A _ _ ?_
 cases c
 exact aR eV1
def It(N:Nat)(c:List ((List UInt8)×(List (Int×Int))×(List (Int×Int×Int))×(List (Int×BitVec 128×Int×BitVec 128×Int))×Int))(d:List (List UInt8))(b:Ao):Nat→Int→Option (Int×Int)
  |0,_=>none
  |f+1,a=>if a<(c.length:Int)then ck (0≤a∧a<(c.length:Int)) ((KE N a (c[a.toNat]!.1) (c[a.toNat]!.2.1) (c[a.toNat]!.2.2.1) (c[a.toNat]!.2.2.2.1) (c[a.toNat]!.2.2.2.2) d b).bind fun e=>if(e:Int)≠0 then some (a,e)else ck (R64 (a+1)) ((It N c d b f) (a+1)))else some (0,0)
def Me(N:Nat)(d:List ((List UInt8)×(List (Int×Int))×(List (Int×Int×Int))×(List (Int×BitVec 128×Int×BitVec 128×Int))×Int))(c:Int)(b:List (List UInt8))(a:Ao):Option (Int×Int):=if(d.length:Int)>c then some (0,2)else It N d b a N 0
theorem Wy(N l' most e ask1_p0_0_ r)(d:Me N l' most e ask1_p0_0_=some r)(ro l'v)(hl':RdN Ad8 ro l'v l')(b:Nat)(f)(m:Rd Aa3 ro f e)(g:Blk ro b [f])(c:Nat)(ask1_p0_0_v:AD)(hask1_p0_0_:Aa1 ro ask1_p0_0_v ask1_p0_0_)(h:Blk ro c [vF 99 #[vA (Ac ask1_p0_0_ ask1_p0_0_v)] #[]]):DoesI prog 161 #[l'v,vI most,vF 162 #[] #[vP b 0,vP c 0]] Ie ro [] (pV (vT #[vI r.1,vI r.2])):=by
 unfold Me at d
 refine AX follows func161 rfl 31 rfl _ fz3 Bg (fun C=> ?_)
 refine AZ rfl<|Aa fun L D=>Ad<|rn 1 rfl<|rL (RdN.shp hl') rfl<|rz rfl<|aD d rfl (fun F d=> ?_) (fun F d=> ?_)
 ·refine AZ rfl ?_
  cases d
  exact aR eV2
 refine Ab<|D _ _ ?_
 refine Aa fun M G=>Ad<|rn 1 rfl<|rL (RdN.shp hl') rfl<|rz rfl<|Ai<|AH (fun tt ll nn=> ∃(u:Nat) (a:Int),(It N l' e ask1_p0_0_ u a=some r)∧Is [(2,vF 162 #[] #[vP b 0,vP c 0]),(15,l'v),(16,vI (l'.length:Int)),(17,vI a)] [] tt ll∧nn=u+1) (N+1) ?_ ?_
 ·exact⟨N,0,d,Ah rfl rfl,rfl⟩
 clear d;rintro t l _ ⟨u,a,d,⟨⟨T,rfl⟩,rfl⟩,rfl⟩
 rcases u with _|u
 ·exact absurd d (by simp [It])
 rw [It] at d
 refine AZ rfl<|Aa fun I v=>aD d rfl (fun x d=> ?_) (fun x d=> ?_)
 ·refine Ab<|v _ _ ?_
  refine Aa fun J y=>Ai<|Ad<|rn 1 rfl<|kC d fun n d=> ?_
  obtain⟨_,⟨i,j,k,p,q,s,rfl⟩,hat21⟩:=RdN.at (E:=Ad8) hl' (Dc n)
  refine rI (RdN.shp hl') n rfl<|NB (vA #[vS (l'[a.toNat]!.1),i,j,k,vI (l'[a.toNat]!.2.2.2.2)]) (vs:=[vS (l'[a.toNat]!.1),i,j,k,vI (l'[a.toNat]!.2.2.2.2)]) (a.toNat*5) 0 rfl rfl (fun o w z_=>At.mono z_.ro_cell hat21) rfl<|rA rfl fun H=>rn 1 rfl<|r_s (KB H (l'[a.toNat]!.1) i j k (l'[a.toNat]!.2.2.2.2)) 0 _ _ _ _ _ (#[vS (l'[a.toNat]!.1),i,j,k,vI (l'[a.toNat]!.2.2.2.2)]) rfl rfl rfl rfl (.ofS rfl rfl (Ae rfl (Ae (Shp.one (Rd.shp p)) (Ae (Shp.one (Rd.shp q)) (Ae (Shp.one (Rd.shp s)) (Ae rfl Bv)))))) rfl rfl<|Af<|Ad<|rm 3 [0] rfl<|kB d fun K z d=>gV _ (BF (caps:=[vP b 0,vP c 0]) rfl mU rfl) (fun o w z_=>Tv N a (l'[a.toNat]!.1) (l'[a.toNat]!.2.1) (l'[a.toNat]!.2.2.1) (l'[a.toNat]!.2.2.2.1) (l'[a.toNat]!.2.2.2.2) e ask1_p0_0_ _ z z_.view i (z_.r p) j (z_.r q) k (z_.r s) b f (z_.r m) (AS g o w z_) c ask1_p0_0_v (Aa1.mono z_.ro_cell hask1_p0_0_) (AS h o w z_))<|rz rfl<|Ad ?_
  refine rz rfl<|aN d rfl (fun A d=> ?_) (fun A d=> ?_)
  ·refine AZ rfl ?_
   cases d
   exact aR eV2
  refine Ab<|y _ _ ?_
  refine Ag<|kC d fun B d=>rX B rfl<|rz rfl<|fg _ (Sub.of (suC _ suN)) ?_
  exact⟨u+1,by omega,u,(a+1),d,Ah rfl rfl,rfl⟩
 refine AI<|G _ _ ?_
 refine AZ rfl ?_
 cases d
 exact aR eV2
def Oj(N:Nat)(d:List ((List UInt8)×(List (Int×Int))×(List (Int×Int×Int))×(List (Int×BitVec 128×Int×BitVec 128×Int))×Int))(c:Int)(a:Ao):Option (Int×Int):=(On N d).bind fun e=>(Me N d c e a).bind fun b=>some (b.1,b.2)
theorem Wp(N l' most b r)(d:Oj N l' most b=some r)(ro l'v)(hl':RdN Ad8 ro l'v l')(a:AD)(c:Aa1 ro a b):DoesI prog 97 #[l'v,vI most,vF 98 #[] #[],vF 99 #[vA (Ac b a)] #[]] Ie ro [] (pV (vT #[vI r.1,vI r.2])):=by
 unfold Oj at d
 refine AX follows func97 rfl 20 rfl _ fz4 Bg (fun g=> ?_)
 refine Ad<|rA rfl fun e=>rz rfl<|Ad<|rn 2 rfl<|kB d fun n j d=>gS (Ls:=[(UP e (vF 99 #[vA (Ac b a)] #[]))]) (cF mW) (fun o w z_=>(Does.inv (Wu N l' _ j z_.view l'v (RdN.mono z_.ro_cell hl')) _)) (fun h m l=> ?_)
 refine rA rfl fun i=>r_s (List.flatten [(az i h),(UP e (vF 99 #[vA (Ac b a)] #[])),m]) 0 _ _ _ _ _ (#[h]) rfl rfl rfl (Ga rfl (Sl.shp l)) (.ofS rfl rfl (Ae (Shp.one (Sl.shp l)) Bv)) rfl rfl<|Af<|Ad<|rn 2 rfl<|r_W (vF 162 #[] #[vP i 0,vP e 0]) rfl (IA rfl)<|kB d fun p f d=>gV _ (cF mV) (fun o w z_=>Wy N l' most n b _ f z_.view l'v (RdN.mono z_.ro_cell hl') i h ((Ax l (Ak (Ls:=[(az i h),(UP e (vF 99 #[vA (Ac b a)] #[])),m]) (k:=2) rfl rfl)) o w z_) (Cw 0 rfl rfl o w z_) e a (Aa1.mono z_.ro_cell c) (Cw 1 rfl rfl o w z_))<|rz rfl ?_
 cases d
 exact aR eV2
def HX(N:Nat)(c:Ao):Option (Int×Int):=if(c.2.2.2.2.1.length:Int)=0 then some (0,5)else(Oj N c.2.2.2.2.1 16 c).bind fun a=>some (a.1,a.2)
theorem WD(N c r)(a:HX N c=some r)(ro)(cv:AD)(hc:Aa1 ro cv c):DoesI prog 44 #[vA (Ac c cv)] Ie ro [] (pV (vT #[vI r.1,vI r.2])):=by
 unfold HX at a
 refine AX follows func44 rfl 17 rfl _ fz1 Bg (fun b=> ?_)
 refine Ad<|rA rfl fun g=>rz rfl<|Aa fun h d=>Ad<|rm 3 [0] rfl<|rL (RdN.shp hc.2.2.2.1) rfl<|rz rfl<|aE a rfl (fun e a=> ?_) (fun e a=> ?_)
 ·refine AZ rfl ?_
  cases a
  exact aR eV2
 refine Ab<|d _ _ ?_
 refine Ad<|rm 4 [0,0] rfl<|r_W (vF 99 #[vA (Ac c cv)] #[]) rfl (IU rfl rfl)<|kB a fun i f a=>gV _ (cF qj) (fun o w z_=>Wp N c.2.2.2.2.1 16 c _ f z_.view cv.2.2.2.1 (RdN.mono z_.ro_cell hc.2.2.2.1) cv (Aa1.mono z_.ro_cell hc))<|rz rfl ?_
 cases a
 exact aR eV2
def LR(_:Nat)(a:List UInt8)(_:List Int)(_:List (Int×Int×Int×Int×BitVec 128)):Option (List UInt8):=some a
theorem SV(N x_0 x_1 x_2 r)(b:LR N x_0 x_1 x_2=some r)(ro:Ro)(x_1v:Value)(_hx_1:Rd BI ro x_1v x_1)(x_2v:Value)(_hx_2:Rd Ac7 ro x_2v x_2):Does prog 101 #[vA #[vS x_0,x_1v,x_2v]] ro [] (pV (vS r)):=by
 unfold LR at b
 refine Al follows func101 rfl 5 rfl _ fz1 (fun a=> ?_)
 refine Ad<|rA rfl fun c=>rz rfl<|AY [0] rfl ?_
 cases b
 exact aR eV1
def HD(N:Nat)(b:List ((List UInt8)×(List Int)×(List (Int×Int×Int×Int×BitVec 128)))):Nat→List (List UInt8)→Int→Option (List (List UInt8))
  |0,_,_=>none
  |e+1,c,a=>if a<(b.length:Int)then ck (0≤a∧a<(b.length:Int)) ((LR N (b[a.toNat]!.1) (b[a.toNat]!.2.1) (b[a.toNat]!.2.2)).bind fun d=>ck (0≤a∧a<(c.length:Int)) (ck (R64 (a+1)) ((HD N b e) ((c).set (a.toNat) d) (a+1))))else some c
def Nn(N:Nat)(a:List ((List UInt8)×(List Int)×(List (Int×Int×Int×Int×BitVec 128)))):Option (List (List UInt8)):=ck (0≤(a.length:Int)∧(a.length:Int)≤8796093022208) (HD N a N ((List.replicate ((a.length:Int)).toNat ([]))) 0)
theorem Vc(N l' r)(b:Nn N l'=some r)(ro l'v)(hl':RdN Ad5 ro l'v l'):Does prog 169 #[l'v,vF 101 #[] #[]] ro [] (p1 (fun s_=>s_) 9 Aa3 r):=by
 unfold Nn at b
 refine Al follows func169 rfl 26 rfl _ fz2 (fun z=> ?_)
 refine AZ rfl<|Ad<|rn 1 rfl<|rL (RdN.shp hl') rfl<|kC b fun A b=>cB 10<|SC (Ls:=[]) 9 Aa3 ([]) (l'.length:Int) rfl rfl rfl rfl rfl rfl rfl rfl rfl rfl 8796093022208 rfl A (fun _ _ _ _ _=>Iff.rfl) (fun B F G=> ?_)
 refine rz rfl<|Aa fun J C=>Ad<|rn 1 rfl<|rL (RdN.shp hl') rfl<|rz rfl<|Ai<|Bw _ (Sub.pick [F] [0] rfl)<|AH (fun tt ll nn=> ∃(m:Nat) (f:List (List UInt8)) (a:Int),(HD N l' m f a=some r)∧ ∃(c:List Bl),Sl 9 Aa3 B f c∧Is [(1,vF 101 #[] #[]),(5,B),(11,l'v),(12,vI (l'.length:Int)),(13,vI a)] (List.flatten [c]) tt ll∧nn=m+1) (N+1) ?_ ?_
 ·exact⟨N,(List.replicate ((l'.length:Int)).toNat ([])),0,b,F,G,Ah rfl rfl,rfl⟩
 clear b;rintro t l _ ⟨m,f,a,b,c,g,⟨⟨T,rfl⟩,rfl⟩,rfl⟩
 rcases m with _|m
 ·exact absurd b (by simp [HD])
 rw [HD] at b
 refine AZ rfl<|Aa fun H p=>aD b rfl (fun q b=> ?_) (fun q b=> ?_)
 ·refine Ab<|p _ _ ?_
  refine Aa fun I s=>Ai<|Ad<|rn 1 rfl<|kC b fun h b=> ?_
  obtain⟨_,⟨d,e,i,j,rfl⟩,hat20⟩:=RdN.at (E:=Ad5) hl' (Dc h)
  refine rI (RdN.shp hl') h rfl<|NB (vA #[vS (l'[a.toNat]!.1),d,e]) (vs:=[vS (l'[a.toNat]!.1),d,e]) (a.toNat*3) 0 rfl rfl (fun o w z_=>At.mono z_.ro_cell hat20) rfl<|rA rfl fun n=>rn 1 rfl<|r_s (List.flatten [(UQ n (l'[a.toNat]!.1) d e),c]) 0 _ _ _ _ _ (#[vS (l'[a.toNat]!.1),d,e]) rfl rfl rfl rfl (.ofS rfl rfl (Ae rfl (Ae (Shp.one (Rd.shp i)) (Ae (Shp.one (Rd.shp j)) Bv)))) rfl rfl<|Af<|Ag<|rm 4 [0] rfl<|kB b fun u v b=>gV _ (BF (caps:=[]) rfl nN rfl) (fun o w z_=>SV N (l'[a.toNat]!.1) (l'[a.toNat]!.2.1) (l'[a.toNat]!.2.2) _ v z_.view d (z_.r i) e (z_.r j))<|kC b fun k b=>rI (Sl.shp g) k rfl<|Rb (Ls:=[(UQ n (l'[a.toNat]!.1) d e),c]) 1 (En:=Aa3) (f[a.toNat]!) u (a.toNat) 0 rfl rfl rfl g (Dc k) rfl rfl rfl (IP rfl) rfl (fun x D=> ?_)
  refine Af<|s _ _ ?_
  refine Ag<|kC b fun y b=>rX y rfl<|rz rfl<|fg _ (Sub.pick [(UQ n (l'[a.toNat]!.1) d e),x] [1] rfl) ?_
  exact⟨m+1,by omega,m,(f).set (a.toNat) u,(a+1),b,x,D,Ah rfl rfl,rfl⟩
 refine AI<|C _ _ ?_
 refine AZ rfl ?_
 cases b
 refine Bb (fun K=>Hw (v0:=B) g (EH (Sub.pick [c] [0] rfl)) rfl (EJ rfl))
def MN(N:Nat)(_:Int)(w:Int):Option Int:=(HR N w).bind fun a=>some a
theorem YF(N x w r)(a:MN N x w=some r):Gives prog 172 #[vI x,vI w] (vI r):=by
 unfold MN at a
 refine Av follows func172 rfl 7 rfl _ fz2 (fun b=> ?_)
 refine AZ rfl<|Ad<|rn 1 rfl<|kB a fun d c a=>rc _ (cF Zm) (Pj N w _ c)<|rz rfl ?_
 cases a
 exact aR eE1
def JY(N:Nat)(b:List Int):Nat→Int→Option (Int×Int)
  |0,_=>none
  |d+1,a=>if a<(b.length:Int)then ck (0≤a∧a<(b.length:Int)) ((MN N a (b[a.toNat]!)).bind fun c=>if(c:Int)≠0 then some (a,c)else ck (R64 (a+1)) ((JY N b d) (a+1)))else some (0,0)
def NO(N:Nat)(b:List Int)(a:Int):Option (Int×Int):=if(b.length:Int)>a then some (0,2)else JY N b N 0
theorem aJ(N l' most r)(a:NO N l' most=some r)(ro l'v)(hl':Rd BI ro l'v l'):Does prog 107 #[l'v,vI most,vF 172 #[] #[]] ro [] (pV (vT #[vI r.1,vI r.2])):=by
 unfold NO at a
 refine Al follows func107 rfl 31 rfl _ fz3 (fun k=> ?_)
 refine AZ rfl<|Aa fun u m=>Ad<|rn 1 rfl<|rL (Rd.shp hl') rfl<|rz rfl<|aD a rfl (fun n a=> ?_) (fun n a=> ?_)
 ·refine AZ rfl ?_
  cases a
  exact aR eV2
 refine Ab<|m _ _ ?_
 refine Aa fun v o=>Ad<|rn 1 rfl<|rL (Rd.shp hl') rfl<|rz rfl<|Ai<|AH (fun tt ll nn=> ∃(d:Nat) (b:Int),(JY N l' d b=some r)∧Is [(2,vF 172 #[] #[]),(15,l'v),(16,vI (l'.length:Int)),(17,vI b)] [] tt ll∧nn=d+1) (N+1) ?_ ?_
 ·exact⟨N,0,a,Ah rfl rfl,rfl⟩
 clear a;rintro t l _ ⟨d,b,a,⟨⟨T,rfl⟩,rfl⟩,rfl⟩
 rcases d with _|d
 ·exact absurd a (by simp [JY])
 rw [JY] at a
 refine AZ rfl<|Aa fun p e=>aD a rfl (fun f a=> ?_) (fun f a=> ?_)
 ·refine Ab<|e _ _ ?_
  refine Aa fun q g=>Ai<|Ad<|rn 1 rfl<|kC a fun c a=>rI (Rd.shp hl') c rfl<|rE (Aw hl') c 0 rfl<|rz rfl<|Ad<|rn 3 rfl<|kB a fun s h a=>rc _ (BF (caps:=[]) rfl mM rfl) (YF N b (l'[b.toNat]!) _ h)<|rz rfl<|AZ rfl<|aN a rfl (fun i a=> ?_) (fun i a=> ?_)
  ·refine AZ rfl ?_
   cases a
   exact aR eV2
  refine Ab<|g _ _ ?_
  refine Ag<|kC a fun j a=>rX j rfl<|rz rfl<|fg _ (Sub.of suN) ?_
  exact⟨d+1,by omega,d,(b+1),a,Ah rfl rfl,rfl⟩
 refine AI<|o _ _ ?_
 refine AZ rfl ?_
 cases a
 exact aR eV2
def IC(_:Nat)(n:Int):Option (Int×Int):=ck (R64 (n - 1)) (some (0,(n - 1)))
theorem Ko(N n r)(a:IC N n=some r):Gives prog 200 #[vI n] (vA #[vI r.1,vI r.2]):=by
 unfold IC at a
 refine Av follows func200 rfl 6 rfl _ fz1 (fun b=> ?_)
 refine Ad<|rA rfl fun e=>Af<|Ad<|rn 1 rfl<|kC a fun c a=>rX c rfl<|r_W (vA #[vI 0,vI (n - 1)]) rfl (Ap rfl rfl rfl rfl)<|ry [0] rfl ?_
 cases a
 refine Bb (fun d=>EC (v0:=vA #[vI 0,vI (n - 1)]) rfl (EJ (Bh d 0 rfl rfl rfl)))
def Nw(N:Nat)(c:Int)(b:Bool):Option (Int×Int×Int×Int):=if b=true then some (0,64,0,0)else if c=33 then(IC N 32).bind fun a=>some (a.1,a.2,0,64)else some (0,0,0,0)
def Nx(N:Nat)(a:Int)(c:Bool):Option (Int×Int×Int×Int):=if c=true then(IC N 16).bind fun b=>some (b.1,b.2,1,4)else if a=31 then Nw N a (a==31)else Nw N a (a==32)
def Ny(N:Nat)(a:Int)(d:Int)(c:Bool):Option (Int×Int×Int×Int):=if c=true then some (0,128,0,0)else if a=10 then(IC N 128).bind fun b=>some (b.1,b.2,0,d)else if a=11 then some (1,128,0,0)else if a=27 then Nx N a (a==27)else Nx N a (a==28)
def LT(N:Nat)(a:Int)(c:Int)(d:Bool):Option (Int×Int×Int×Int):=if d=true then(IC N 8).bind fun b=>some (b.1,b.2,0,0)else if a=8 then Ny N a c (a==8)else Ny N a c (a==9)
def MX(N:Nat)(a:Int)(b:Int)(d:Bool):Option (Int×Int×Int×Int):=if d=true then(IC N 32).bind fun c=>some (c.1,c.2,0,0)else if a=5 then LT N a b (a==5)else if a=24 then LT N a b (a==24)else if a=29 then LT N a b (a==29)else LT N a b (a==30)
def OP(N:Nat)(a:Int)(b:Int)(e:Bool):Option (Int×Int×Int×Int):=if e=true then(IC N 24).bind fun d=>some (d.1,d.2,0,0)else if a=3 then(IC N 8).bind fun c=>some (c.1,c.2,0,0)else if a=4 then MX N a b (a==4)else if a=25 then MX N a b (a==25)else MX N a b (a==26)
def OQ(N:Nat)(a:Int)(c:Int)(d:Bool):Option (Int×Int×Int×Int):=if d=true then(IC N 32).bind fun e=>(IC N 16).bind fun b=>some (e.1,e.2,b.1,b.2)else if a=2 then OP N a c (a==2)else OP N a c (a==23)
def Nv(N:Nat)(a:Int)(b:Int)(_:Int)(_:Int)(_:BitVec 128):Option (Int×Int×Int×Int):=if a=1 then OQ N a b (a==1)else OQ N a b (a==22)
theorem kU(N x_0 x_1 x_2 x_3 x_4 r)(a:Nv N x_0 x_1 x_2 x_3 x_4=some r):Gives prog 128 #[vA #[vI x_0,vI x_1,vI x_2,vI x_3,U (hi x_4),U (lo x_4)]] (vT #[vA #[vI r.1,vI r.2.1],vA #[vI r.2.2.1,vI r.2.2.2]]):=by
 unfold Nv at a
 refine Av follows func128 rfl 64 rfl _ fz1 (fun af=> ?_)
 refine Ad<|rA rfl fun f=>rA rfl fun d=>rA rfl fun e=>Af<|Aa fun K5 ag=>AY [2] rfl<|Ai<|Cb (fun tt ll=> ∃(j:Bool),(OQ N x_0 x_1 j=some r)∧Is [(1,vP f 0),(2,vP d 0),(3,vP e 0),(5,vI x_0),(6,vB j)] [(e,222, #[vI 0,vI 0]),(d,222, #[vI 0,vI 0]),(f,53, #[vI x_0,vI x_1,vI x_2,vI x_3,U (hi x_4),U (lo x_4)])] tt ll) ?_ ?_
 ·refine AZ rfl<|aE a rfl (fun p a=> ?_) (fun p a=> ?_)
  ·refine Ab<|fg _ (Sub.of (suK _ (suK _ (suK _ suN)))) ?_
   exact⟨(x_0==1),a,Ah rfl rfl⟩
  refine Ag<|rz rfl<|fg _ (Sub.of (suK _ (suK _ (suK _ suN)))) ?_
  exact⟨(x_0==22),a,Ah rfl rfl⟩
 clear a;rintro t l ⟨j,a,⟨T,rfl⟩,rfl⟩
 unfold OQ at a
 refine aB a rfl (fun ah a=> ?_) (fun ah a=> ?_)
 ·refine Ad<|kB a fun r9 q a=>rc _ (cF LC) (Ko N 32 _ q)<|kB a fun s u a=>rc _ (cF LC) (Ko N 16 _ u)<|ry [1,0] rfl ?_
  cases a
  refine Bb (fun b=>EC (v0:=vT #[vA #[vI r9.1,vI r9.2],vA #[vI s.1,vI s.2]]) rfl (Lg (Bh b 1 rfl rfl rfl) (Bh b 0 rfl rfl rfl)))
 refine Cb (fun tt ll=> ∃(k:Bool),(OP N x_0 x_1 k=some r)∧Is [(1,vP f 0),(2,vP d 0),(3,vP e 0),(5,vI x_0),(11,vB k)] [(e,222, #[vI 0,vI 0]),(d,222, #[vI 0,vI 0]),(f,53, #[vI x_0,vI x_1,vI x_2,vI x_3,U (hi x_4),U (lo x_4)])] tt ll) ?_ ?_
 ·refine AZ rfl<|aE a rfl (fun v a=> ?_) (fun v a=> ?_)
  ·refine Ab<|fg _ (Sub.of (suK _ (suK _ (suK _ suN)))) ?_
   exact⟨(x_0==2),a,Ah rfl rfl⟩
  refine Ag<|rz rfl<|fg _ (Sub.of (suK _ (suK _ (suK _ suN)))) ?_
  exact⟨(x_0==23),a,Ah rfl rfl⟩
 clear a;rintro t l ⟨k,a,⟨T,rfl⟩,rfl⟩
 unfold OP at a
 refine aB a rfl (fun w a=> ?_) (fun w a=> ?_)
 ·refine Ad<|kB a fun x y a=>rc _ (cF LC) (Ko N 24 _ y)<|r_W (vA #[vI 0,vI 0]) rfl (Ap rfl rfl rfl rfl)<|ry [1,0] rfl ?_
  cases a
  refine Bb (fun b=>EC (v0:=vT #[vA #[vI x.1,vI x.2],vA #[vI 0,vI 0]]) rfl (Lg (Bh b 1 rfl rfl rfl) (Bh b 0 rfl rfl rfl)))
 refine AZ rfl<|aE a rfl (fun z a=> ?_) (fun z a=> ?_)
 ·refine Ad<|kB a fun A B a=>rc _ (cF LC) (Ko N 8 _ B)<|r_W (vA #[vI 0,vI 0]) rfl (Ap rfl rfl rfl rfl)<|ry [1,0] rfl ?_
  cases a
  refine Bb (fun b=>EC (v0:=vT #[vA #[vI A.1,vI A.2],vA #[vI 0,vI 0]]) rfl (Lg (Bh b 1 rfl rfl rfl) (Bh b 0 rfl rfl rfl)))
 refine Cb (fun tt ll=> ∃(m:Bool),(MX N x_0 x_1 m=some r)∧Is [(1,vP f 0),(2,vP d 0),(3,vP e 0),(5,vI x_0),(20,vB m)] [(e,222, #[vI 0,vI 0]),(d,222, #[vI 0,vI 0]),(f,53, #[vI x_0,vI x_1,vI x_2,vI x_3,U (hi x_4),U (lo x_4)])] tt ll) ?_ ?_
 ·refine AZ rfl<|aE a rfl (fun C a=> ?_) (fun C a=> ?_)
  ·refine Ab<|fg _ (Sub.of (suK _ (suK _ (suK _ suN)))) ?_
   exact⟨(x_0==4),a,Ah rfl rfl⟩
  refine AZ rfl<|aE a rfl (fun D a=> ?_) (fun D a=> ?_)
  ·refine Ab<|fg _ (Sub.of (suK _ (suK _ (suK _ suN)))) ?_
   exact⟨(x_0==25),a,Ah rfl rfl⟩
  refine Ag<|rz rfl<|fg _ (Sub.of (suK _ (suK _ (suK _ suN)))) ?_
  exact⟨(x_0==26),a,Ah rfl rfl⟩
 clear a;rintro t l ⟨m,a,⟨T,rfl⟩,rfl⟩
 unfold MX at a
 refine aB a rfl (fun E a=> ?_) (fun E a=> ?_)
 ·refine Ad<|kB a fun F G a=>rc _ (cF LC) (Ko N 32 _ G)<|r_W (vA #[vI 0,vI 0]) rfl (Ap rfl rfl rfl rfl)<|ry [1,0] rfl ?_
  cases a
  refine Bb (fun b=>EC (v0:=vT #[vA #[vI F.1,vI F.2],vA #[vI 0,vI 0]]) rfl (Lg (Bh b 1 rfl rfl rfl) (Bh b 0 rfl rfl rfl)))
 refine Cb (fun tt ll=> ∃(n:Bool),(LT N x_0 x_1 n=some r)∧Is [(1,vP f 0),(2,vP d 0),(3,vP e 0),(5,vI x_0),(26,vB n)] [(e,222, #[vI 0,vI 0]),(d,222, #[vI 0,vI 0]),(f,53, #[vI x_0,vI x_1,vI x_2,vI x_3,U (hi x_4),U (lo x_4)])] tt ll) ?_ ?_
 ·refine AZ rfl<|aE a rfl (fun H a=> ?_) (fun H a=> ?_)
  ·refine Ab<|fg _ (Sub.of (suK _ (suK _ (suK _ suN)))) ?_
   exact⟨(x_0==5),a,Ah rfl rfl⟩
  refine AZ rfl<|aE a rfl (fun I a=> ?_) (fun I a=> ?_)
  ·refine Ab<|fg _ (Sub.of (suK _ (suK _ (suK _ suN)))) ?_
   exact⟨(x_0==24),a,Ah rfl rfl⟩
  refine AZ rfl<|aE a rfl (fun J a=> ?_) (fun J a=> ?_)
  ·refine Ab<|fg _ (Sub.of (suK _ (suK _ (suK _ suN)))) ?_
   exact⟨(x_0==29),a,Ah rfl rfl⟩
  refine Ag<|rz rfl<|fg _ (Sub.of (suK _ (suK _ (suK _ suN)))) ?_
  exact⟨(x_0==30),a,Ah rfl rfl⟩
 clear a;rintro t l ⟨n,a,⟨T,rfl⟩,rfl⟩
 unfold LT at a
 refine aB a rfl (fun K a=> ?_) (fun K a=> ?_)
 ·refine Ad<|kB a fun L M a=>rc _ (cF LC) (Ko N 8 _ M)<|r_W (vA #[vI 0,vI 0]) rfl (Ap rfl rfl rfl rfl)<|ry [1,0] rfl ?_
  cases a
  refine Bb (fun b=>EC (v0:=vT #[vA #[vI L.1,vI L.2],vA #[vI 0,vI 0]]) rfl (Lg (Bh b 1 rfl rfl rfl) (Bh b 0 rfl rfl rfl)))
 refine Cb (fun tt ll=> ∃(o:Bool),(Ny N x_0 x_1 o=some r)∧Is [(1,vP f 0),(2,vP d 0),(3,vP e 0),(5,vI x_0),(33,vB o)] [(e,222, #[vI 0,vI 0]),(d,222, #[vI 0,vI 0]),(f,53, #[vI x_0,vI x_1,vI x_2,vI x_3,U (hi x_4),U (lo x_4)])] tt ll) ?_ ?_
 ·refine AZ rfl<|aE a rfl (fun O a=> ?_) (fun O a=> ?_)
  ·refine Ab<|fg _ (Sub.of (suK _ (suK _ (suK _ suN)))) ?_
   exact⟨(x_0==8),a,Ah rfl rfl⟩
  refine Ag<|rz rfl<|fg _ (Sub.of (suK _ (suK _ (suK _ suN)))) ?_
  exact⟨(x_0==9),a,Ah rfl rfl⟩
 clear a;rintro t l ⟨o,a,⟨T,rfl⟩,rfl⟩
 unfold Ny at a
 refine aB a rfl (fun P a=> ?_) (fun P a=> ?_)
 ·refine Ad<|r_W (vA #[vI 0,vI 128]) rfl (Ap rfl rfl rfl rfl)<|r_W (vA #[vI 0,vI 0]) rfl (Ap rfl rfl rfl rfl)<|ry [1,0] rfl ?_
  cases a
  refine Bb (fun b=>EC (v0:=vT #[vA #[vI 0,vI 128],vA #[vI 0,vI 0]]) rfl (Lg (Bh b 1 rfl rfl rfl) (Bh b 0 rfl rfl rfl)))
 refine AZ rfl<|aE a rfl (fun Q a=> ?_) (fun Q a=> ?_)
 ·refine Aa fun aj R=>fS (Ls:=[(Xk e 0 0),(Xk d 0 0),(jY f x_0 x_1 x_2 x_3 (hi x_4) (lo x_4))]) [(some 1000000000,true)] [] [1,0] [2] [] (by decide+kernel) (fun b=>AQ) (by decide+kernel) rfl trivial (fun hnb_=> ?_)
  refine kB a fun c S a=>rc _ (cF LC) (Ko N 128 _ S)<|rn 1 rfl<|oP (vI x_1) 2 _ _ _ _ rfl rfl rfl rfl rfl (hnb_ f (List.mem_of_getElem? (i:=0) rfl))<|r_W (vA #[vI 0,vI x_1]) rfl (Ap rfl rfl rfl rfl)<|ut [(e,222, #[vI 0,vI 0]),(d,222, #[vI c.1,vI c.2]),(f,53, #[vI x_0,vI x_1,vI x_2,vI x_3,U (hi x_4),U (lo x_4)])] 1 _ _ _ (#[vI 0,vI 0]) (#[vI c.1,vI c.2]) (#[vI c.1,vI c.2]) rfl rfl rfl rfl (.of rfl rfl) rfl rfl (List.mem_of_getElem? (i:=0) rfl) ?_
  refine ut [(e,222, #[vI 0,vI x_1]),(d,222, #[vI c.1,vI c.2]),(f,53, #[vI x_0,vI x_1,vI x_2,vI x_3,U (hi x_4),U (lo x_4)])] 0 _ _ _ (#[vI 0,vI 0]) (#[vI 0,vI x_1]) (#[vI 0,vI x_1]) rfl rfl rfl rfl (.of rfl rfl) rfl rfl (List.mem_of_getElem? (i:=1) rfl)<|Af<|R _ _ ?_
  cases a
  refine Bb (fun b=>EC (v0:=vT #[vA #[vI c.1,vI c.2],vA #[vI 0,vI x_1]]) rfl (Lg (Bh b 1 rfl rfl rfl) (Bh b 0 rfl rfl rfl)))
 refine AZ rfl<|aE a rfl (fun V a=> ?_) (fun V a=> ?_)
 ·refine Ad<|r_W (vA #[vI 1,vI 128]) rfl (Ap rfl rfl rfl rfl)<|r_W (vA #[vI 0,vI 0]) rfl (Ap rfl rfl rfl rfl)<|ry [1,0] rfl ?_
  cases a
  refine Bb (fun b=>EC (v0:=vT #[vA #[vI 1,vI 128],vA #[vI 0,vI 0]]) rfl (Lg (Bh b 1 rfl rfl rfl) (Bh b 0 rfl rfl rfl)))
 refine Cb (fun tt ll=> ∃(g:Bool),(Nx N x_0 g=some r)∧Is [(2,vP d 0),(3,vP e 0),(5,vI x_0),(48,vB g)] [(e,222, #[vI 0,vI 0]),(d,222, #[vI 0,vI 0])] tt ll) ?_ ?_
 ·refine AZ rfl<|aE a rfl (fun W a=> ?_) (fun W a=> ?_)
  ·refine Ab<|fg _ (Sub.of (suK _ (suK _ (suC _ suN)))) ?_
   exact⟨(x_0==27),a,Ah rfl rfl⟩
  refine Ag<|rz rfl<|fg _ (Sub.of (suK _ (suK _ (suC _ suN)))) ?_
  exact⟨(x_0==28),a,Ah rfl rfl⟩
 clear a;rintro t l ⟨g,a,⟨T,rfl⟩,rfl⟩
 unfold Nx at a
 refine aB a rfl (fun X a=> ?_) (fun X a=> ?_)
 ·refine Ad<|kB a fun Y Z a=>rc _ (cF LC) (Ko N 16 _ Z)<|r_W (vA #[vI 1,vI 4]) rfl (Ap rfl rfl rfl rfl)<|ry [1,0] rfl ?_
  cases a
  refine Bb (fun b=>EC (v0:=vT #[vA #[vI Y.1,vI Y.2],vA #[vI 1,vI 4]]) rfl (Lg (Bh b 1 rfl rfl rfl) (Bh b 0 rfl rfl rfl)))
 refine Cb (fun tt ll=> ∃(h:Bool),(Nw N x_0 h=some r)∧Is [(2,vP d 0),(3,vP e 0),(5,vI x_0),(53,vB h)] [(e,222, #[vI 0,vI 0]),(d,222, #[vI 0,vI 0])] tt ll) ?_ ?_
 ·refine AZ rfl<|aE a rfl (fun aa a=> ?_) (fun aa a=> ?_)
  ·refine Ab<|fg _ (Sub.of (suK _ (suK _ suN))) ?_
   exact⟨(x_0==31),a,Ah rfl rfl⟩
  refine Ag<|rz rfl<|fg _ (Sub.of (suK _ (suK _ suN))) ?_
  exact⟨(x_0==32),a,Ah rfl rfl⟩
 clear a;rintro t l ⟨h,a,⟨T,rfl⟩,rfl⟩
 unfold Nw at a
 refine aB a rfl (fun ab a=> ?_) (fun ab a=> ?_)
 ·refine Ad<|r_W (vA #[vI 0,vI 64]) rfl (Ap rfl rfl rfl rfl)<|r_W (vA #[vI 0,vI 0]) rfl (Ap rfl rfl rfl rfl)<|ry [1,0] rfl ?_
  cases a
  refine Bb (fun b=>EC (v0:=vT #[vA #[vI 0,vI 64],vA #[vI 0,vI 0]]) rfl (Lg (Bh b 1 rfl rfl rfl) (Bh b 0 rfl rfl rfl)))
 refine AZ rfl<|aE a rfl (fun ac a=> ?_) (fun ac a=> ?_)
 ·refine Ad<|kB a fun ad ae a=>rc _ (cF LC) (Ko N 32 _ ae)<|r_W (vA #[vI 0,vI 64]) rfl (Ap rfl rfl rfl rfl)<|ry [1,0] rfl ?_
  cases a
  refine Bb (fun b=>EC (v0:=vT #[vA #[vI ad.1,vI ad.2],vA #[vI 0,vI 64]]) rfl (Lg (Bh b 1 rfl rfl rfl) (Bh b 0 rfl rfl rfl)))
 refine Ab<|ag _ _ ?_
 refine Ad<|r_W (vA #[vI 0,vI 0]) rfl (Ap rfl rfl rfl rfl)<|r_W (vA #[vI 0,vI 0]) rfl (Ap rfl rfl rfl rfl)<|ry [1,0] rfl ?_
 cases a
 refine Bb (fun b=>EC (v0:=vT #[vA #[vI 0,vI 0],vA #[vI 0,vI 0]]) rfl (Lg (Bh b 1 rfl rfl rfl) (Bh b 0 rfl rfl rfl)))
end Go.Proofs.YtoolcgbcfgnipaaGreatDoor
