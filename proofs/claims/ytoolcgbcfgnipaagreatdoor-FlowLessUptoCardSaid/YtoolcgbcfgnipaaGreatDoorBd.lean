import Derived.Test.YtoolcgbcfgnipaaGreatDoorBc
namespace Go.Proofs.YtoolcgbcfgnipaaGreatDoor
open Go Go.RowKit Go.Eng _root_.Go.Proofs.Tryz
set_option linter.unusedSimpArgs false
set_option linter.unusedVariables false
set_option maxRecDepth 100000
set_option maxHeartbeats 80000000
def Ej(_:Nat)(m:Ao)(n:Int):Option Bool:=if n≥ -2 then some (decide (n<(m.2.2.2.2.1.length:Int)))else some false
theorem KW(N m n r)(a:Ej N m n=some r)(ro)(mv:AD)(hm:Aa1 ro mv m):Does prog 141 #[vA (Ac m mv),vI n] ro [] (pV (vB r)):=by
 unfold Ej at a
 refine Al follows func141 rfl 14 rfl _ fz2 (fun d=> ?_)
 refine Ad<|rA rfl fun e=>rz rfl<|Aa fun f b=>Ag<|rn 3 rfl ?_
 rcases c:(decide (n≥ -2))with _|_
 ·replace a:=iF c a
  refine rz rfl<|b _ _ ?_
  cases a
  exact aR eV1
 replace a:=iD c a
 refine rn 2 rfl<|r_y rfl<|rm 1 [0] rfl<|r_y rfl<|rL (RdN.shp hm.2.2.2.1) rfl<|rz rfl<|b _ _ ?_
 cases a
 exact aR eV1
def Dn(N:Nat)(m:Ao)(c:List (Int×BitVec 128×Int×BitVec 128×Int))(b:Int)(a:Int→Option Int)(e:Bool):Option Int:=if e=true then some 9 else(Ho N ([97,110,100]:List UInt8) ((c[b.toNat]!).1) ((c[b.toNat]!).2.1) ((c[b.toNat]!).2.2.1) ((c[b.toNat]!).2.2.2.1)).bind fun d=>if((d.1==((c[b.toNat]!).1))&&(d.2.1==((c[b.toNat]!).2.1)))=true then(Ej N m ((c[b.toNat]!).2.2.2.2)).bind fun f=>if f=true then ck (R64 (b+1)) (a (b+1))else some 5 else some 14
def Dp(N:Nat)(m:Ao)(b:List (Int×BitVec 128×Int×BitVec 128×Int))(e:Int×Bool)(c:Int)(a:Int→Option Int)(d:Bool):Option Int:=if d=true then Dn N m b c a true else Dn N m b c a ((((b[c.toNat]!).2.2.1:Int) !=e.1))
def Dq(N:Nat)(m:Ao)(b:List (Int×BitVec 128×Int×BitVec 128×Int))(d:Int×Bool)(c:Int)(a:Int→Option Int)(e:Bool):Option Int:=if e=true then Dp N m b d c a true else Dp N m b d c a ((((b[c.toNat]!).1:Int) !=d.1))
def AF(N:Nat)(m:Ao)(a:List (Int×BitVec 128×Int×BitVec 128×Int))(d:Int)(c:Int×Bool):Nat→Int→Option Int
  |0,_=>none
  |e+1,b=>if b<(a.length:Int)then ck (0≤b∧b<(a.length:Int)) ((Ck N ((a[b.toNat]!).1) ((a[b.toNat]!).2.1)).bind fun f=>if f=true then(Ck N ((a[b.toNat]!).2.2.1) ((a[b.toNat]!).2.2.2.1)).bind fun g=>Dq N m a c b (AF N m a d c e) (!(g))else Dq N m a c b (AF N m a d c e) true)else(Ej N m d).bind fun h=>if h=true then some 0 else some 5
def Dr(N:Nat)(m:Ao)(d:List (Int×Int×Int))(a:List (Int×BitVec 128×Int×BitVec 128×Int))(b:Int)(c:Bool):Option Int:=if c=true then some 4 else(Gk N m d).bind fun e=>AF N m a b e N 0
def BM(N:Nat)(m:Ao)(c:List (Int×Int))(d:List (Int×Int×Int))(b:List (Int×BitVec 128×Int×BitVec 128×Int))(e:Int):Nat→Int→Option Int
  |0,_=>none
  |h+1,a=>if a<(c.length:Int)then ck (0≤a∧a<(c.length:Int)) ((EL N m ((c[a.toNat]!).1) ((c[a.toNat]!).2)).bind fun f=>if(f:Int)≠0 then some f else ck (R64 (a+1)) ((BM N m c d b e h) (a+1)))else(EK N m d true).bind fun g=>if(g:Int)≠0 then some g else if(b.length:Int)>8 then some 2 else if(b.length:Int)>0 then Dr N m d b e (((d.length:Int)==0))else Dr N m d b e false
def DE(N:Nat)(m:Ao)(_:List UInt8)(a:List (Int×Int))(b:List (Int×Int×Int))(c:List (Int×BitVec 128×Int×BitVec 128×Int))(d:Int):Option Int:=if(a.length:Int)>4 then some 2 else BM N m a b c d N 0
theorem Oy(N m s_0 s_1 s_2 s_3 s_4 r)(a:DE N m s_0 s_1 s_2 s_3 s_4=some r)(ro)(mv:AD)(hm:Aa1 ro mv m)(s_1v)(hs_1:Rd Ae9 ro s_1v s_1)(s_2v)(hs_2:Rd Ac9 ro s_2v s_2)(s_3v)(hs_3:Rd Af0 ro s_3v s_3):Does prog 82 #[vA (Ac m mv),vA #[vS s_0,s_1v,s_2v,s_3v,vI s_4]] ro [] (pV (vI r)):=by
 unfold DE at a
 refine Al follows func82 rfl 121 rfl _ fz2 (fun ah=> ?_)
 refine Ad<|rA rfl fun n=>rA rfl fun p=>rz rfl<|Aa fun K4 ai=>Ad<|rm 2 [0] rfl<|rL (Rd.shp hs_1) rfl<|rz rfl<|aD a rfl (fun aj a=> ?_) (fun aj a=> ?_)
 ·refine AZ rfl ?_
  cases a
  exact aR eV1
 refine Ab<|ai _ _ ?_
 refine Aa fun K8 ak=>AZ rfl<|Ai<|AH (fun tt ll nn=> ∃(f:Nat) (e:Int),(BM N m s_1 s_2 s_3 s_4 f e=some r)∧Is [(2,vP n 0),(3,vP p 0),(5,vI e)] [(p,86, #[vS s_0,s_1v,s_2v,s_3v,vI s_4]),(n,35,(Ac m mv))] tt ll∧nn=f+1) (N+1) ?_ ?_
 ·exact⟨N,0,a,Ah rfl rfl,rfl⟩
 clear a;rintro t l _ ⟨f,e,a,⟨⟨T,rfl⟩,rfl⟩,rfl⟩
 rcases f with _|f
 ·exact absurd a (by simp [BM])
 rw [BM] at a
 refine Aa fun ap B=>Ad<|rm 3 [0] rfl<|rL (Rd.shp hs_1) rfl<|rz rfl<|aD a rfl (fun C a=> ?_) (fun C a=> ?_)
 ·refine Ab<|B _ _ ?_
  refine Aa fun aq D=>Ai<|Aa fun ar E=>BE [(some 31,false)] (conG prog [(31,cV (EL N m ((s_1[e.toNat]!).1) ((s_1[e.toNat]!).2)) fun al=>vI al)]) [] (by decide+kernel) (fun hn=>AQ)<|rm 4 [1,0] rfl<|kC a fun q a=>rI (Rd.shp hs_1) q rfl<|rE (Aw hs_1) q 0 rfl<|kB a fun au s a=>rg _ (cF nj) (fun o w z_=>PA N m ((s_1[e.toNat]!).1) ((s_1[e.toNat]!).2) _ s z_.view mv (Aa1.mono z_.ro_cell hm)) (Ha s)<|rz rfl<|E _ _ ?_
  refine AZ rfl<|aN a rfl (fun F a=> ?_) (fun F a=> ?_)
  ·refine AZ rfl ?_
   cases a
   exact aR eV1
  refine Ab<|D _ _ ?_
  refine Ag<|rn 1 rfl<|kC a fun G a=>rX G rfl<|rz rfl<|fg _ (Sub.of (suK _ (suK _ suN))) ?_
  exact⟨f+1,by omega,f,(e+1),a,Ah rfl rfl,rfl⟩
 refine AI<|ak _ _ ?_
 refine Ad<|rm 3 [1,0] rfl<|kB a fun av H a=>gV _ (cF cp) (fun o w z_=>LF N m s_2 true _ H z_.view mv (Aa1.mono z_.ro_cell hm) s_2v (z_.r hs_2))<|rz rfl<|Aa fun aw I=>AZ rfl<|aN a rfl (fun J a=> ?_) (fun J a=> ?_)
 ·refine AZ rfl ?_
  cases a
  exact aR eV1
 refine Ab<|I _ _ ?_
 refine Aa fun ax K=>Ad<|rm 2 [0] rfl<|rL (Rd.shp hs_3) rfl<|rz rfl<|aD a rfl (fun L a=> ?_) (fun L a=> ?_)
 ·refine AZ rfl ?_
  cases a
  exact aR eV1
 refine Ab<|K _ _ ?_
 refine Aa fun ay M=>Aa fun az O=>Ag<|rm 2 [0] rfl<|rL (Rd.shp hs_3) rfl<|rn 2 rfl<|AG 5 55 [(2,vP n 0),(3,vP p 0)] vB (fun b_=>Dr N m s_2 s_3 s_4 b_=some r) (fun ba a T=> ?_) (fun g=> ?_)
 ·unfold Dr at a
  refine Af<|O _ _ ?_
  refine aB a rfl (fun P a=> ?_) (fun P a=> ?_)
  ·refine AZ rfl ?_
   cases a
   exact aR eV1
  refine Ab<|M _ _ ?_
  refine Ad<|rm 3 [1,0] rfl<|kB a fun c Q a=>gV _ (cF cm) (fun o w z_=>LG N m s_2 _ Q z_.view mv (Aa1.mono z_.ro_cell hm) s_2v (z_.r hs_2))<|rz rfl<|Aa fun bb R=>AZ rfl<|Ai ?_
  refine AH (fun tt ll nn=> ∃(d:Nat) (b:Int),(AF N m s_3 s_4 c d b=some r)∧Is [(2,vP n 0),(3,vP p 0),(8,vI c.1),(10,vI b)] [(p,86, #[vS s_0,s_1v,s_2v,s_3v,vI s_4]),(n,35,(Ac m mv))] tt ll∧nn=d+1) (N+1) ?_ ?_
  ·exact⟨N,0,a,Ah rfl rfl,rfl⟩
  clear a;rintro t l _ ⟨d,b,a,⟨⟨T,rfl⟩,rfl⟩,rfl⟩
  rcases d with _|d
  ·exact absurd a (by simp [AF])
  rw [AF] at a
  refine Aa fun bc S=>Ad<|rm 3 [0] rfl<|rL (Rd.shp hs_3) rfl<|rz rfl<|aD a rfl (fun U a=> ?_) (fun U a=> ?_)
  ·refine Ab<|S _ _ ?_
   refine Aa fun bd V=>Ai<|Ad<|rm 3 [0] rfl<|kC a fun u a=>rI (Rd.shp hs_3) u rfl<|rE (Aw hs_3) u 0 rfl<|rA rfl fun A=>ry [0] rfl ?_
   refine Aa fun be W=>Aa fun bf X=>Ag<|rm 2 [0] rfl<|kB a fun am Y a=>rc _ (cF OS) (Gx N ((s_3[b.toNat]!).1) ((s_3[b.toNat]!).2.1) _ Y)<|rn 2 rfl<|AG 5 84 [(2,vP n 0),(3,vP p 0),(8,vI c.1),(10,vI b),(11,vP A 0)] vB (fun b_=>Dq N m s_3 c b (AF N m s_3 s_4 c d) b_=some r) (fun an a T=> ?_) (fun g=> ?_)
   ·unfold Dq at a
    refine rn 1 rfl<|AG 6 91 [(2,vP n 0),(3,vP p 0),(8,vI c.1),(10,vI b),(11,vP A 0)] vB (fun b_=>Dp N m s_3 c b (AF N m s_3 s_4 c d) b_=some r) (fun ao a T=> ?_) (fun g=> ?_)
    ·unfold Dp at a
     refine rn 1 rfl<|AG 6 98 [(2,vP n 0),(3,vP p 0),(8,vI c.1),(10,vI b),(11,vP A 0)] vB (fun b_=>Dn N m s_3 b (AF N m s_3 s_4 c d) b_=some r) (fun bg a T=> ?_) (fun g=> ?_)
     ·unfold Dn at a
      refine Af<|X _ _ ?_
      refine aB a rfl (fun Z a=> ?_) (fun Z a=> ?_)
      ·refine AZ rfl ?_
       cases a
       exact aR eV1
      refine Ab<|W _ _ ?_
      refine Ad<|rm 4 [0,0] rfl<|kB a fun k aa a=>rc _ (cF nh) (QV N ([97,110,100]:List UInt8) ((s_3[b.toNat]!).1) ((s_3[b.toNat]!).2.1) ((s_3[b.toNat]!).2.2.1) ((s_3[b.toNat]!).2.2.2.1) _ aa)<|rn 3 rfl<|rA rfl fun bh=>ry [0] rfl<|Aa fun bi ab=>Ad<|rm 2 [0] rfl ?_
      refine rm 1 [1] rfl<|r_W (vB (!((k.1==((s_3[b.toNat]!).1))&&(k.2.1==((s_3[b.toNat]!).2.1))))) rfl (bu rfl rfl kJ (Zk k.1 ((s_3[b.toNat]!).1) k.2.1 ((s_3[b.toNat]!).2.1)))<|Af<|Bf _ rfl (fun h=> ?_) (fun h=> ?_)
      ·replace a:=ifn (Bool.eq_false_iff.1 (Da h)) a
       refine AZ rfl ?_
       cases a
       exact aR eV1
      replace a:=ifp (Db h) a
      refine Ab<|ab _ _ ?_
      refine Ad<|rm 3 [3,1] rfl<|kB a fun bj ac a=>gV _ (cF cj) (fun o w z_=>KW N m ((s_3[b.toNat]!).2.2.2.2) _ ac z_.view mv (Aa1.mono z_.ro_cell hm))<|rz rfl<|Bf _ rfl (fun i=> ?_) (fun i=> ?_)
      ·replace a:=ifn (Bool.eq_false_iff.1 (Da i)) a
       refine AZ rfl ?_
       cases a
       exact aR eV1
      replace a:=ifp (Db i) a
      refine Ab<|V _ _ ?_
      refine Ag<|rn 1 rfl<|kC a fun ad a=>rX ad rfl<|rz rfl<|fg _ (Sub.of (suC _ (suC _ (suK _ (suK _ suN))))) ?_
      exact⟨d+1,by omega,d,(b+1),a,Ah rfl rfl,rfl⟩
     rcases v:ao with _|_
     ·replace a:=iB v a
      refine rn 2 rfl<|r_y rfl<|rm 4 [0] rfl ?_
      exact g _ _ a rfl rfl
     replace a:=ifp v a
     refine rn 6 rfl ?_
     exact g _ _ a rfl rfl
    rcases x:an with _|_
    ·replace a:=iB x a
     refine rn 2 rfl<|r_y rfl<|rm 4 [0] rfl ?_
     exact g _ _ a rfl rfl
    replace a:=ifp x a
    refine rn 6 rfl ?_
    exact g _ _ a rfl rfl
   rcases y:(!(am))with _|_
   ·replace a:=ifp (Db y) a
    refine rn 1 rfl<|r_y rfl<|rm 1 [0] rfl<|r_y rfl<|kB a fun bk ae a=>rc _ (cF OS) (Gx N ((s_3[b.toNat]!).2.2.1) ((s_3[b.toNat]!).2.2.2.1) _ ae)<|rn 2 rfl ?_
    exact g _ _ a rfl rfl
   replace a:=ifn (Bool.eq_false_iff.1 (Da y)) a
   refine rn 5 rfl ?_
   exact g _ _ a rfl rfl
  refine AI<|R _ _ ?_
  refine Aa fun bl af=>Ad<|rm 3 [1,0] rfl<|kB a fun bm ag a=>gV _ (cF cj) (fun o w z_=>KW N m s_4 _ ag z_.view mv (Aa1.mono z_.ro_cell hm))<|rz rfl<|Bf _ rfl (fun j=> ?_) (fun j=> ?_)
  ·replace a:=ifn (Bool.eq_false_iff.1 (Da j)) a
   refine AZ rfl ?_
   cases a
   exact aR eV1
  replace a:=ifp (Db j) a
  refine Ab<|af _ _ ?_
  refine AZ rfl ?_
  cases a
  exact aR eV1
 rcases z:(decide ((s_3.length:Int)>0))with _|_
 ·replace a:=iF z a
  refine rn 5 rfl ?_
  exact g _ _ a rfl rfl
 replace a:=iD z a
 refine rn 1 rfl<|r_y rfl<|rm 1 [0] rfl<|r_y rfl<|rL (Rd.shp hs_2) rfl<|rn 2 rfl ?_
 exact g _ _ a rfl rfl
def ER(b:Int)(a:Bool→Int→Option Int)(c:Bool):Option Int:=ck (R64 (b+1)) (a c (b+1))
def BL(d:List Int)(f:Int)(e:Bool)(b:Int)(a:Bool→Int→Option Int):Nat→Int→Option Int
  |0,_=>none
  |g+1,c=>if c<b then ck (0≤c∧c<(d.length:Int)) (if(d[c.toNat]!:Int)=d[b.toNat]! then some 6 else ck (R64 (c+1)) ((BL d f e b a g) (c+1)))else if e=true then ER b a true else ER b a ((d[b.toNat]!:Int)==f)
def Dl(N:Nat)(d:List Int)(f:Int)(b:Bool)(c:Int)(a:Bool→Int→Option Int)(e:Bool):Option Int:=if e=true then some 5 else BL d f b c a N 0
def Dk(a:Bool):Option Int:=if a=true then some 7 else some 0
def AA(N:Nat)(m:Ao)(a:List Int)(d:Int)(f:List (Int×BitVec 128))(e:Int):Nat→Bool→Int→Option Int
  |0,_,_=>none
  |h+1,c,b=>if b<(a.length:Int)then ck (0≤b∧b<(a.length:Int)) (if(a[b.toNat]!:Int)<0 then Dl N a d c b (AA N m a d f e h) true else Dl N a d c b (AA N m a d f e h) (decide ((a[b.toNat]!:Int)≥(m.2.2.2.2.2.1.length:Int))))else if(a.length:Int)=0 then some 5 else if c=true then(Eo N m d f).bind fun g=>if(g:Int)≠0 then some g else if e<1 then Dk true else Dk (decide (e>256))else some 16
def Dm(N:Nat)(m:Ao)(a:List (Int×Int×Int))(c:List Int)(d:Int)(f:List (Int×BitVec 128))(e:Int)(g:Bool):Option Int:=if g=true then some 10 else if(a.length:Int)=0 then some 5 else(EK N m a false).bind fun b=>if(b:Int)≠0 then some b else if(c.length:Int)>8 then some 2 else AA N m c d f e N false 0
def DD(N:Nat)(m:Ao)(_:List UInt8)(d:Int)(a:List (Int×Int×Int))(b:List Int)(c:Int)(f:List (Int×BitVec 128))(e:Int):Option Int:=if d<0 then Dm N m a b c f e true else Dm N m a b c f e (decide (d>3))
theorem Ox(N m t_0 t_1 t_2 t_3 t_4 t_5 t_6 r)(a:DD N m t_0 t_1 t_2 t_3 t_4 t_5 t_6=some r)(ro)(mv:AD)(hm:Aa1 ro mv m)(t_2v)(ht_2:Rd Ac9 ro t_2v t_2)(t_3v)(ht_3:Rd BI ro t_3v t_3)(t_5v)(ht_5:Rd Ac8 ro t_5v t_5):Does prog 84 #[vA (Ac m mv),vA #[vS t_0,vI t_1,t_2v,t_3v,vI t_4,t_5v,vI t_6]] ro [] (pV (vI r)):=by
 unfold DD at a
 refine Al follows func84 rfl 99 rfl _ fz2 (fun ab=> ?_)
 refine Ad<|rA rfl fun s=>rA rfl fun u=>rz rfl<|Aa fun K4 ac=>Aa fun K5 ad=>Ag<|rm 4 [0] rfl<|AG 4 17 [(2,vP s 0),(3,vP u 0)] vB (fun b_=>Dm N m t_2 t_3 t_4 t_5 t_6 b_=some r) (fun b6 a T=> ?_) (fun g=> ?_)
 ·unfold Dm at a
  refine Af<|ad _ _ ?_
  refine aB a rfl (fun ae a=> ?_) (fun ae a=> ?_)
  ·refine AZ rfl ?_
   cases a
   exact aR eV1
  refine Ab<|ac _ _ ?_
  refine Aa fun K9 af=>Ad<|rm 2 [0] rfl<|rL (Rd.shp ht_2) rfl<|rz rfl<|aE a rfl (fun v a=> ?_) (fun v a=> ?_)
  ·refine AZ rfl ?_
   cases a
   exact aR eV1
  refine Ab<|af _ _ ?_
  refine Ad<|rm 3 [1,0] rfl<|kB a fun ai x a=>gV _ (cF cp) (fun o w z_=>LF N m t_2 false _ x z_.view mv (Aa1.mono z_.ro_cell hm) t_2v (z_.r ht_2))<|rz rfl<|Aa fun aj y=>AZ rfl<|aN a rfl (fun z a=> ?_) (fun z a=> ?_)
  ·refine AZ rfl ?_
   cases a
   exact aR eV1
  refine Ab<|y _ _ ?_
  refine Aa fun ak A=>Ad<|rm 2 [0] rfl<|rL (Rd.shp ht_3) rfl<|rz rfl<|aD a rfl (fun B a=> ?_) (fun B a=> ?_)
  ·refine AZ rfl ?_
   cases a
   exact aR eV1
  refine Ab<|A _ _ ?_
  refine AZ rfl<|Aa fun al C=>AZ rfl<|Ai<|AH (fun tt ll nn=> ∃(d:Nat) (b:Bool) (c:Int),(AA N m t_3 t_4 t_5 t_6 d b c=some r)∧Is [(2,vP s 0),(3,vP u 0),(6,vB b),(7,vI c)] [(u,177, #[vS t_0,vI t_1,t_2v,t_3v,vI t_4,t_5v,vI t_6]),(s,35,(Ac m mv))] tt ll∧nn=d+1) (N+1) ?_ ?_
  ·exact⟨N,false,0,a,Ah rfl rfl,rfl⟩
  clear a;rintro t l _ ⟨d,b,c,a,⟨⟨T,rfl⟩,rfl⟩,rfl⟩
  rcases d with _|d
  ·exact absurd a (by simp [AA])
  rw [AA] at a
  refine Aa fun am D=>Ad<|rm 3 [0] rfl<|rL (Rd.shp ht_3) rfl<|rz rfl<|aD a rfl (fun E a=> ?_) (fun E a=> ?_)
  ·refine Ab<|D _ _ ?_
   refine Aa fun an F=>Ai<|Ad<|rm 3 [0] rfl<|kC a fun j a=>rI (Rd.shp ht_3) j rfl<|rE (Aw ht_3) j 0 rfl<|rz rfl<|Aa fun ao G=>Aa fun ap H=>Ag<|rn 3 rfl ?_
   refine AG 6 53 [(2,vP s 0),(3,vP u 0),(6,vB b),(7,vI c),(8,vI (t_3[c.toNat]!))] vB (fun b_=>Dl N t_3 t_4 b c (AA N m t_3 t_4 t_5 t_6 d) b_=some r) (fun aq a T=> ?_) (fun g=> ?_)
   ·unfold Dl at a
    refine Af<|H _ _ ?_
    refine aB a rfl (fun I a=> ?_) (fun I a=> ?_)
    ·refine AZ rfl ?_
     cases a
     exact aR eV1
    refine Ab<|G _ _ ?_
    refine Aa fun ar J=>AZ rfl<|Ai<|AH (fun tt ll nn=> ∃(f:Nat) (i:Int),(BL t_3 t_4 b c (AA N m t_3 t_4 t_5 t_6 d) f i=some r)∧Is [(2,vP s 0),(3,vP u 0),(6,vB b),(7,vI c),(8,vI (t_3[c.toNat]!)),(9,vI i)] [(u,177, #[vS t_0,vI t_1,t_2v,t_3v,vI t_4,t_5v,vI t_6]),(s,35,(Ac m mv))] tt ll∧nn=f+1) (N+1) ?_ ?_
    ·exact⟨N,0,a,Ah rfl rfl,rfl⟩
    clear a;rintro t l _ ⟨f,i,a,⟨⟨T,rfl⟩,rfl⟩,rfl⟩
    rcases f with _|f
    ·exact absurd a (by simp [BL])
    rw [BL] at a
    refine Aa fun au K=>AZ rfl<|aD a rfl (fun L a=> ?_) (fun L a=> ?_)
    ·refine Ab<|K _ _ ?_
     refine Aa fun av M=>Ai<|Ad<|rm 3 [0] rfl<|kC a fun k a=>rI (Rd.shp ht_3) k rfl<|rE (Aw ht_3) k 0 rfl<|rz rfl<|aE a rfl (fun O a=> ?_) (fun O a=> ?_)
     ·refine AZ rfl ?_
      cases a
      exact aR eV1
     refine Ab<|M _ _ ?_
     refine Ag<|rn 1 rfl<|kC a fun P a=>rX P rfl<|rz rfl<|fg _ (Sub.of (suK _ (suK _ suN))) ?_
     exact⟨f+1,by omega,f,(i+1),a,Ah rfl rfl,rfl⟩
    refine AI<|J _ _ ?_
    refine Ag<|rn 2 rfl<|AG 6 73 [(2,vP s 0),(3,vP u 0),(6,vB b),(7,vI c)] vB (fun b_=>ER c (AA N m t_3 t_4 t_5 t_6 d) b_=some r) (fun ag a T=> ?_) (fun g=> ?_)
    ·unfold ER at a
     refine rz rfl<|F _ _ ?_
     refine Ag<|rn 1 rfl<|kC a fun Q a=>rX Q rfl<|rz rfl<|fg _ (Sub.of (suK _ (suK _ suN))) ?_
     exact⟨d+1,by omega,d,ag,(c+1),a,Ah rfl rfl,rfl⟩
    rcases e:b with _|_
    ·replace a:=iB e a
     refine rn 3 rfl<|r_y rfl<|rm 3 [0] rfl ?_
     exact g _ _ a rfl (by first|rfl|(simp only [e];done)|(simp only [e];rfl))
    replace a:=ifp e a
    refine rn 6 rfl ?_
    exact g _ _ a rfl (by first|rfl|(simp only [e];done)|(simp only [e];rfl))
   rcases n:(decide ((t_3[c.toNat]!:Int)<0))with _|_
   ·replace a:=iF n a
    refine rn 2 rfl<|r_y rfl<|rm 1 [1] rfl<|r_y rfl<|rL (RdN.shp hm.2.2.2.2.1) rfl<|rn 2 rfl ?_
    exact g _ _ a rfl rfl
   replace a:=iD n a
   refine rn 6 rfl ?_
   exact g _ _ a rfl rfl
  refine AI<|C _ _ ?_
  refine Aa fun aw R=>Ad<|rm 2 [0] rfl<|rL (Rd.shp ht_3) rfl<|rz rfl<|aE a rfl (fun S a=> ?_) (fun S a=> ?_)
  ·refine AZ rfl ?_
   cases a
   exact aR eV1
  refine Ab<|R _ _ ?_
  refine Aa fun ax U=>AZ rfl<|Bf _ rfl (fun h=> ?_) (fun h=> ?_)
  ·replace a:=ifn (Bool.eq_false_iff.1 (Da h)) a
   refine AZ rfl ?_
   cases a
   exact aR eV1
  replace a:=ifp (Db h) a
  refine Ab<|U _ _ ?_
  refine Ad<|rm 7 [1,0,0] rfl<|kB a fun ah V a=>gV _ (cF cq) (fun o w z_=>KX N m t_4 t_5 _ V z_.view mv (Aa1.mono z_.ro_cell hm) t_5v (z_.r ht_5))<|rz rfl<|Aa fun ay W=>AZ rfl<|aN a rfl (fun X a=> ?_) (fun X a=> ?_)
  ·refine AZ rfl<|GQ [(4,vI ah)] rfl (fun T=> ?_)
   cases a
   exact aR eV1
  refine Ab<|W _ _ ?_
  refine Aa fun az Y=>Aa fun ba Z=>Ag<|rm 4 [0] rfl<|AG 4 98 [] vB (fun b_=>Dk b_=some r) (fun bb a T=> ?_) (fun g=> ?_)
  ·unfold Dk at a
   refine Af<|Z _ _ ?_
   refine aB a rfl (fun aa a=> ?_) (fun aa a=> ?_)
   ·refine AZ rfl ?_
    cases a
    exact aR eV1
   refine Ab<|Y _ _ ?_
   refine AZ rfl ?_
   cases a
   exact aR eV1
  rcases p:(decide (t_6<1))with _|_
  ·replace a:=iF p a
   refine rn 1 rfl<|r_y rfl<|rm 3 [0] rfl ?_
   exact g _ _ a rfl rfl
  replace a:=iD p a
  refine rn 4 rfl ?_
  exact g _ _ a rfl rfl
 rcases q:(decide (t_1<0))with _|_
 ·replace a:=iF q a
  refine rn 1 rfl<|r_y rfl<|rm 3 [0] rfl ?_
  exact g _ _ a rfl rfl
 replace a:=iD q a
 refine rn 4 rfl ?_
 exact g _ _ a rfl rfl
def Dj(a:Bool):Option Int:=if a=true then some 7 else some 0
def BC(a:Int):Option Int:=if a<1 then Dj true else Dj (decide (a>8))
def Di(a:Bool):Option Int:=if a=true then some 9 else BC 1
def Dh(b:Int)(a:Int→Option Int)(c:Bool):Option Int:=if c=true then some 9 else ck (R64 (b+1)) (a (b+1))
def Bk(N:Nat)(m:Ao)(i:Int):Nat→Int→Option Int
  |0,_=>none
  |b+1,a=>if a<(((m.2.2.2.2.2.1)[i.toNat]!.2.1).length:Int)then ck (0≤a∧a<(((m.2.2.2.2.2.1)[i.toNat]!.2.1).length:Int)) (if(((m.2.2.2.2.2.1)[i.toNat]!.2.1)[a.toNat]!:Int)<1 then Dh a (Bk N m i b) true else ck (0≤a∧a<(((m.2.2.2.2.2.1)[i.toNat]!.2.1).length:Int)) (Dh a (Bk N m i b) (decide ((((m.2.2.2.2.2.1)[i.toNat]!.2.1)[a.toNat]!:Int)>128))))else(FM N m ((m.2.2.2.2.2.1)[i.toNat]!.2.2) (((m.2.2.2.2.2.1)[i.toNat]!.2.1).length:Int)).bind fun c=>some c
def Dg(m:Ao)(i:Int)(a:Bool):Option Int:=if a=true then some 9 else ck (0≤i∧i<(m.2.2.2.2.2.2.2.2.2.2.2.2.1.length:Int)) (BC (((m.2.2.2.2.2.2.2.2.2.2.2.2.1)[i.toNat]!).2.2))
def Bz(m:Ao)(i:Int)(a:Bool):Option Int:=if a=true then some 7 else BC (((m.2.2.2.2.2.2.2.2.2.2.2.2.2.2.1)[i.toNat]!).2.1)
def Df(m:Ao)(i:Int)(a:Bool):Option Int:=if a=true then ck (0≤i∧i<(m.2.2.2.2.2.2.2.2.2.2.2.2.2.2.1.length:Int)) (if(((m.2.2.2.2.2.2.2.2.2.2.2.2.2.2.1)[i.toNat]!).2.2.1:Int)<0 then Bz m i true else ck (0≤i∧i<(m.2.2.2.2.2.2.2.2.2.2.2.2.2.2.1.length:Int)) (if(((m.2.2.2.2.2.2.2.2.2.2.2.2.2.2.1)[i.toNat]!).2.2.1:Int)>65535 then Bz m i true else ck (0≤i∧i<(m.2.2.2.2.2.2.2.2.2.2.2.2.2.2.1.length:Int)) (if(((m.2.2.2.2.2.2.2.2.2.2.2.2.2.2.1)[i.toNat]!).2.2.2:Int)<1 then Bz m i true else ck (0≤i∧i<(m.2.2.2.2.2.2.2.2.2.2.2.2.2.2.1.length:Int)) (Bz m i (decide ((((m.2.2.2.2.2.2.2.2.2.2.2.2.2.2.1)[i.toNat]!).2.2.2:Int)>1048576))))))else Bz m i false
def Fa(N:Nat)(m:Ao)(a:Int)(i:Int):Option Int:=if a=3 then ck (0≤i∧i<(m.2.2.2.1.length:Int)) (if(((m.2.2.2.1)[i.toNat]!).2:Int)<1 then Di true else ck (0≤i∧i<(m.2.2.2.1.length:Int)) (Di (decide ((((m.2.2.2.1)[i.toNat]!).2:Int)>128))))else if a=4 then ck (0≤i∧i<(m.2.2.2.2.1.length:Int)) ((DE N m ((m.2.2.2.2.1)[i.toNat]!.1) ((m.2.2.2.2.1)[i.toNat]!.2.1) ((m.2.2.2.2.1)[i.toNat]!.2.2.1) ((m.2.2.2.2.1)[i.toNat]!.2.2.2.1) ((m.2.2.2.2.1)[i.toNat]!.2.2.2.2)).bind fun b=>some b)else if a=5 then ck (0≤i∧i<(m.2.2.2.2.2.1.length:Int)) (if((((m.2.2.2.2.2.1)[i.toNat]!.2.1).length:Int):Int)>8 then some 2 else Bk N m i N 0)else if a=6 then ck (0≤i∧i<(m.2.2.2.2.2.2.1.length:Int)) ((DD N m ((m.2.2.2.2.2.2.1)[i.toNat]!.1) ((m.2.2.2.2.2.2.1)[i.toNat]!.2.1) ((m.2.2.2.2.2.2.1)[i.toNat]!.2.2.1) ((m.2.2.2.2.2.2.1)[i.toNat]!.2.2.2.1) ((m.2.2.2.2.2.2.1)[i.toNat]!.2.2.2.2.1) ((m.2.2.2.2.2.2.1)[i.toNat]!.2.2.2.2.2.1) ((m.2.2.2.2.2.2.1)[i.toNat]!.2.2.2.2.2.2)).bind fun c=>some c)else if a=12 then ck (0≤i∧i<(m.2.2.2.2.2.2.2.2.2.2.2.2.1.length:Int)) (if(((m.2.2.2.2.2.2.2.2.2.2.2.2.1)[i.toNat]!).2.1:Int)<1 then Dg m i true else ck (0≤i∧i<(m.2.2.2.2.2.2.2.2.2.2.2.2.1.length:Int)) (Dg m i (decide ((((m.2.2.2.2.2.2.2.2.2.2.2.2.1)[i.toNat]!).2.1:Int)>128))))else if a=13 then ck (0≤i∧i<(m.2.2.2.2.2.2.2.2.2.2.2.2.2.1.length:Int)) (BC (((m.2.2.2.2.2.2.2.2.2.2.2.2.2.1)[i.toNat]!).2))else if a=14 then ck (0≤i∧i<(m.2.2.2.2.2.2.2.2.2.2.2.2.2.2.1.length:Int)) (if(((m.2.2.2.2.2.2.2.2.2.2.2.2.2.2.1)[i.toNat]!).2.1:Int)≥1 then Df m i (decide ((((m.2.2.2.2.2.2.2.2.2.2.2.2.2.2.1)[i.toNat]!).2.1:Int)≤8))else Df m i false)else BC 1
theorem Ow(N m part i r)(a:Fa N m part i=some r)(ro)(mv:AD)(hm:Aa1 ro mv m):Does prog 39 #[vA (Ac m mv),vI part,vI i] ro [] (pV (vI r)):=by
 unfold Fa at a
 refine Al follows func39 rfl 174 rfl _ fz3 (fun bl=> ?_)
 refine Ad<|rA rfl fun V=>rz rfl<|AZ rfl<|Cb (fun tt ll=> ∃(d:Int),(BC d=some r)∧Is [(7,vI d)] [] tt ll) ?_ ?_
 ·refine AZ rfl<|Ai<|AZ rfl<|aE a rfl (fun ae a=> ?_) (fun ae a=> ?_)
  ·refine Aa fun bq af=>Ag<|rm 3 [0] rfl<|kC a fun p a=>rI (Rd.shp hm.2.2.1) p rfl<|rF (Rd.shp hm.2.2.1) (Be p) rfl<|rE (Aw hm.2.2.1) p 1 rfl<|rn 2 rfl<|AG 8 28 [(7,vI 1)] vB (fun b_=>Di b_=some r) (fun br a T=> ?_) (fun c=> ?_)
   ·unfold Di at a
    refine Af<|af _ _ ?_
    refine aB a rfl (fun ag a=> ?_) (fun ag a=> ?_)
    ·refine AZ rfl ?_
     cases a
     exact aR eV1
    refine Ab<|fg _ (Sub.of (suC _ suN)) ?_
    exact⟨1,a,Ah rfl rfl⟩
   rcases H:(decide ((((m.2.2.2.1)[i.toNat]!).2:Int)<1))with _|_
   ·replace a:=iF H a
    refine rn 1 rfl<|r_y rfl<|rm 2 [0] rfl<|r_y rfl<|kC a fun q a=>rI (Rd.shp hm.2.2.1) q rfl<|r_y rfl<|rF (Rd.shp hm.2.2.1) (Be q) rfl<|r_y rfl<|rE (Aw hm.2.2.1) q 1 rfl<|rn 2 rfl ?_
    exact c _ _ a rfl rfl
   replace a:=iD H a
   refine rn 8 rfl ?_
   exact c _ _ a rfl rfl
  refine AZ rfl<|aE a rfl (fun ah a=> ?_) (fun ah a=> ?_)
  ·refine Aa fun bs ai=>BE [(some 37,false)] (conG prog [(37,cV (DE N m ((m.2.2.2.2.1)[i.toNat]!.1) ((m.2.2.2.2.1)[i.toNat]!.2.1) ((m.2.2.2.2.1)[i.toNat]!.2.2.1) ((m.2.2.2.2.1)[i.toNat]!.2.2.2.1) ((m.2.2.2.2.1)[i.toNat]!.2.2.2.2)) fun W=>vI W)]) [] (by decide+kernel) (fun hn=>AQ)<|rm 4 [0,0] rfl<|kC a fun I a=> ?_
   obtain⟨_,⟨X,Y,Z,aj,ak,al,rfl⟩,hat31⟩:=RdN.at (E:=Ad8) hm.2.2.2.1 (Dc I)
   refine rI (RdN.shp hm.2.2.2.1) I rfl<|NB (vA #[vS ((m.2.2.2.2.1)[i.toNat]!.1),X,Y,Z,vI ((m.2.2.2.2.1)[i.toNat]!.2.2.2.2)]) (vs:=[vS ((m.2.2.2.2.1)[i.toNat]!.1),X,Y,Z,vI ((m.2.2.2.2.1)[i.toNat]!.2.2.2.2)]) (i.toNat*5) 0 rfl rfl (fun o w z_=>At.mono z_.ro_cell hat31) rfl<|kB a fun bu J a=>rg _ (cF qu) (fun o w z_=>Oy N m ((m.2.2.2.2.1)[i.toNat]!.1) ((m.2.2.2.2.1)[i.toNat]!.2.1) ((m.2.2.2.2.1)[i.toNat]!.2.2.1) ((m.2.2.2.2.1)[i.toNat]!.2.2.2.1) ((m.2.2.2.2.1)[i.toNat]!.2.2.2.2) _ J z_.view mv (Aa1.mono z_.ro_cell hm) X (z_.r aj) Y (z_.r ak) Z (z_.r al)) (Ha J)<|rz rfl<|ai _ _ ?_
   cases a
   exact aR eV1
  refine AZ rfl<|aE a rfl (fun am a=> ?_) (fun am a=> ?_)
  ·refine Ad<|rm 3 [0] rfl<|kC a fun K a=> ?_
   obtain⟨_,⟨s,n,b,L,rfl⟩,hat42⟩:=RdN.at (E:=Ad5) hm.2.2.2.2.1 (Dc K)
   refine rI (RdN.shp hm.2.2.2.2.1) K rfl<|NB (vA #[vS ((m.2.2.2.2.2.1)[i.toNat]!.1),s,n]) (vs:=[vS ((m.2.2.2.2.2.1)[i.toNat]!.1),s,n]) (i.toNat*3) 0 rfl rfl (fun o w z_=>At.mono z_.ro_cell hat42) rfl<|rA rfl fun G=>r_s [(G,172, #[vS ((m.2.2.2.2.2.1)[i.toNat]!.1),s,n]),(V,35,(Ac m mv))] 0 _ _ _ _ _ (#[vS ((m.2.2.2.2.2.1)[i.toNat]!.1),s,n]) rfl rfl rfl rfl (.ofS rfl rfl (Ae rfl (Ae (Shp.one (Rd.shp b)) (Ae (Shp.one (Rd.shp L)) Bv)))) rfl rfl<|Af<|Aa fun bv an=>Ad<|rm 2 [0] rfl<|rL (Rd.shp b) rfl<|rz rfl ?_
   refine aD a rfl (fun ao a=> ?_) (fun ao a=> ?_)
   ·refine AZ rfl ?_
    cases a
    exact aR eV1
   refine Ab<|an _ _ ?_
   refine Aa fun bw ap=>AZ rfl<|Ai<|AH (fun tt ll nn=> ∃(e:Nat) (f:Int),(Bk N m i e f=some r)∧Is [(3,vP V 0),(8,vP G 0),(9,vI f)] [(G,172, #[vS ((m.2.2.2.2.2.1)[i.toNat]!.1),s,n]),(V,35,(Ac m mv))] tt ll∧nn=e+1) (N+1) ?_ ?_
   ·exact⟨N,0,a,Ah rfl rfl,rfl⟩
   clear a;rintro t l _ ⟨e,f,a,⟨⟨T,rfl⟩,rfl⟩,rfl⟩
   rcases e with _|e
   ·exact absurd a (by simp [Bk])
   rw [Bk] at a
   refine Aa fun bx aq=>Ad<|rm 3 [0] rfl<|rL (Rd.shp b) rfl<|rz rfl<|aD a rfl (fun ar a=> ?_) (fun ar a=> ?_)
   ·refine Ab<|aq _ _ ?_
    refine Aa fun bz au=>Ai<|Aa fun ca av=>Ag<|rm 3 [0] rfl<|kC a fun M a=>rI (Rd.shp b) M rfl<|rE (Aw b) M 0 rfl<|rn 2 rfl<|AG 7 69 [(3,vP V 0),(8,vP G 0),(9,vI f)] vB (fun b_=>Dh f (Bk N m i e) b_=some r) (fun cb a T=> ?_) (fun c=> ?_)
    ·unfold Dh at a
     refine Af<|av _ _ ?_
     refine aB a rfl (fun aw a=> ?_) (fun aw a=> ?_)
     ·refine AZ rfl ?_
      cases a
      exact aR eV1
     refine Ab<|au _ _ ?_
     refine Ag<|rn 1 rfl<|kC a fun ax a=>rX ax rfl<|rz rfl<|fg _ (Sub.of (suK _ (suK _ suN))) ?_
     exact⟨e+1,by omega,e,(f+1),a,Ah rfl rfl,rfl⟩
    rcases O:(decide ((((m.2.2.2.2.2.1)[i.toNat]!.2.1)[f.toNat]!:Int)<1))with _|_
    ·replace a:=iF O a
     refine rn 1 rfl<|r_y rfl<|rm 2 [0] rfl<|r_y rfl<|kC a fun P a=>rI (Rd.shp b) P rfl<|r_y rfl<|rE (Aw b) P 0 rfl<|rn 2 rfl ?_
     exact c _ _ a rfl rfl
    replace a:=iD O a
    refine rn 7 rfl ?_
    exact c _ _ a rfl rfl
   refine AI<|ap _ _ ?_
   refine Ad<|rm 5 [1,0,0] rfl<|rL (Rd.shp b) rfl<|kB a fun cc ay a=>gV _ (cF fH) (fun o w z_=>La N m ((m.2.2.2.2.2.1)[i.toNat]!.2.2) (((m.2.2.2.2.2.1)[i.toNat]!.2.1).length:Int) _ ay z_.view mv (Aa1.mono z_.ro_cell hm) n (z_.r L))<|rz rfl ?_
   cases a
   exact aR eV1
  refine AZ rfl<|aE a rfl (fun az a=> ?_) (fun az a=> ?_)
  ·refine Aa fun cd ba=>BE [(some 85,false)] (conG prog [(85,cV (DD N m ((m.2.2.2.2.2.2.1)[i.toNat]!.1) ((m.2.2.2.2.2.2.1)[i.toNat]!.2.1) ((m.2.2.2.2.2.2.1)[i.toNat]!.2.2.1) ((m.2.2.2.2.2.2.1)[i.toNat]!.2.2.2.1) ((m.2.2.2.2.2.2.1)[i.toNat]!.2.2.2.2.1) ((m.2.2.2.2.2.2.1)[i.toNat]!.2.2.2.2.2.1) ((m.2.2.2.2.2.2.1)[i.toNat]!.2.2.2.2.2.2)) fun W=>vI W)]) [] (by decide+kernel) (fun hn=>AQ)<|rm 4 [0,0] rfl<|kC a fun Q a=> ?_
   obtain⟨_,⟨aa,ab,ac,bb,bc,bd,rfl⟩,hat76⟩:=RdN.at (E:=Ad9) hm.2.2.2.2.2.1 (Dc Q)
   refine rI (RdN.shp hm.2.2.2.2.2.1) Q rfl<|NB (vA #[vS ((m.2.2.2.2.2.2.1)[i.toNat]!.1),vI ((m.2.2.2.2.2.2.1)[i.toNat]!.2.1),aa,ab,vI ((m.2.2.2.2.2.2.1)[i.toNat]!.2.2.2.2.1),ac,vI ((m.2.2.2.2.2.2.1)[i.toNat]!.2.2.2.2.2.2)]) (vs:=[vS ((m.2.2.2.2.2.2.1)[i.toNat]!.1),vI ((m.2.2.2.2.2.2.1)[i.toNat]!.2.1),aa,ab,vI ((m.2.2.2.2.2.2.1)[i.toNat]!.2.2.2.2.1),ac,vI ((m.2.2.2.2.2.2.1)[i.toNat]!.2.2.2.2.2.2)]) (i.toNat*7) 0 rfl rfl (fun o w z_=>At.mono z_.ro_cell hat76) rfl<|kB a fun ce R a=>rg _ (cF qt) (fun o w z_=>Ox N m ((m.2.2.2.2.2.2.1)[i.toNat]!.1) ((m.2.2.2.2.2.2.1)[i.toNat]!.2.1) ((m.2.2.2.2.2.2.1)[i.toNat]!.2.2.1) ((m.2.2.2.2.2.2.1)[i.toNat]!.2.2.2.1) ((m.2.2.2.2.2.2.1)[i.toNat]!.2.2.2.2.1) ((m.2.2.2.2.2.2.1)[i.toNat]!.2.2.2.2.2.1) ((m.2.2.2.2.2.2.1)[i.toNat]!.2.2.2.2.2.2) _ R z_.view mv (Aa1.mono z_.ro_cell hm) aa (z_.r bb) ab (z_.r bc) ac (z_.r bd)) (Ha R)<|rz rfl<|ba _ _ ?_
   cases a
   exact aR eV1
  refine AZ rfl<|aE a rfl (fun be a=> ?_) (fun be a=> ?_)
  ·refine Aa fun cf bf=>Aa fun cg bg=>Ag<|rm 3 [0] rfl<|kC a fun u a=>rI (Rd.shp hm.2.2.2.2.2.2.2.2.2.2.2.1) u rfl<|rF (Rd.shp hm.2.2.2.2.2.2.2.2.2.2.2.1) (Be u) rfl<|rE (Aw hm.2.2.2.2.2.2.2.2.2.2.2.1) u 1 rfl<|rn 2 rfl ?_
   refine AG 8 103 [(2,vI i),(3,vP V 0)] vB (fun b_=>Dg m i b_=some r) (fun ch a T=> ?_) (fun c=> ?_)
   ·unfold Dg at a
    refine Af<|bg _ _ ?_
    refine aB a rfl (fun bh a=> ?_) (fun bh a=> ?_)
    ·refine AZ rfl ?_
     cases a
     exact aR eV1
    refine Ab<|bf _ _ ?_
    refine Ag<|rm 3 [0] rfl<|kC a fun v a=>rI (Rd.shp hm.2.2.2.2.2.2.2.2.2.2.2.1) v rfl<|rF (Rd.shp hm.2.2.2.2.2.2.2.2.2.2.2.1) (Be v) rfl<|rE (Aw hm.2.2.2.2.2.2.2.2.2.2.2.1) v 2 rfl<|rz rfl<|fg _ (Sub.of (suC _ suN)) ?_
    exact⟨((m.2.2.2.2.2.2.2.2.2.2.2.2.1)[i.toNat]!).2.2,a,Ah rfl rfl⟩
   rcases S:(decide ((((m.2.2.2.2.2.2.2.2.2.2.2.2.1)[i.toNat]!).2.1:Int)<1))with _|_
   ·replace a:=iF S a
    refine rn 1 rfl<|r_y rfl<|rm 2 [0] rfl<|r_y rfl<|kC a fun x a=>rI (Rd.shp hm.2.2.2.2.2.2.2.2.2.2.2.1) x rfl<|r_y rfl<|rF (Rd.shp hm.2.2.2.2.2.2.2.2.2.2.2.1) (Be x) rfl<|r_y rfl<|rE (Aw hm.2.2.2.2.2.2.2.2.2.2.2.1) x 1 rfl<|rn 2 rfl ?_
    exact c _ _ a rfl rfl
   replace a:=iD S a
   refine rn 8 rfl ?_
   exact c _ _ a rfl rfl
  refine AZ rfl<|aE a rfl (fun bi a=> ?_) (fun bi a=> ?_)
  ·refine Ag<|rm 3 [0] rfl<|kC a fun y a=>rI (Rd.shp hm.2.2.2.2.2.2.2.2.2.2.2.2.1) y rfl<|rF (Rd.shp hm.2.2.2.2.2.2.2.2.2.2.2.2.1) (Be y) rfl<|rE (Aw hm.2.2.2.2.2.2.2.2.2.2.2.2.1) y 1 rfl<|rz rfl<|fg _ (Sub.of (suC _ suN)) ?_
   exact⟨((m.2.2.2.2.2.2.2.2.2.2.2.2.2.1)[i.toNat]!).2,a,Ah rfl rfl⟩
  refine AZ rfl<|aE a rfl (fun bj a=> ?_) (fun bj a=> ?_)
  ·refine Ad<|rm 3 [0] rfl<|kC a fun z a=>rI (Rd.shp hm.2.2.2.2.2.2.2.2.2.2.2.2.2) z rfl<|rF (Rd.shp hm.2.2.2.2.2.2.2.2.2.2.2.2.2) (Be z) rfl<|rE (Aw hm.2.2.2.2.2.2.2.2.2.2.2.2.2) z 1 rfl<|rz rfl<|Aa fun ci bk=>Ag ?_
   refine rn 3 rfl<|AG 3 131 [(2,vI i),(3,vP V 0),(7,vI (((m.2.2.2.2.2.2.2.2.2.2.2.2.2.2.1)[i.toNat]!).2.1))] vB (fun b_=>Df m i b_=some r) (fun bm a T=> ?_) (fun c=> ?_)
   ·unfold Df at a
    refine rn 1 rfl<|AG 35 167 [(7,vI (((m.2.2.2.2.2.2.2.2.2.2.2.2.2.2.1)[i.toNat]!).2.1))] vB (fun b_=>Bz m i b_=some r) (fun cj a T=> ?_) (fun c=> ?_)
    ·unfold Bz at a
     refine Af<|bk _ _ ?_
     refine aB a rfl (fun ad a=> ?_) (fun ad a=> ?_)
     ·refine AZ rfl ?_
      cases a
      exact aR eV1
     refine Ab<|fg _ (Sub.of (suC _ suN)) ?_
     exact⟨((m.2.2.2.2.2.2.2.2.2.2.2.2.2.2.1)[i.toNat]!).2.1,a,Ah rfl rfl⟩
    rcases A:bm with _|_
    ·replace a:=iB A a
     refine rn 8 rfl<|BR rfl rfl<|BR rfl rfl<|BR rfl rfl<|BR rfl rfl<|BR rfl rfl<|BR rfl rfl<|BR rfl rfl<|rn 2 rfl<|BR rfl rfl<|BR rfl rfl<|BR rfl rfl<|BR rfl rfl<|BR rfl rfl<|BR rfl rfl<|BR rfl rfl<|rn 2 rfl<|BR rfl rfl<|BR rfl rfl<|BR rfl rfl<|BR rfl rfl<|BR rfl rfl<|BR rfl rfl<|BR rfl rfl<|rn 2 rfl ?_
     exact c _ _ a rfl rfl
    replace a:=ifp A a
    refine rn 1 rfl<|r_y rfl<|rm 2 [0] rfl<|r_y rfl<|kC a fun g a=>rI (Rd.shp hm.2.2.2.2.2.2.2.2.2.2.2.2.2) g rfl<|r_y rfl<|rF (Rd.shp hm.2.2.2.2.2.2.2.2.2.2.2.2.2) (Be g) rfl<|r_y rfl<|rE (Aw hm.2.2.2.2.2.2.2.2.2.2.2.2.2) g 2 rfl ?_
    refine rn 2 rfl ?_
    rcases B:(decide ((((m.2.2.2.2.2.2.2.2.2.2.2.2.2.2.1)[i.toNat]!).2.2.1:Int)<0))with _|_
    ·replace a:=iF B a
     refine rn 1 rfl<|r_y rfl<|rm 2 [0] rfl<|r_y rfl<|kC a fun h a=>rI (Rd.shp hm.2.2.2.2.2.2.2.2.2.2.2.2.2) h rfl<|r_y rfl<|rF (Rd.shp hm.2.2.2.2.2.2.2.2.2.2.2.2.2) (Be h) rfl<|r_y rfl<|rE (Aw hm.2.2.2.2.2.2.2.2.2.2.2.2.2) h 2 rfl ?_
     refine rn 3 rfl<|dw [(2,vI i),(3,vP V 0),(7,vI (((m.2.2.2.2.2.2.2.2.2.2.2.2.2.2.1)[i.toNat]!).2.1)),(132,vB true),(149,vB (decide ((((m.2.2.2.2.2.2.2.2.2.2.2.2.2.2.1)[i.toNat]!).2.2.1:Int)>65535)))] rfl (fun T=> ?_)
     rcases C:(decide ((((m.2.2.2.2.2.2.2.2.2.2.2.2.2.2.1)[i.toNat]!).2.2.1:Int)>65535))with _|_
     ·replace a:=iF C a
      refine rn 1 rfl<|r_y rfl<|rm 2 [0] rfl<|r_y rfl<|kC a fun j a=>rI (Rd.shp hm.2.2.2.2.2.2.2.2.2.2.2.2.2) j rfl<|r_y rfl<|rF (Rd.shp hm.2.2.2.2.2.2.2.2.2.2.2.2.2) (Be j) rfl<|r_y rfl<|rE (Aw hm.2.2.2.2.2.2.2.2.2.2.2.2.2) j 3 rfl ?_
      refine rn 3 rfl ?_
      rcases D:(decide ((((m.2.2.2.2.2.2.2.2.2.2.2.2.2.2.1)[i.toNat]!).2.2.2:Int)<1))with _|_
      ·replace a:=iF D a
       refine rn 1 rfl<|r_y rfl<|rm 2 [0] rfl<|r_y rfl<|kC a fun k a=>rI (Rd.shp hm.2.2.2.2.2.2.2.2.2.2.2.2.2) k rfl<|r_y rfl<|rF (Rd.shp hm.2.2.2.2.2.2.2.2.2.2.2.2.2) (Be k) rfl<|r_y rfl<|rE (Aw hm.2.2.2.2.2.2.2.2.2.2.2.2.2) k 3 rfl ?_
       refine rn 3 rfl ?_
       exact c _ _ a rfl rfl
      replace a:=iD D a
      refine rn 9 rfl ?_
      exact c _ _ a rfl rfl
     replace a:=iD C a
     refine rn 18 rfl ?_
     exact c _ _ a rfl rfl
    replace a:=iD B a
    refine rn 27 rfl ?_
    exact c _ _ a rfl rfl
   rcases F:(decide ((((m.2.2.2.2.2.2.2.2.2.2.2.2.2.2.1)[i.toNat]!).2.1:Int)≥1))with _|_
   ·replace a:=iF F a
    refine rn 3 rfl ?_
    exact c _ _ a rfl rfl
   replace a:=iD F a
   refine rn 3 rfl ?_
   exact c _ _ a rfl rfl
  refine Ab<|fg _ (Sub.of (suC _ suN)) ?_
  exact⟨1,a,Ah rfl rfl⟩
 clear a;rintro t l ⟨d,a,⟨T,rfl⟩,rfl⟩
 unfold BC at a
 refine Aa fun K4 bn=>Aa fun K5 bo=>Ag<|rn 3 rfl<|AG 3 173 [] vB (fun b_=>Dj b_=some r) (fun b6 a T=> ?_) (fun c=> ?_)
 ·unfold Dj at a
  refine Af<|bo _ _ ?_
  refine aB a rfl (fun bp a=> ?_) (fun bp a=> ?_)
  ·refine AZ rfl ?_
   cases a
   exact aR eV1
  refine Ab<|bn _ _ ?_
  refine AZ rfl ?_
  cases a
  exact aR eV1
 rcases U:(decide (d<1))with _|_
 ·replace a:=iF U a
  refine rn 3 rfl ?_
  exact c _ _ a rfl rfl
 replace a:=iD U a
 refine rn 3 rfl ?_
 exact c _ _ a rfl rfl
def DF(a:Bool):Option (Int×Int):=if a=true then some (0,7)else some (0,0)
def DG(m:Ao)(a:Bool):Option (Int×Int):=if a=true then DF true else DF (decide (m.2.2.2.2.2.2.2.2.2.2.2.2.2.2.2.2.2>4))
def DH(m:Ao)(a:Bool):Option (Int×Int):=if a=true then DG m true else DG m (decide (m.2.2.2.2.2.2.2.2.2.2.2.2.2.2.2.2.2<0))
def DI(m:Ao)(a:Bool):Option (Int×Int):=if a=true then DH m true else DH m (decide (m.2.2.2.2.2.2.2.2.2.2.2.2.2.2.2.2.1>32))
def DJ(m:Ao)(a:Bool):Option (Int×Int):=if a=true then DI m true else DI m (decide (m.2.2.2.2.2.2.2.2.2.2.2.2.2.2.2.2.1<1))
def BT(m:Ao)(b:Int)(a:Int→Option (Int×Int)):Nat→Int→Option (Int×Int)
  |0,_=>none
  |d+1,c=>if c<b then ck (0≤c∧c<(m.2.2.2.2.2.2.2.2.2.1.length:Int)) (ck (0≤b∧b<(m.2.2.2.2.2.2.2.2.2.1.length:Int)) (if((m.2.2.2.2.2.2.2.2.2.1)[c.toNat]!:Int)=(m.2.2.2.2.2.2.2.2.2.1)[b.toNat]! then some (b,6)else ck (R64 (c+1)) ((BT m b a d) (c+1))))else ck (R64 (b+1)) (a (b+1))
def By(N:Nat)(m:Ao):Nat→Int→Option (Int×Int)
  |0,_=>none
  |b+1,a=>if a<(m.2.2.2.2.2.2.2.2.2.1.length:Int)then ck (0≤a∧a<(m.2.2.2.2.2.2.2.2.2.1.length:Int)) ((Bc N m ((m.2.2.2.2.2.2.2.2.2.1)[a.toNat]!)).bind fun c=>if c.2.2.2.2.2.2=true then BT m a (By N m b) N 0 else some (a,5))else some (0,0)
def Cg(b:Int)(a:Int→Option (Int×Int))(c:Int):Option (Int×Int):=if(c:Int)≠0 then some (b,c)else ck (R64 (b+1)) (a (b+1))
def Ch(N:Nat)(m:Ao)(p:Int)(b:Int)(a:Int→Option (Int×Int))(c:Int):Option (Int×Int):=if c=0 then(Fa N m p b).bind fun d=>Cg b a d else Cg b a c
def Dt(N:Nat)(m:Ao)(p:Int)(d:List (List UInt8))(b:Int)(a:Int→Option (Int×Int))(c:Int):Option (Int×Int):=if c=0 then ck (R64 (b+1)) (ck (0≤(b+1)∧(b+1)≤(d.length:Int)) ((GF N (((d).take (((b+1)).toNat)).drop 0)).bind fun e=>Ch N m p b a e))else Ch N m p b a c
def AM(N:Nat)(m:Ao)(p:Int)(b:List (List UInt8)):Nat→Int→Option (Int×Int)
  |0,_=>none
  |c+1,a=>if a<(b.length:Int)then if p=1 then ck (0≤a∧a<(m.2.1.length:Int)) ((Gl N ((m.2.1)[a.toNat]!.1) ((m.2.1)[a.toNat]!.2.1) ((m.2.1)[a.toNat]!.2.2.1) ((m.2.1)[a.toNat]!.2.2.2.1) ((m.2.1)[a.toNat]!.2.2.2.2.1) ((m.2.1)[a.toNat]!.2.2.2.2.2)).bind fun d=>Dt N m p b a (AM N m p b c) d)else Dt N m p b a (AM N m p b c) 0 else some (0,0)
def Du(N:Nat)(m:Ao)(p:Int)(a:List (List UInt8))(b:Bool):Option (Int×Int):=if b=true then some (0,5)else if(a.length:Int)>([0,16,0,16,16,32,8,0,0,0,0,0,8,8,8])[p.toNat]! then some (0,2)else AM N m p a N 0
def FJ(N:Nat)(m:Ao)(p:Int):Option (Int×Int):=if p=0 then(Gw N m.1).bind fun g=>if g=true then if m.2.2.2.2.2.2.2.2.2.2.2.2.2.2.2.1<1 then DJ m true else DJ m (decide (m.2.2.2.2.2.2.2.2.2.2.2.2.2.2.2.1>64))else some (0,4)else if p=2 then(GG N m.2.1 m.2.2.1).bind fun f=>some (0,f)else if p=7 then(DK N m m.2.2.2.2.2.2.2.1).bind fun c=>some (c.1,c.2)else if p=8 then(DK N m m.2.2.2.2.2.2.2.2.1).bind fun e=>some (e.1,e.2)else if p=9 then if(m.2.2.2.2.2.2.2.2.2.1.length:Int)>32 then some (0,2)else By N m N 0 else if p=10 then(Eh N m m.2.2.2.2.2.2.2.2.2.2.1).bind fun b=>some (b.1,b.2)else if p=11 then(Eh N m m.2.2.2.2.2.2.2.2.2.2.2.1).bind fun d=>some (d.1,d.2)else(rTm N m p).bind fun a=>ck (0≤p∧p<(([0,16,0,16,16,32,8,0,0,0,0,0,8,8,8]).length:Int)) (if p=4 then Du N m p a (((a.length:Int)==0))else Du N m p a false)
theorem OW(N m p r)(a:FJ N m p=some r)(ro)(mv:AD)(hm:Aa1 ro mv m):Does prog 18 #[vA (Ac m mv),vI p] ro [] (pV (vT #[vI r.1,vI r.2])):=by
 unfold FJ at a
 refine Al follows func18 rfl 180 rfl _ fz2 (fun cd=> ?_)
 refine Ad<|rA rfl fun e=>rz rfl<|Aa fun K3 ce=>AZ rfl<|Ai<|AZ rfl<|aE a rfl (fun cf a=> ?_) (fun cf a=> ?_)
 ·refine Aa fun K7 cg=>Ad<|rm 2 [0] rfl<|kB a fun r9 aq a=>rc _ (cF fN) (MY N m.1 _ aq)<|rz rfl<|Bf _ rfl (fun x=> ?_) (fun x=> ?_)
  ·replace a:=ifn (Bool.eq_false_iff.1 (Da x)) a
   refine AZ rfl ?_
   cases a
   exact aR eV2
  replace a:=ifp (Db x) a
  refine Ab<|cg _ _ ?_
  refine Aa fun cu ar=>Aa fun cv au=>Ag<|rm 4 [0] rfl<|AG 4 28 [(2,vP e 0)] vB (fun b_=>DJ m b_=some r) (fun ch a T=> ?_) (fun i=> ?_)
  ·unfold DJ at a
   refine rn 1 rfl<|AG 4 33 [(2,vP e 0)] vB (fun b_=>DI m b_=some r) (fun ci a T=> ?_) (fun i=> ?_)
   ·unfold DI at a
    refine rn 1 rfl<|AG 4 38 [(2,vP e 0)] vB (fun b_=>DH m b_=some r) (fun cj a T=> ?_) (fun i=> ?_)
    ·unfold DH at a
     refine rn 1 rfl<|AG 4 43 [(2,vP e 0)] vB (fun b_=>DG m b_=some r) (fun ck a T=> ?_) (fun i=> ?_)
     ·unfold DG at a
      refine rn 1 rfl<|AG 4 48 [] vB (fun b_=>DF b_=some r) (fun cw a T=> ?_) (fun i=> ?_)
      ·unfold DF at a
       refine Af<|au _ _ ?_
       refine aB a rfl (fun av a=> ?_) (fun av a=> ?_)
       ·refine AZ rfl ?_
        cases a
        exact aR eV2
       refine Ab<|ar _ _ ?_
       refine AZ rfl ?_
       cases a
       exact aR eV2
      rcases J:ck with _|_
      ·replace a:=iB J a
       refine rn 1 rfl<|r_y rfl<|rm 3 [0] rfl ?_
       exact i _ _ a rfl rfl
      replace a:=ifp J a
      refine rn 4 rfl ?_
      exact i _ _ a rfl rfl
     rcases K:cj with _|_
     ·replace a:=iB K a
      refine rn 1 rfl<|r_y rfl<|rm 3 [0] rfl ?_
      exact i _ _ a rfl rfl
     replace a:=ifp K a
     refine rn 4 rfl ?_
     exact i _ _ a rfl rfl
    rcases L:ci with _|_
    ·replace a:=iB L a
     refine rn 1 rfl<|r_y rfl<|rm 3 [0] rfl ?_
     exact i _ _ a rfl rfl
    replace a:=ifp L a
    refine rn 4 rfl ?_
    exact i _ _ a rfl rfl
   rcases M:ch with _|_
   ·replace a:=iB M a
    refine rn 1 rfl<|r_y rfl<|rm 3 [0] rfl ?_
    exact i _ _ a rfl rfl
   replace a:=ifp M a
   refine rn 4 rfl ?_
   exact i _ _ a rfl rfl
  rcases O:(decide (m.2.2.2.2.2.2.2.2.2.2.2.2.2.2.2.1<1))with _|_
  ·replace a:=iF O a
   refine rn 1 rfl<|r_y rfl<|rm 3 [0] rfl ?_
   exact i _ _ a rfl rfl
  replace a:=iD O a
  refine rn 4 rfl ?_
  exact i _ _ a rfl rfl
 refine AZ rfl<|aE a rfl (fun aw a=> ?_) (fun aw a=> ?_)
 ·refine Ad<|rm 4 [0,0] rfl<|kB a fun cx ax a=>gV _ (cF rf) (fun o w z_=>PK N m.2.1 m.2.2.1 _ ax z_.view mv.1 (RdN.mono z_.ro_cell hm.1) mv.2.1 ((Aw hm.2.1) o w z_))<|rz rfl ?_
  cases a
  exact aR eV2
 refine AZ rfl<|aE a rfl (fun ay a=> ?_) (fun ay a=> ?_)
 ·refine Ad<|rm 3 [0,0] rfl<|kB a fun cy az a=>gV _ (cF fM) (fun o w z_=>KM N m m.2.2.2.2.2.2.2.1 _ az z_.view mv (Aa1.mono z_.ro_cell hm) mv.2.2.2.2.2.2.1 (RdN.mono z_.ro_cell hm.2.2.2.2.2.2.1))<|rz rfl ?_
  cases a
  exact aR eV2
 refine AZ rfl<|aE a rfl (fun ba a=> ?_) (fun ba a=> ?_)
 ·refine Ad<|rm 3 [0,0] rfl<|kB a fun cz bb a=>gV _ (cF fM) (fun o w z_=>KM N m m.2.2.2.2.2.2.2.2.1 _ bb z_.view mv (Aa1.mono z_.ro_cell hm) mv.2.2.2.2.2.2.2.1 (RdN.mono z_.ro_cell hm.2.2.2.2.2.2.2.1))<|rz rfl ?_
  cases a
  exact aR eV2
 refine AZ rfl<|aE a rfl (fun bc a=> ?_) (fun bc a=> ?_)
 ·refine Aa fun da bd=>Ad<|rm 2 [0] rfl<|rL (Rd.shp hm.2.2.2.2.2.2.2.2.1) rfl<|rz rfl<|aD a rfl (fun be a=> ?_) (fun be a=> ?_)
  ·refine AZ rfl ?_
   cases a
   exact aR eV2
  refine Ab<|bd _ _ ?_
  refine Aa fun db bf=>AZ rfl<|Ai<|AH (fun tt ll nn=> ∃(j:Nat) (h:Int),(By N m j h=some r)∧Is [(2,vP e 0),(6,vI h)] [(e,35,(Ac m mv))] tt ll∧nn=j+1) (N+1) ?_ ?_
  ·exact⟨N,0,a,Ah rfl rfl,rfl⟩
  clear a;rintro t l _ ⟨j,h,a,⟨⟨T,rfl⟩,rfl⟩,rfl⟩
  rcases j with _|j
  ·exact absurd a (by simp [By])
  rw [By] at a
  refine Aa fun dc bg=>Ad<|rm 3 [0] rfl<|rL (Rd.shp hm.2.2.2.2.2.2.2.2.1) rfl<|rz rfl<|aD a rfl (fun bh a=> ?_) (fun bh a=> ?_)
  ·refine Ab<|bg _ _ ?_
   refine Aa fun dd bi=>Ai<|Aa fun de bj=>vG (p:= ∀d,Bc N m ((m.2.2.2.2.2.2.2.2.2.1)[h.toNat]!)=some d→ ∃s_,Rd Ab2 ro s_ d.2.1) (fun w_ hi_ hro_ d cl=>by obtain⟨_,_,⟨_,h_,_⟩⟩:=uL (PP:=(oR Ab2 ro d.2.1 fun s_0=>(oE (vT #[vA #[vS d.1,s_0,vI d.2.2.1,vI d.2.2.2.1,vI d.2.2.2.2.1,vI d.2.2.2.2.2.1],vB d.2.2.2.2.2.2]) []))) w_ trivial hro_ (CV N m ((m.2.2.2.2.2.2.2.2.2.1)[h.toNat]!) _ cl ro mv hm);exact⟨_,h_⟩) (fun bk=> ?_)
   refine BE [(some 92,false)] (conG prog [(92,fun _ _ v_ L_ U_=> ∀d,Bc N m ((m.2.2.2.2.2.2.2.2.2.1)[h.toNat]!)=some d→(pO (List.flatten []) (oR Ab2 ro d.2.1 fun s_0=>(oE (vT #[vA #[vS d.1,s_0,vI d.2.2.1,vI d.2.2.2.1,vI d.2.2.2.2.1,vI d.2.2.2.2.2.1],vB d.2.2.2.2.2.2]) []))) v_ L_ U_)]) [] (by decide+kernel) (fun hn=>AQ)<|rm 4 [0,0] rfl<|kC a fun P a=>rI (Rd.shp hm.2.2.2.2.2.2.2.2.1) P rfl<|rE (Aw hm.2.2.2.2.2.2.2.2.1) P 0 rfl<|kB a fun c y a=>uw (Ls:=[[(e,35,(Ac m mv))]]) (RL:=[[(e,35,(Ac m mv))]]) (oR Ab2 ro c.2.1 fun s_0=>(oE (vT #[vA #[vS c.1,s_0,vI c.2.2.1,vI c.2.2.2.1,vI c.2.2.2.2.1,vI c.2.2.2.2.2.1],vB c.2.2.2.2.2.2]) [])) 92 34 _ rfl rfl rfl (cF Sh) (fun o w z_=>DoesI.ro_mono (Lf (Ls:=[[(e,35,(Ac m mv))]]) (is:=[]) rfl z_) (CV N m ((m.2.2.2.2.2.2.2.2.2.1)[h.toNat]!) _ y ro mv hm)) (Ha y) (by rintro v_ O_ ⟨_,_,⟨_,h_⟩⟩;exact h_) (Ab8.sub (R:=[]) (rZ (bk _ y) fun s_0=>(Tl rfl)) (Sub.pick [] [] rfl)) ?_
   rintro _ _ ⟨W,bl,⟨rfl,rfl⟩⟩
   refine CZ (Ls:=[[(e,35,(Ac m mv))]]) (Ls':=[[(e,35,(Ac m mv))]]) [0] rfl rfl<|rn 3 rfl<|rA rfl fun cm=>jh [(cm,79, #[vS c.1,W,vI c.2.2.1,vI c.2.2.2.1,vI c.2.2.2.2.1,vI c.2.2.2.2.2.1]),(e,35,(Ac m mv))] 0 _ _ _ (#[Value.string (⟨#[]⟩),nS,vI 0,vI 0,vI 0,vI 0]) (#[vS c.1,W,vI c.2.2.1,vI c.2.2.2.1,vI c.2.2.2.2.1,vI c.2.2.2.2.2.1]) (#[vS c.1,W,vI c.2.2.1,vI c.2.2.2.1,vI c.2.2.2.2.1,vI c.2.2.2.2.2.1]) rfl rfl rfl rfl rfl (.ofS rfl rfl (Ae rfl (Ae (Shp.one (Rd.shp bl)) (Ae rfl (Ae rfl (Ae rfl (Ae rfl Bv))))))) rfl rfl<|rz rfl<|bj _ _ ?_
   refine Aa fun dg bm=>AZ rfl<|Bf _ rfl (fun z=> ?_) (fun z=> ?_)
   ·replace a:=ifn (Bool.eq_false_iff.1 (Da z)) a
    refine AZ rfl ?_
    cases a
    exact aR eV2
   replace a:=ifp (Db z) a
   refine Ab<|bm _ _ ?_
   refine AZ rfl<|Ai<|Bw [(e,35,(Ac m mv))] (Sub.of (suC _ (suK _ suN)))<|AH (fun tt ll nn=> ∃(n:Nat) (I:Int),(BT m h (By N m j) n I=some r)∧Is [(2,vP e 0),(6,vI h),(9,vI I)] [(e,35,(Ac m mv))] tt ll∧nn=n+1) (N+1) ?_ ?_
   ·exact⟨N,0,a,Ah rfl rfl,rfl⟩
   clear a;rintro t l _ ⟨n,I,a,⟨⟨T,rfl⟩,rfl⟩,rfl⟩
   rcases n with _|n
   ·exact absurd a (by simp [BT])
   rw [BT] at a
   refine Aa fun dh bn=>AZ rfl<|aD a rfl (fun bo a=> ?_) (fun bo a=> ?_)
   ·refine Ab<|bn _ _ ?_
    refine Aa fun di bp=>Ai<|Aa fun dj bq=>IE [] (by decide+kernel) (fun hn=>AQ)<|rm 3 [0] rfl<|kC a fun Q a=>rI (Rd.shp hm.2.2.2.2.2.2.2.2.1) Q rfl<|rE (Aw hm.2.2.2.2.2.2.2.2.1) Q 0 rfl<|rm 3 [0] rfl<|kC a fun S a=>rI (Rd.shp hm.2.2.2.2.2.2.2.2.1) S rfl<|rE (Aw hm.2.2.2.2.2.2.2.2.1) S 0 rfl<|rz rfl<|bq _ _ ?_
    refine aE a rfl (fun br a=> ?_) (fun br a=> ?_)
    ·refine AZ rfl ?_
     cases a
     exact aR eV2
    refine Ab<|bp _ _ ?_
    refine Ag<|rn 1 rfl<|kC a fun bs a=>rX bs rfl<|rz rfl<|fg _ (Sub.of (suK _ suN)) ?_
    exact⟨n+1,by omega,n,(I+1),a,Ah rfl rfl,rfl⟩
   refine AI<|bi _ _ ?_
   refine Ag<|rn 1 rfl<|kC a fun bt a=>rX bt rfl<|rz rfl<|fg _ (Sub.of (suK _ suN)) ?_
   exact⟨j+1,by omega,j,(h+1),a,Ah rfl rfl,rfl⟩
  refine AI<|bf _ _ ?_
  refine AZ rfl ?_
  cases a
  exact aR eV2
 refine AZ rfl<|aE a rfl (fun bu a=> ?_) (fun bu a=> ?_)
 ·refine Ad<|rm 3 [0,0] rfl<|kB a fun dk bv a=>gV _ (cF fL) (fun o w z_=>KV N m m.2.2.2.2.2.2.2.2.2.2.1 _ bv z_.view mv (Aa1.mono z_.ro_cell hm) mv.2.2.2.2.2.2.2.2.2.1 ((Aw hm.2.2.2.2.2.2.2.2.2.1) o w z_))<|rz rfl ?_
  cases a
  exact aR eV2
 refine AZ rfl<|aE a rfl (fun bw a=> ?_) (fun bw a=> ?_)
 ·refine Ad<|rm 3 [0,0] rfl<|kB a fun dl bx a=>gV _ (cF fL) (fun o w z_=>KV N m m.2.2.2.2.2.2.2.2.2.2.2.1 _ bx z_.view mv (Aa1.mono z_.ro_cell hm) mv.2.2.2.2.2.2.2.2.2.2.1 ((Aw hm.2.2.2.2.2.2.2.2.2.2.1) o w z_))<|rz rfl ?_
  cases a
  exact aR eV2
 refine Ab<|ce _ _ ?_
 refine Ad<|rm 2 [0] rfl<|kB a fun q bz a=>gS (Ls:=[[(e,35,(Ac m mv))]]) (cF re) (fun o w z_=>rTg N m p _ bz z_.view mv (Aa1.mono z_.ro_cell hm)) (fun s g A=> ?_)
 refine rz rfl<|Ad<|gB (Ls:=[[(e,35,(Ac m mv))],g]) 3 BI [0,16,0,16,16,32,8,0,0,0,0,0,8,8,8] (fun dm U V=> ?_)
 refine rn 1 rfl<|kC a fun B a=>rI (Sl.shp V) B rfl<|rE (Ax V (Ak (Ls:=[[(e,35,(Ac m mv))],g,U]) (k:=2) rfl rfl)) B 0 rfl<|rz rfl<|Aa fun cn X=>Aa fun co Y=>Ag<|rn 3 rfl ?_
 refine AG 4 144 [(1,vI p),(2,vP e 0),(10,s),(11,vI (([0,16,0,16,16,32,8,0,0,0,0,0,8,8,8])[p.toNat]!))] vB (fun b_=>Du N m p q b_=some r) (fun cp a T=> ?_) (fun i=> ?_)
 ·unfold Du at a
  refine Af<|Y _ _ ?_
  refine aB a rfl (fun Z a=> ?_) (fun Z a=> ?_)
  ·refine AZ rfl ?_
   cases a
   exact aR eV2
  refine Ab<|X _ _ ?_
  refine Aa fun cq aa=>Ad<|rn 1 rfl<|rL (Sl.shp A) rfl<|rz rfl<|aD a rfl (fun ab a=> ?_) (fun ab a=> ?_)
  ·refine AZ rfl ?_
   cases a
   exact aR eV2
  refine Ab<|aa _ _ ?_
  refine Aa fun cr ac=>AZ rfl<|Ai<|Bw _ (Sub.pick [[(e,35,(Ac m mv))],g,U] [0,1] rfl)<|AH (fun tt ll nn=> ∃(f:Nat) (b:Int),(AM N m p q f b=some r)∧Is [(1,vI p),(2,vP e 0),(10,s),(12,vI b)] (List.flatten [[(e,35,(Ac m mv))],g]) tt ll∧nn=f+1) (N+1) ?_ ?_
  ·exact⟨N,0,a,Ah rfl rfl,rfl⟩
  clear a;rintro t l _ ⟨f,b,a,⟨⟨T,rfl⟩,rfl⟩,rfl⟩
  rcases f with _|f
  ·exact absurd a (by simp [AM])
  rw [AM] at a
  refine Aa fun cs ad=>Ad<|rn 2 rfl<|rL (Sl.shp A) rfl<|rz rfl<|aD a rfl (fun ae a=> ?_) (fun ae a=> ?_)
  ·refine Ab<|ad _ _ ?_
   refine Aa fun ct af=>Ai<|AZ rfl<|Cb (fun tt ll=> ∃(u:Int),(Dt N m p q b (AM N m p q f) u=some r)∧Is [(1,vI p),(2,vP e 0),(10,s),(12,vI b),(13,vI u)] (List.flatten [[(e,35,(Ac m mv))],g]) tt ll) ?_ ?_
   ·refine AZ rfl<|aE a rfl (fun ag a=> ?_) (fun ag a=> ?_)
    ·refine Ag<|rm 3 [0] rfl<|kC a fun C a=> ?_
     obtain⟨_,⟨D,ah,rfl⟩,hat139⟩:=RdN.at (E:=Ad4) hm.1 (Dc C)
     refine rI (RdN.shp hm.1) C rfl<|NB (vA #[vS ((m.2.1)[b.toNat]!.1),D,vI ((m.2.1)[b.toNat]!.2.2.1),vI ((m.2.1)[b.toNat]!.2.2.2.1),vI ((m.2.1)[b.toNat]!.2.2.2.2.1),vI ((m.2.1)[b.toNat]!.2.2.2.2.2)]) (vs:=[vS ((m.2.1)[b.toNat]!.1),D,vI ((m.2.1)[b.toNat]!.2.2.1),vI ((m.2.1)[b.toNat]!.2.2.2.1),vI ((m.2.1)[b.toNat]!.2.2.2.2.1),vI ((m.2.1)[b.toNat]!.2.2.2.2.2)]) (b.toNat*6) 0 rfl rfl (fun o w z_=>At.mono z_.ro_cell hat139) rfl<|kB a fun ca ai a=>gV _ (cF rb) (fun o w z_=>PB N ((m.2.1)[b.toNat]!.1) ((m.2.1)[b.toNat]!.2.1) ((m.2.1)[b.toNat]!.2.2.1) ((m.2.1)[b.toNat]!.2.2.2.1) ((m.2.1)[b.toNat]!.2.2.2.2.1) ((m.2.1)[b.toNat]!.2.2.2.2.2) _ ai z_.view D (z_.r ah))<|rz rfl<|fg _ (Sub.pick [[(e,35,(Ac m mv))],g] [0,1] rfl) ?_
     exact⟨ca,a,Ah rfl rfl⟩
    refine Ab<|fg _ (Sub.pick [[(e,35,(Ac m mv))],g] [0,1] rfl) ?_
    exact⟨0,a,Ah rfl rfl⟩
   clear a;rintro t l ⟨u,a,⟨T,rfl⟩,rfl⟩
   unfold Dt at a
   refine Cb (fun tt ll=> ∃(v:Int),(Ch N m p b (AM N m p q f) v=some r)∧Is [(1,vI p),(2,vP e 0),(10,s),(12,vI b),(13,vI v)] (List.flatten [[(e,35,(Ac m mv))],g]) tt ll) ?_ ?_
   ·refine AZ rfl<|aE a rfl (fun aj a=> ?_) (fun aj a=> ?_)
    ·refine Ag<|rn 2 rfl<|kC a fun ak a=>rX ak rfl<|kC a fun F a=>r_W (FG s 0 (((b+1)).toNat) 1) rfl (Ef (Iz rfl rfl rfl rfl (Sl.shp A) F))<|kB a fun cb al a=>gV _ (cF ra) (fun o w z_=>PJ N (((q).take (((b+1)).toNat)).drop 0) _ al z_.view (FG s 0 (((b+1)).toNat) 1) ((Ax (Sl.take0 A (GR F.2)) (Ak (Ls:=[[(e,35,(Ac m mv))],g]) (k:=1) rfl rfl)) o w z_))<|rz rfl<|fg _ (Sub.pick [[(e,35,(Ac m mv))],g] [0,1] rfl) ?_
     exact⟨cb,a,Ah rfl rfl⟩
    refine Ab<|fg _ (Sub.pick [[(e,35,(Ac m mv))],g] [0,1] rfl) ?_
    exact⟨u,a,Ah rfl rfl⟩
   clear a;rintro t l ⟨v,a,⟨T,rfl⟩,rfl⟩
   unfold Ch at a
   refine Cb (fun tt ll=> ∃(G:Int),(Cg b (AM N m p q f) G=some r)∧Is [(1,vI p),(2,vP e 0),(10,s),(12,vI b),(13,vI G)] (List.flatten [[(e,35,(Ac m mv))],g]) tt ll) ?_ ?_
   ·refine AZ rfl<|aE a rfl (fun am a=> ?_) (fun am a=> ?_)
    ·refine Ag<|rm 3 [0] rfl<|kB a fun cc an a=>gV _ (cF qZ) (fun o w z_=>Ow N m p b _ an z_.view mv (Aa1.mono z_.ro_cell hm))<|rz rfl<|fg _ (Sub.pick [[(e,35,(Ac m mv))],g] [0,1] rfl) ?_
     exact⟨cc,a,Ah rfl rfl⟩
    refine Ab<|fg _ (Sub.pick [[(e,35,(Ac m mv))],g] [0,1] rfl) ?_
    exact⟨v,a,Ah rfl rfl⟩
   clear a;rintro t l ⟨G,a,⟨T,rfl⟩,rfl⟩
   unfold Cg at a
   refine AZ rfl<|aN a rfl (fun ao a=> ?_) (fun ao a=> ?_)
   ·refine AZ rfl ?_
    cases a
    exact aR eV2
   refine Ab<|af _ _ ?_
   refine Ag<|rn 1 rfl<|kC a fun ap a=>rX ap rfl<|rz rfl<|fg _ (Sub.pick [[(e,35,(Ac m mv))],g] [0,1] rfl) ?_
   exact⟨f+1,by omega,f,(b+1),a,Ah rfl rfl,rfl⟩
  refine AI<|ac _ _ ?_
  refine AZ rfl ?_
  cases a
  exact aR eV2
 rcases H:(p==4)with _|_
 ·replace a:=iG H a
  refine rn 4 rfl ?_
  exact i _ _ a rfl rfl
 replace a:=iE H a
 refine rn 1 rfl<|r_y rfl<|rL (Sl.shp A) rfl<|rn 2 rfl ?_
 exact i _ _ a rfl rfl
def BO(N:Nat)(m:Ao):Nat→Int→Option (Int×Int×Int)
  |0,_=>none
  |c+1,a=>if a<15 then(FJ N m a).bind fun b=>if(b.2:Int)≠0 then some (a,b.1,b.2)else ck (R64 (a+1)) ((BO N m c) (a+1))else some (0,0,0)
def GS(N:Nat)(m:Ao):Option (Int×Int×Int):=BO N m N 0
theorem Oz(N m r)(a:GS N m=some r)(ro)(mv:AD)(hm:Aa1 ro mv m):Does prog 8 #[vA (Ac m mv)] ro [] (pV (vT #[vI r.1,vI r.2.1,vI r.2.2])):=by
 unfold GS at a
 refine Al follows func8 rfl 23 rfl _ fz1 (fun g=> ?_)
 refine Ad<|rA rfl fun n=>rz rfl<|Aa fun q h=>AZ rfl<|Ai<|AH (fun tt ll nn=> ∃(c:Nat) (b:Int),(BO N m c b=some r)∧Is [(1,vP n 0),(5,vI b)] [(n,35,(Ac m mv))] tt ll∧nn=c+1) (N+1) ?_ ?_
 ·exact⟨N,0,a,Ah rfl rfl,rfl⟩
 clear a;rintro t l _ ⟨c,b,a,⟨⟨T,rfl⟩,rfl⟩,rfl⟩
 rcases c with _|c
 ·exact absurd a (by simp [BO])
 rw [BO] at a
 refine Aa fun s i=>AZ rfl<|aD a rfl (fun j a=> ?_) (fun j a=> ?_)
 ·refine Ab<|i _ _ ?_
  refine Aa fun u k=>Ai<|Ad<|rm 2 [0] rfl<|kB a fun p d a=>gV _ (cF ru) (fun o w z_=>OW N m b _ d z_.view mv (Aa1.mono z_.ro_cell hm))<|rz rfl<|AZ rfl<|aN a rfl (fun e a=> ?_) (fun e a=> ?_)
  ·refine AZ rfl ?_
   cases a
   exact aR eV3
  refine Ab<|k _ _ ?_
  refine Ag<|rn 1 rfl<|kC a fun f a=>rX f rfl<|rz rfl<|fg _ (Sub.of (suK _ suN)) ?_
  exact⟨c+1,by omega,c,(b+1),a,Ah rfl rfl,rfl⟩
 refine AI<|h _ _ ?_
 refine AZ rfl ?_
 cases a
 exact aR eV3
def Fy(N:Nat)(m:Ao):Option Bool:=ck ((R64 ((m.2.1.length:Int)+(m.2.2.1.length:Int)))) (ck ((R64 (((m.2.1.length:Int)+(m.2.2.1.length:Int))+(m.2.2.2.2.1.length:Int)))) (ck ((R64 ((((m.2.1.length:Int)+(m.2.2.1.length:Int))+(m.2.2.2.2.1.length:Int))+(m.2.2.2.2.2.1.length:Int)))) (ck ((R64 (((((m.2.1.length:Int)+(m.2.2.1.length:Int))+(m.2.2.2.2.1.length:Int))+(m.2.2.2.2.2.1.length:Int))+(m.2.2.2.2.2.2.1.length:Int)))) (ck ((R64 ((((((m.2.1.length:Int)+(m.2.2.1.length:Int))+(m.2.2.2.2.1.length:Int))+(m.2.2.2.2.2.1.length:Int))+(m.2.2.2.2.2.2.1.length:Int))+(m.2.2.2.2.2.2.2.1.length:Int)))) (ck ((R64 (((((((m.2.1.length:Int)+(m.2.2.1.length:Int))+(m.2.2.2.2.1.length:Int))+(m.2.2.2.2.2.1.length:Int))+(m.2.2.2.2.2.2.1.length:Int))+(m.2.2.2.2.2.2.2.1.length:Int))+(m.2.2.2.2.2.2.2.2.1.length:Int)))) (if((((((((m.2.1.length:Int)+(m.2.2.1.length:Int))+(m.2.2.2.2.1.length:Int))+(m.2.2.2.2.2.1.length:Int))+(m.2.2.2.2.2.2.1.length:Int))+(m.2.2.2.2.2.2.2.1.length:Int))+(m.2.2.2.2.2.2.2.2.1.length:Int)):Int)>150 then some false else(GS N m).bind fun a=>some (a.2.2==0)))))))
theorem OA(N m r)(a:Fy N m=some r)(ro)(mv:AD)(hm:Aa1 ro mv m):Does prog 4 #[vA (Ac m mv)] ro [] (pV (vB r)):=by
 unfold Fy at a
 refine Al follows func4 rfl 42 rfl _ fz1 (fun e=> ?_)
 refine Ad<|rA rfl fun l=>rz rfl<|Aa fun p f=>Ad<|rm 2 [0] rfl<|rL (RdN.shp hm.1) rfl<|rm 2 [0] rfl<|rL (Rd.shp hm.2.1) rfl<|kC a fun g a=>rX g rfl<|rm 2 [0] rfl<|rL (RdN.shp hm.2.2.2.1) rfl<|kC a fun h a=>rX h rfl<|rm 2 [0] rfl<|rL (RdN.shp hm.2.2.2.2.1) rfl<|kC a fun i a=>rX i rfl<|rm 2 [0] rfl<|rL (RdN.shp hm.2.2.2.2.2.1) rfl<|kC a fun j a=>rX j rfl<|rm 2 [0] rfl<|rL (RdN.shp hm.2.2.2.2.2.2.1) rfl<|kC a fun k a=>rX k rfl<|rm 2 [0] rfl<|rL (RdN.shp hm.2.2.2.2.2.2.2.1) rfl<|kC a fun b a=>rX b rfl<|rz rfl ?_
 refine GQ [(1,vP l 0),(33,vB (decide (((((((((m.2.1.length:Int)+(m.2.2.1.length:Int))+(m.2.2.2.2.1.length:Int))+(m.2.2.2.2.2.1.length:Int))+(m.2.2.2.2.2.2.1.length:Int))+(m.2.2.2.2.2.2.2.1.length:Int))+(m.2.2.2.2.2.2.2.2.1.length:Int)):Int)>150)))] rfl (fun T=> ?_)
 refine aD a rfl (fun c a=> ?_) (fun c a=> ?_)
 ·refine AZ rfl ?_
  cases a
  exact aR eV1
 refine Ab<|f _ _ ?_
 refine Ad<|rm 1 [0] rfl<|kB a fun n d a=>gV _ (cF tY) (fun o w z_=>Oz N m _ d z_.view mv (Aa1.mono z_.ro_cell hm))<|rz rfl<|AZ rfl ?_
 cases a
 exact aR eV1
end Go.Proofs.YtoolcgbcfgnipaaGreatDoor
