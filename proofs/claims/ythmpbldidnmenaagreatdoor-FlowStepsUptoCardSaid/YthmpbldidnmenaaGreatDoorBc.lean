import Derived.Test.YthmpbldidnmenaaGreatDoorBb
namespace Go.Proofs.YthmpbldidnmenaaGreatDoor
open Go Go.RowKit Go.Eng _root_.Go.Proofs.Tryz
set_option linter.unusedSimpArgs false
set_option linter.unusedVariables false
set_option maxRecDepth 100000
set_option maxHeartbeats 80000000
abbrev iJ(b:Nat)(x0:List UInt8)(x1:Value)(x2:Int)(x3:Int)(x4:Int)(x5:Int):List Bl:=[(b,106, #[vS x0,x1,vI x2,vI x3,vI x4,vI x5])]
abbrev al(b:Nat)(x0:Int)(x1:Int):List Bl:=[(b,223, #[vI x0,vI x1])]
abbrev ML(b:Nat)(x0:Int)(x1:BitVec 64)(x2:BitVec 64):List Bl:=[(b,39, #[vI x0,U x1,U x2])]
def Ui(m:An)(c:List (List UInt8))(a:Int)(b:List (List UInt8)→Int→Option (List (List UInt8)))(d:Bool):Option (List (List UInt8)):=if d=true then ck (0≤a∧a<(m.2.2.2.2.2.2.2.2.2.2.2.2.2.2.1.length:Int)) (ck ((c).length+([((m.2.2.2.2.2.2.2.2.2.2.2.2.2.2.1)[a.toNat]!).1]).length≤8796093022208) (ck (R64 (a+1)) (b ((c++([((m.2.2.2.2.2.2.2.2.2.2.2.2.2.2.1)[a.toNat]!).1]))) (a+1))))else some c
def Lv(m:An)(a:Int):Nat→List (List UInt8)→Int→Option (List (List UInt8))
  |0,_,_=>none
  |d+1,c,b=>if b<(m.2.2.2.2.2.2.2.2.2.2.2.2.2.2.1.length:Int)then Ui m c b (Lv m a d) (a==14)else Ui m c b (Lv m a d) false
def Uj(N:Nat)(m:An)(d:Int)(c:List (List UInt8))(a:Int)(b:List (List UInt8)→Int→Option (List (List UInt8)))(e:Bool):Option (List (List UInt8)):=if e=true then ck (0≤a∧a<(m.2.2.2.2.2.2.2.2.2.2.2.2.2.1.length:Int)) (ck ((c).length+([((m.2.2.2.2.2.2.2.2.2.2.2.2.2.1)[a.toNat]!).1]).length≤8796093022208) (ck (R64 (a+1)) (b ((c++([((m.2.2.2.2.2.2.2.2.2.2.2.2.2.1)[a.toNat]!).1]))) (a+1))))else Lv m d N c 0
def Lw(N:Nat)(m:An)(a:Int):Nat→List (List UInt8)→Int→Option (List (List UInt8))
  |0,_,_=>none
  |d+1,c,b=>if b<(m.2.2.2.2.2.2.2.2.2.2.2.2.2.1.length:Int)then Uj N m a c b (Lw N m a d) (a==13)else Uj N m a c b (Lw N m a d) false
def Uk(N:Nat)(m:An)(d:Int)(c:List (List UInt8))(a:Int)(b:List (List UInt8)→Int→Option (List (List UInt8)))(e:Bool):Option (List (List UInt8)):=if e=true then ck (0≤a∧a<(m.2.2.2.2.2.2.2.2.2.2.2.2.1.length:Int)) (ck ((c).length+([((m.2.2.2.2.2.2.2.2.2.2.2.2.1)[a.toNat]!).1]).length≤8796093022208) (ck (R64 (a+1)) (b ((c++([((m.2.2.2.2.2.2.2.2.2.2.2.2.1)[a.toNat]!).1]))) (a+1))))else Lw N m d N c 0
def Lx(N:Nat)(m:An)(a:Int):Nat→List (List UInt8)→Int→Option (List (List UInt8))
  |0,_,_=>none
  |c+1,d,b=>if b<(m.2.2.2.2.2.2.2.2.2.2.2.2.1.length:Int)then Uk N m a d b (Lx N m a c) (a==12)else Uk N m a d b (Lx N m a c) false
def Ul(N:Nat)(m:An)(d:Int)(c:List (List UInt8))(a:Int)(b:List (List UInt8)→Int→Option (List (List UInt8)))(e:Bool):Option (List (List UInt8)):=if e=true then ck (0≤a∧a<(m.2.2.2.2.2.2.1.length:Int)) (ck ((c).length+([(m.2.2.2.2.2.2.1)[a.toNat]!.1]).length≤8796093022208) (ck (R64 (a+1)) (b (c++([(m.2.2.2.2.2.2.1)[a.toNat]!.1])) (a+1))))else Lx N m d N c 0
def Ly(N:Nat)(m:An)(a:Int):Nat→List (List UInt8)→Int→Option (List (List UInt8))
  |0,_,_=>none
  |d+1,c,b=>if b<(m.2.2.2.2.2.2.1.length:Int)then Ul N m a c b (Ly N m a d) (a==6)else Ul N m a c b (Ly N m a d) false
def Um(N:Nat)(m:An)(d:Int)(c:List (List UInt8))(a:Int)(b:List (List UInt8)→Int→Option (List (List UInt8)))(e:Bool):Option (List (List UInt8)):=if e=true then ck (0≤a∧a<(m.2.2.2.2.2.1.length:Int)) (ck ((c).length+([(m.2.2.2.2.2.1)[a.toNat]!.1]).length≤8796093022208) (ck (R64 (a+1)) (b (c++([(m.2.2.2.2.2.1)[a.toNat]!.1])) (a+1))))else Ly N m d N c 0
def Lz(N:Nat)(m:An)(a:Int):Nat→List (List UInt8)→Int→Option (List (List UInt8))
  |0,_,_=>none
  |d+1,c,b=>if b<(m.2.2.2.2.2.1.length:Int)then Um N m a c b (Lz N m a d) (a==5)else Um N m a c b (Lz N m a d) false
def Un(N:Nat)(m:An)(d:Int)(c:List (List UInt8))(a:Int)(b:List (List UInt8)→Int→Option (List (List UInt8)))(e:Bool):Option (List (List UInt8)):=if e=true then ck (0≤a∧a<(m.2.2.2.2.1.length:Int)) (ck ((c).length+([(m.2.2.2.2.1)[a.toNat]!.1]).length≤8796093022208) (ck (R64 (a+1)) (b (c++([(m.2.2.2.2.1)[a.toNat]!.1])) (a+1))))else Lz N m d N c 0
def LA(N:Nat)(m:An)(a:Int):Nat→List (List UInt8)→Int→Option (List (List UInt8))
  |0,_,_=>none
  |c+1,d,b=>if b<(m.2.2.2.2.1.length:Int)then Un N m a d b (LA N m a c) (a==4)else Un N m a d b (LA N m a c) false
def cu(N:Nat)(m:An)(d:Int)(c:List (List UInt8))(a:Int)(b:List (List UInt8)→Int→Option (List (List UInt8)))(e:Bool):Option (List (List UInt8)):=if e=true then ck (0≤a∧a<(m.2.2.2.1.length:Int)) (ck ((c).length+([((m.2.2.2.1)[a.toNat]!).1]).length≤8796093022208) (ck (R64 (a+1)) (b ((c++([((m.2.2.2.1)[a.toNat]!).1]))) (a+1))))else LA N m d N c 0
def Qy(N:Nat)(m:An)(a:Int):Nat→List (List UInt8)→Int→Option (List (List UInt8))
  |0,_,_=>none
  |c+1,d,b=>if b<(m.2.2.2.1.length:Int)then cu N m a d b (Qy N m a c) (a==3)else cu N m a d b (Qy N m a c) false
def cw(N:Nat)(m:An)(d:Int)(c:List (List UInt8))(a:Int)(b:List (List UInt8)→Int→Option (List (List UInt8)))(e:Bool):Option (List (List UInt8)):=if e=true then ck (0≤a∧a<(m.2.1.length:Int)) (ck ((c).length+([(m.2.1)[a.toNat]!.1]).length≤8796093022208) (ck (R64 (a+1)) (b (c++([(m.2.1)[a.toNat]!.1])) (a+1))))else Qy N m d N c 0
def Sr(N:Nat)(m:An)(a:Int):Nat→List (List UInt8)→Int→Option (List (List UInt8))
  |0,_,_=>none
  |d+1,c,b=>if b<(m.2.1.length:Int)then cw N m a c b (Sr N m a d) (a==1)else cw N m a c b (Sr N m a d) false
def rTm(N:Nat)(m:An)(a:Int):Option (List (List UInt8)):=Sr N m a N ([]) 0
theorem rTg(N m part r)(a:rTm N m part=some r)(ro)(mv:Ay)(hm:Aa2 ro mv m):Does prog 48 #[vA (Ac m mv),vI part] ro [] (p1 (fun s_=>s_) 9 Aa4 r):=by
 unfold rTm at a
 refine Aj follows func48 rfl 175 rfl _ fz2 (fun ei=> ?_)
 refine Ad<|rA rfl fun b=>rz rfl<|AZ rfl<|Aa fun K4 ej=>AZ rfl<|Ah<|Bo _ (Sub.pickE (Ls:=[[(b,35,(Ac m mv))],[]]) (Ls0:=[[(b,35,(Ac m mv))]]) rfl [0,1] rfl)<|AC (fun tt ll nn=> ∃(n6:Nat) (aa:List (List UInt8)) (g:Int),(Sr N m part n6 aa g=some r)∧ ∃(O:Value) (v:List Bl),Sl 9 Aa4 O aa v∧Is [(1,vI part),(2,vP b 0),(5,O),(6,vI g)] (List.flatten [[(b,35,(Ac m mv))],v]) tt ll∧nn=n6+1) (N+1) ?_ ?_
 ·exact⟨N,[],0,a,nS,[],Sl.nil,Af rfl rfl,rfl⟩
 clear a;rintro t l _ ⟨n6,aa,g,a,O,v,bg,⟨⟨T,rfl⟩,rfl⟩,rfl⟩
 rcases n6 with _|n6
 ·exact absurd a (by simp [Sr])
 rw [Sr] at a
 refine Aa fun K7 ek=>Aa fun K8 el=>Ag<|rm 3 [0] rfl<|rL (RdN.shp hm.1) rfl<|rn 2 rfl<|AG 3 22 [(1,vI part),(2,vP b 0),(5,O),(6,vI g)] vB (fun b_=>cw N m part aa g (Sr N m part n6) b_=some r) (fun b9 a T=> ?_) (fun f=> ?_)
 ·unfold cw at a
  refine Ak<|el _ _ ?_
  refine aB a rfl (fun cp a=> ?_) (fun cp a=> ?_)
  ·refine Ab<|ek _ _ ?_
   refine Aa fun gm cq=>Ah<|Ag<|rm 4 [0] rfl<|kC a fun ad a=> ?_
   obtain⟨_,⟨em,fl,rfl⟩,hat15⟩:=RdN.at (E:=Ad4) hm.1 (De ad)
   refine rI (RdN.shp hm.1) ad rfl<|rF (RdN.shp hm.1) (Bb ad) rfl<|MG (vS ((m.2.1)[g.toNat]!.1)) (vs:=[vS ((m.2.1)[g.toNat]!.1),em,vI ((m.2.1)[g.toNat]!.2.2.1),vI ((m.2.1)[g.toNat]!.2.2.2.1),vI ((m.2.1)[g.toNat]!.2.2.2.2.1),vI ((m.2.1)[g.toNat]!.2.2.2.2.2)]) (g.toNat*6) 0 rfl rfl (fun o w z_=>At.mono z_.ro_cell hat15) rfl<|cD 32 ?_
   refine IW (cs0:=[]) (Ls:=[[(b,35,(Ac m mv))],v]) 9 Aa4 [(m.2.1)[g.toNat]!.1] [vS ((m.2.1)[g.toNat]!.1)] [Value.string (⟨#[]⟩)] rfl rfl rfl rfl rfl rfl rfl (by kernel_rfl) (by kernel_rfl) rfl rfl rfl (fun gn br en=> ?_)
   refine kC a fun bh a=>cC 33<|JB (cs0:=[]) (Ls:=[[(b,35,(Ac m mv))],v,br]) 1 (En:=Aa4) rfl rfl rfl rfl rfl bg rfl (Av en (Ai (Ls:=[[(b,35,(Ac m mv))],v,br]) (k:=2) rfl rfl)) rfl rfl rfl rfl rfl (Ke bh rfl) (Kc bh rfl) rfl (fun eo cr ep=> ?_)
   refine rz rfl<|cq _ _ ?_
   refine Ag<|rn 1 rfl<|kC a fun cs a=>rX cs rfl<|rz rfl<|fg _ (Sub.pick [[(b,35,(Ac m mv))],cr,br] [0,1] rfl) ?_
   exact⟨n6+1,by omega,n6,(aa++([(m.2.1)[g.toNat]!.1])),(g+1),a,eo,cr,ep,Af rfl rfl,rfl⟩
  refine AD<|ej _ _ ?_
  refine Aa fun gp ct=>AZ rfl<|Ah<|Bo _ (Sub.pick [[(b,35,(Ac m mv))],v] [0,1] rfl)<|AC (fun tt ll nn=> ∃(P:Nat) (ab:List (List UInt8)) (M:Int),(Qy N m part P ab M=some r)∧ ∃(Q:Value) (x:List Bl),Sl 9 Aa4 Q ab x∧Is [(1,vI part),(2,vP b 0),(5,Q),(7,vI M)] (List.flatten [[(b,35,(Ac m mv))],x]) tt ll∧nn=P+1) (N+1) ?_ ?_
  ·exact⟨N,aa,0,a,O,v,bg,Af rfl rfl,rfl⟩
  clear a;rintro t l _ ⟨P,ab,M,a,Q,x,bi,⟨⟨T,rfl⟩,rfl⟩,rfl⟩
  rcases P with _|P
  ·exact absurd a (by simp [Qy])
  rw [Qy] at a
  refine Aa fun gq cv=>Aa fun gr cx=>Ag<|rm 3 [0] rfl<|rL (Rd.shp hm.2.2.1) rfl<|rn 2 rfl<|AG 3 42 [(1,vI part),(2,vP b 0),(5,Q),(7,vI M)] vB (fun b_=>cu N m part ab M (Qy N m part P) b_=some r) (fun gs a T=> ?_) (fun f=> ?_)
  ·unfold cu at a
   refine Ak<|cx _ _ ?_
   refine aB a rfl (fun cy a=> ?_) (fun cy a=> ?_)
   ·refine Ab<|cv _ _ ?_
    refine Aa fun gu cz=>Ah<|Ag<|rm 4 [0] rfl<|kC a fun ae a=>rI (Rd.shp hm.2.2.1) ae rfl<|rF (Rd.shp hm.2.2.1) (Bb ae) rfl<|rE (Au hm.2.2.1) ae 0 rfl<|gB (Ls:=[[(b,35,(Ac m mv))],x]) 9 Aa4 [((m.2.2.2.1)[M.toNat]!).1] (fun gv bs er=> ?_)
    refine kC a fun bj a=>cC 53<|JB (cs0:=[]) (Ls:=[[(b,35,(Ac m mv))],x,bs]) 1 (En:=Aa4) rfl rfl rfl rfl rfl bi rfl (Av er (Ai (Ls:=[[(b,35,(Ac m mv))],x,bs]) (k:=2) rfl rfl)) rfl rfl rfl rfl rfl (Ke bj rfl) (Kc bj rfl) rfl (fun es da et=> ?_)
    refine rz rfl<|cz _ _ ?_
    refine Ag<|rn 1 rfl<|kC a fun db a=>rX db rfl<|rz rfl<|fg _ (Sub.pick [[(b,35,(Ac m mv))],da,bs] [0,1] rfl) ?_
    exact⟨P+1,by omega,P,(ab++([((m.2.2.2.1)[M.toNat]!).1])),(M+1),a,es,da,et,Af rfl rfl,rfl⟩
   refine AD<|ct _ _ ?_
   refine Aa fun gw dc=>AZ rfl<|Ah<|Bo _ (Sub.pick [[(b,35,(Ac m mv))],x] [0,1] rfl)<|AC (fun tt ll nn=> ∃(R:Nat) (ac:List (List UInt8)) (d:Int),(LA N m part R ac d=some r)∧ ∃(S:Value) (y:List Bl),Sl 9 Aa4 S ac y∧Is [(1,vI part),(2,vP b 0),(5,S),(8,vI d)] (List.flatten [[(b,35,(Ac m mv))],y]) tt ll∧nn=R+1) (N+1) ?_ ?_
   ·exact⟨N,ab,0,a,Q,x,bi,Af rfl rfl,rfl⟩
   clear a;rintro t l _ ⟨R,ac,d,a,S,y,bk,⟨⟨T,rfl⟩,rfl⟩,rfl⟩
   rcases R with _|R
   ·exact absurd a (by simp [LA])
   rw [LA] at a
   refine Aa fun gx dd=>Aa fun gy de=>Ag<|rm 3 [0] rfl<|rL (RdN.shp hm.2.2.2.1) rfl<|rn 2 rfl<|AG 3 62 [(1,vI part),(2,vP b 0),(5,S),(8,vI d)] vB (fun b_=>Un N m part ac d (LA N m part R) b_=some r) (fun gz a T=> ?_) (fun f=> ?_)
   ·unfold Un at a
    refine Ak<|de _ _ ?_
    refine aB a rfl (fun df a=> ?_) (fun df a=> ?_)
    ·refine Ab<|dd _ _ ?_
     refine Aa fun ha dg=>Ah<|Ag<|rm 4 [0] rfl<|kC a fun af a=> ?_
     obtain⟨_,⟨eu,ev,ew,fm,fn,fo,rfl⟩,hat56⟩:=RdN.at (E:=Ad8) hm.2.2.2.1 (De af)
     refine rI (RdN.shp hm.2.2.2.1) af rfl<|rF (RdN.shp hm.2.2.2.1) (Bb af) rfl<|MG (vS ((m.2.2.2.2.1)[d.toNat]!.1)) (vs:=[vS ((m.2.2.2.2.1)[d.toNat]!.1),eu,ev,ew,vI ((m.2.2.2.2.1)[d.toNat]!.2.2.2.2)]) (d.toNat*5) 0 rfl rfl (fun o w z_=>At.mono z_.ro_cell hat56) rfl<|cD 72 ?_
     refine IW (cs0:=[]) (Ls:=[[(b,35,(Ac m mv))],y]) 9 Aa4 [(m.2.2.2.2.1)[d.toNat]!.1] [vS ((m.2.2.2.2.1)[d.toNat]!.1)] [Value.string (⟨#[]⟩)] rfl rfl rfl rfl rfl rfl rfl (by kernel_rfl) (by kernel_rfl) rfl rfl rfl (fun hb bt ex=> ?_)
     refine kC a fun bl a=>cC 73<|JB (cs0:=[]) (Ls:=[[(b,35,(Ac m mv))],y,bt]) 1 (En:=Aa4) rfl rfl rfl rfl rfl bk rfl (Av ex (Ai (Ls:=[[(b,35,(Ac m mv))],y,bt]) (k:=2) rfl rfl)) rfl rfl rfl rfl rfl (Ke bl rfl) (Kc bl rfl) rfl (fun ey dh ez=> ?_)
     refine rz rfl<|dg _ _ ?_
     refine Ag<|rn 1 rfl<|kC a fun di a=>rX di rfl<|rz rfl<|fg _ (Sub.pick [[(b,35,(Ac m mv))],dh,bt] [0,1] rfl) ?_
     exact⟨R+1,by omega,R,(ac++([(m.2.2.2.2.1)[d.toNat]!.1])),(d+1),a,ey,dh,ez,Af rfl rfl,rfl⟩
    refine AD<|dc _ _ ?_
    refine Aa fun hc dj=>AZ rfl<|Ah<|Bo _ (Sub.pick [[(b,35,(Ac m mv))],y] [0,1] rfl)<|AC (fun tt ll nn=> ∃(U:Nat) (I:List (List UInt8)) (e:Int),(Lz N m part U I e=some r)∧ ∃(C:Value) (h:List Bl),Sl 9 Aa4 C I h∧Is [(1,vI part),(2,vP b 0),(5,C),(9,vI e)] (List.flatten [[(b,35,(Ac m mv))],h]) tt ll∧nn=U+1) (N+1) ?_ ?_
    ·exact⟨N,ac,0,a,S,y,bk,Af rfl rfl,rfl⟩
    clear a;rintro t l _ ⟨U,I,e,a,C,h,ag,⟨⟨T,rfl⟩,rfl⟩,rfl⟩
    rcases U with _|U
    ·exact absurd a (by simp [Lz])
    rw [Lz] at a
    refine Aa fun hd dk=>Aa fun he dl=>Ag<|rm 3 [0] rfl<|rL (RdN.shp hm.2.2.2.2.1) rfl<|rn 2 rfl<|AG 3 82 [(1,vI part),(2,vP b 0),(5,C),(9,vI e)] vB (fun b_=>Um N m part I e (Lz N m part U) b_=some r) (fun hf a T=> ?_) (fun f=> ?_)
    ·unfold Um at a
     refine Ak<|dl _ _ ?_
     refine aB a rfl (fun dm a=> ?_) (fun dm a=> ?_)
     ·refine Ab<|dk _ _ ?_
      refine Aa fun hg dn=>Ah<|Ag<|rm 4 [0] rfl<|kC a fun ah a=> ?_
      obtain⟨_,⟨fa,fb,fp,fq,rfl⟩,hat78⟩:=RdN.at (E:=Ad6) hm.2.2.2.2.1 (De ah)
      refine rI (RdN.shp hm.2.2.2.2.1) ah rfl<|rF (RdN.shp hm.2.2.2.2.1) (Bb ah) rfl<|MG (vS ((m.2.2.2.2.2.1)[e.toNat]!.1)) (vs:=[vS ((m.2.2.2.2.2.1)[e.toNat]!.1),fa,fb]) (e.toNat*3) 0 rfl rfl (fun o w z_=>At.mono z_.ro_cell hat78) rfl<|cD 92 ?_
      refine IW (cs0:=[]) (Ls:=[[(b,35,(Ac m mv))],h]) 9 Aa4 [(m.2.2.2.2.2.1)[e.toNat]!.1] [vS ((m.2.2.2.2.2.1)[e.toNat]!.1)] [Value.string (⟨#[]⟩)] rfl rfl rfl rfl rfl rfl rfl (by kernel_rfl) (by kernel_rfl) rfl rfl rfl (fun hh bu fc=> ?_)
      refine kC a fun bm a=>cC 93<|JB (cs0:=[]) (Ls:=[[(b,35,(Ac m mv))],h,bu]) 1 (En:=Aa4) rfl rfl rfl rfl rfl ag rfl (Av fc (Ai (Ls:=[[(b,35,(Ac m mv))],h,bu]) (k:=2) rfl rfl)) rfl rfl rfl rfl rfl (Ke bm rfl) (Kc bm rfl) rfl (fun fd dp fe=> ?_)
      refine rz rfl<|dn _ _ ?_
      refine Ag<|rn 1 rfl<|kC a fun dq a=>rX dq rfl<|rz rfl<|fg _ (Sub.pick [[(b,35,(Ac m mv))],dp,bu] [0,1] rfl) ?_
      exact⟨U+1,by omega,U,(I++([(m.2.2.2.2.2.1)[e.toNat]!.1])),(e+1),a,fd,dp,fe,Af rfl rfl,rfl⟩
     refine AD<|dj _ _ ?_
     refine Aa fun hi dr=>AZ rfl<|Ah<|Bo _ (Sub.pick [[(b,35,(Ac m mv))],h] [0,1] rfl)<|AC (fun tt ll nn=> ∃(V:Nat) (J:List (List UInt8)) (c:Int),(Ly N m part V J c=some r)∧ ∃(D:Value) (i:List Bl),Sl 9 Aa4 D J i∧Is [(1,vI part),(2,vP b 0),(5,D),(10,vI c)] (List.flatten [[(b,35,(Ac m mv))],i]) tt ll∧nn=V+1) (N+1) ?_ ?_
     ·exact⟨N,I,0,a,C,h,ag,Af rfl rfl,rfl⟩
     clear a;rintro t l _ ⟨V,J,c,a,D,i,ai,⟨⟨T,rfl⟩,rfl⟩,rfl⟩
     rcases V with _|V
     ·exact absurd a (by simp [Ly])
     rw [Ly] at a
     refine Aa fun hj ds=>Aa fun hk dt=>Ag<|rm 3 [0] rfl<|rL (RdN.shp hm.2.2.2.2.2.1) rfl<|rn 2 rfl<|AG 3 102 [(1,vI part),(2,vP b 0),(5,D),(10,vI c)] vB (fun b_=>Ul N m part J c (Ly N m part V) b_=some r) (fun hl a T=> ?_) (fun f=> ?_)
     ·unfold Ul at a
      refine Ak<|dt _ _ ?_
      refine aB a rfl (fun du a=> ?_) (fun du a=> ?_)
      ·refine Ab<|ds _ _ ?_
       refine Aa fun ho dv=>Ah<|Ag<|rm 4 [0] rfl<|kC a fun aj a=> ?_
       obtain⟨_,⟨ff,fh,fi,fr,fj,fk,rfl⟩,hat102⟩:=RdN.at (E:=Ae1) hm.2.2.2.2.2.1 (De aj)
       refine rI (RdN.shp hm.2.2.2.2.2.1) aj rfl<|rF (RdN.shp hm.2.2.2.2.2.1) (Bb aj) rfl<|MG (vS ((m.2.2.2.2.2.2.1)[c.toNat]!.1)) (vs:=[vS ((m.2.2.2.2.2.2.1)[c.toNat]!.1),vI ((m.2.2.2.2.2.2.1)[c.toNat]!.2.1),ff,fh,vI ((m.2.2.2.2.2.2.1)[c.toNat]!.2.2.2.2.1),fi,vI ((m.2.2.2.2.2.2.1)[c.toNat]!.2.2.2.2.2.2)]) (c.toNat*7) 0 rfl rfl (fun o w z_=>At.mono z_.ro_cell hat102) rfl<|cD 112 ?_
       refine IW (cs0:=[]) (Ls:=[[(b,35,(Ac m mv))],i]) 9 Aa4 [(m.2.2.2.2.2.2.1)[c.toNat]!.1] [vS ((m.2.2.2.2.2.2.1)[c.toNat]!.1)] [Value.string (⟨#[]⟩)] rfl rfl rfl rfl rfl rfl rfl (by kernel_rfl) (by kernel_rfl) rfl rfl rfl (fun fs ak dw=> ?_)
       refine kC a fun al a=>cC 113<|JB (cs0:=[]) (Ls:=[[(b,35,(Ac m mv))],i,ak]) 1 (En:=Aa4) rfl rfl rfl rfl rfl ai rfl (Av dw (Ai (Ls:=[[(b,35,(Ac m mv))],i,ak]) (k:=2) rfl rfl)) rfl rfl rfl rfl rfl (Ke al rfl) (Kc al rfl) rfl (fun dx bn dy=> ?_)
       refine rz rfl<|dv _ _ ?_
       refine Ag<|rn 1 rfl<|kC a fun bv a=>rX bv rfl<|rz rfl<|fg _ (Sub.pick [[(b,35,(Ac m mv))],bn,ak] [0,1] rfl) ?_
       exact⟨V+1,by omega,V,(J++([(m.2.2.2.2.2.2.1)[c.toNat]!.1])),(c+1),a,dx,bn,dy,Af rfl rfl,rfl⟩
      refine AD<|dr _ _ ?_
      refine Aa fun ft bw=>AZ rfl<|Ah<|Bo _ (Sub.pick [[(b,35,(Ac m mv))],i] [0,1] rfl)<|AC (fun tt ll nn=> ∃(z:Nat) (K:List (List UInt8)) (p:Int),(Lx N m part z K p=some r)∧ ∃(F:Value) (j:List Bl),Sl 9 Aa4 F K j∧Is [(1,vI part),(2,vP b 0),(5,F),(11,vI p)] (List.flatten [[(b,35,(Ac m mv))],j]) tt ll∧nn=z+1) (N+1) ?_ ?_
      ·exact⟨N,J,0,a,D,i,ai,Af rfl rfl,rfl⟩
      clear a;rintro t l _ ⟨z,K,p,a,F,j,am,⟨⟨T,rfl⟩,rfl⟩,rfl⟩
      rcases z with _|z
      ·exact absurd a (by simp [Lx])
      rw [Lx] at a
      refine Aa fun fu bx=>Aa fun fv bz=>Ag<|rm 3 [0] rfl<|rL (Rd.shp hm.2.2.2.2.2.2.2.2.2.2.2.1) rfl<|rn 2 rfl<|AG 3 122 [(1,vI part),(2,vP b 0),(5,F),(11,vI p)] vB (fun b_=>Uk N m part K p (Lx N m part z) b_=some r) (fun fw a T=> ?_) (fun f=> ?_)
      ·unfold Uk at a
       refine Ak<|bz _ _ ?_
       refine aB a rfl (fun ca a=> ?_) (fun ca a=> ?_)
       ·refine Ab<|bx _ _ ?_
        refine Aa fun fx cb=>Ah<|Ag<|rm 4 [0] rfl<|kC a fun X a=>rI (Rd.shp hm.2.2.2.2.2.2.2.2.2.2.2.1) X rfl<|rF (Rd.shp hm.2.2.2.2.2.2.2.2.2.2.2.1) (Bb X) rfl<|rE (Au hm.2.2.2.2.2.2.2.2.2.2.2.1) X 0 rfl<|cD 132 ?_
        refine IW (cs0:=[]) (Ls:=[[(b,35,(Ac m mv))],j]) 9 Aa4 [((m.2.2.2.2.2.2.2.2.2.2.2.2.1)[p.toNat]!).1] [vS (((m.2.2.2.2.2.2.2.2.2.2.2.2.1)[p.toNat]!).1)] [Value.string (⟨#[]⟩)] rfl rfl rfl rfl rfl rfl rfl (by kernel_rfl) (by kernel_rfl) rfl rfl rfl (fun fy an dz=> ?_)
        refine kC a fun ao a=>cC 133<|JB (cs0:=[]) (Ls:=[[(b,35,(Ac m mv))],j,an]) 1 (En:=Aa4) rfl rfl rfl rfl rfl am rfl (Av dz (Ai (Ls:=[[(b,35,(Ac m mv))],j,an]) (k:=2) rfl rfl)) rfl rfl rfl rfl rfl (Ke ao rfl) (Kc ao rfl) rfl (fun ea bo eb=> ?_)
        refine rz rfl<|cb _ _ ?_
        refine Ag<|rn 1 rfl<|kC a fun cc a=>rX cc rfl<|rz rfl<|fg _ (Sub.pick [[(b,35,(Ac m mv))],bo,an] [0,1] rfl) ?_
        exact⟨z+1,by omega,z,(K++([((m.2.2.2.2.2.2.2.2.2.2.2.2.1)[p.toNat]!).1])),(p+1),a,ea,bo,eb,Af rfl rfl,rfl⟩
       refine AD<|bw _ _ ?_
       refine Aa fun fz cd=>AZ rfl<|Ah<|Bo _ (Sub.pick [[(b,35,(Ac m mv))],j] [0,1] rfl)<|AC (fun tt ll nn=> ∃(A:Nat) (L:List (List UInt8)) (q:Int),(Lw N m part A L q=some r)∧ ∃(G:Value) (n:List Bl),Sl 9 Aa4 G L n∧Is [(1,vI part),(2,vP b 0),(5,G),(12,vI q)] (List.flatten [[(b,35,(Ac m mv))],n]) tt ll∧nn=A+1) (N+1) ?_ ?_
       ·exact⟨N,K,0,a,F,j,am,Af rfl rfl,rfl⟩
       clear a;rintro t l _ ⟨A,L,q,a,G,n,ap,⟨⟨T,rfl⟩,rfl⟩,rfl⟩
       rcases A with _|A
       ·exact absurd a (by simp [Lw])
       rw [Lw] at a
       refine Aa fun ga ce=>Aa fun gb cf=>Ag<|rm 3 [0] rfl<|rL (Rd.shp hm.2.2.2.2.2.2.2.2.2.2.2.2.1) rfl<|rn 2 rfl<|AG 3 142 [(1,vI part),(2,vP b 0),(5,G),(12,vI q)] vB (fun b_=>Uj N m part L q (Lw N m part A) b_=some r) (fun gc a T=> ?_) (fun f=> ?_)
       ·unfold Uj at a
        refine Ak<|cf _ _ ?_
        refine aB a rfl (fun cg a=> ?_) (fun cg a=> ?_)
        ·refine Ab<|ce _ _ ?_
         refine Aa fun gd ch=>Ah<|Ag<|rm 4 [0] rfl<|kC a fun Y a=>rI (Rd.shp hm.2.2.2.2.2.2.2.2.2.2.2.2.1) Y rfl<|rF (Rd.shp hm.2.2.2.2.2.2.2.2.2.2.2.2.1) (Bb Y) rfl<|rE (Au hm.2.2.2.2.2.2.2.2.2.2.2.2.1) Y 0 rfl<|cD 152 ?_
         refine IW (cs0:=[]) (Ls:=[[(b,35,(Ac m mv))],n]) 9 Aa4 [((m.2.2.2.2.2.2.2.2.2.2.2.2.2.1)[q.toNat]!).1] [vS (((m.2.2.2.2.2.2.2.2.2.2.2.2.2.1)[q.toNat]!).1)] [Value.string (⟨#[]⟩)] rfl rfl rfl rfl rfl rfl rfl (by kernel_rfl) (by kernel_rfl) rfl rfl rfl (fun gf aq ec=> ?_)
         refine kC a fun ar a=>cC 153<|JB (cs0:=[]) (Ls:=[[(b,35,(Ac m mv))],n,aq]) 1 (En:=Aa4) rfl rfl rfl rfl rfl ap rfl (Av ec (Ai (Ls:=[[(b,35,(Ac m mv))],n,aq]) (k:=2) rfl rfl)) rfl rfl rfl rfl rfl (Ke ar rfl) (Kc ar rfl) rfl (fun ed bp ee=> ?_)
         refine rz rfl<|ch _ _ ?_
         refine Ag<|rn 1 rfl<|kC a fun ci a=>rX ci rfl<|rz rfl<|fg _ (Sub.pick [[(b,35,(Ac m mv))],bp,aq] [0,1] rfl) ?_
         exact⟨A+1,by omega,A,(L++([((m.2.2.2.2.2.2.2.2.2.2.2.2.2.1)[q.toNat]!).1])),(q+1),a,ed,bp,ee,Af rfl rfl,rfl⟩
        refine AD<|cd _ _ ?_
        refine Aa fun gg cj=>AZ rfl<|Ah<|Bo _ (Sub.pick [[(b,35,(Ac m mv))],n] [0,1] rfl)<|AC (fun tt ll nn=> ∃(B:Nat) (W:List (List UInt8)) (s:Int),(Lv m part B W s=some r)∧ ∃(H:Value) (u:List Bl),Sl 9 Aa4 H W u∧Is [(1,vI part),(2,vP b 0),(5,H),(13,vI s)] (List.flatten [[(b,35,(Ac m mv))],u]) tt ll∧nn=B+1) (N+1) ?_ ?_
        ·exact⟨N,L,0,a,G,n,ap,Af rfl rfl,rfl⟩
        clear a;rintro t l _ ⟨B,W,s,a,H,u,au,⟨⟨T,rfl⟩,rfl⟩,rfl⟩
        rcases B with _|B
        ·exact absurd a (by simp [Lv])
        rw [Lv] at a
        refine Aa fun gh ck=>Aa fun gi cl=>Ag<|rm 3 [0] rfl<|rL (Rd.shp hm.2.2.2.2.2.2.2.2.2.2.2.2.2) rfl<|rn 2 rfl<|AG 3 162 [(1,vI part),(2,vP b 0),(5,H),(13,vI s)] vB (fun b_=>Ui m W s (Lv m part B) b_=some r) (fun gj a T=> ?_) (fun f=> ?_)
        ·unfold Ui at a
         refine Ak<|cl _ _ ?_
         refine aB a rfl (fun cm a=> ?_) (fun cm a=> ?_)
         ·refine Ab<|ck _ _ ?_
          refine Aa fun gk cn=>Ah<|Ag<|rm 4 [0] rfl<|kC a fun Z a=>rI (Rd.shp hm.2.2.2.2.2.2.2.2.2.2.2.2.2) Z rfl<|rF (Rd.shp hm.2.2.2.2.2.2.2.2.2.2.2.2.2) (Bb Z) rfl<|rE (Au hm.2.2.2.2.2.2.2.2.2.2.2.2.2) Z 0 rfl<|cD 172 ?_
          refine IW (cs0:=[]) (Ls:=[[(b,35,(Ac m mv))],u]) 9 Aa4 [((m.2.2.2.2.2.2.2.2.2.2.2.2.2.2.1)[s.toNat]!).1] [vS (((m.2.2.2.2.2.2.2.2.2.2.2.2.2.2.1)[s.toNat]!).1)] [Value.string (⟨#[]⟩)] rfl rfl rfl rfl rfl rfl rfl (by kernel_rfl) (by kernel_rfl) rfl rfl rfl (fun gl av ef=> ?_)
          refine kC a fun aw a=>cC 173<|JB (cs0:=[]) (Ls:=[[(b,35,(Ac m mv))],u,av]) 1 (En:=Aa4) rfl rfl rfl rfl rfl au rfl (Av ef (Ai (Ls:=[[(b,35,(Ac m mv))],u,av]) (k:=2) rfl rfl)) rfl rfl rfl rfl rfl (Ke aw rfl) (Kc aw rfl) rfl (fun eg bq eh=> ?_)
          refine rz rfl<|cn _ _ ?_
          refine Ag<|rn 1 rfl<|kC a fun co a=>rX co rfl<|rz rfl<|fg _ (Sub.pick [[(b,35,(Ac m mv))],bq,av] [0,1] rfl) ?_
          exact⟨B+1,by omega,B,(W++([((m.2.2.2.2.2.2.2.2.2.2.2.2.2.2.1)[s.toNat]!).1])),(s+1),a,eg,bq,eh,Af rfl rfl,rfl⟩
         refine AD<|cj _ _ ?_
         refine AZ rfl ?_
         cases a
         refine Bi (fun hn=>Ha (v0:=H) au (EK (Sub.pick [[(b,35,(Ac m mv))],u] [1] rfl)) rfl (Gj rfl))
        rcases ax:(decide (s<(m.2.2.2.2.2.2.2.2.2.2.2.2.2.2.1.length:Int)))with _|_
        ·replace a:=iF ax a
         refine rn 3 rfl ?_
         first|exact f _ _ a rfl rfl|exact lx_cn _ _ (f _ _ a rfl rfl)
        replace a:=iD ax a
        refine rn 3 rfl ?_
        first|exact f _ _ a rfl rfl|exact lx_cn _ _ (f _ _ a rfl rfl)
       rcases ay:(decide (q<(m.2.2.2.2.2.2.2.2.2.2.2.2.2.1.length:Int)))with _|_
       ·replace a:=iF ay a
        refine rn 3 rfl ?_
        first|exact f _ _ a rfl rfl|exact lx_cn _ _ (f _ _ a rfl rfl)
       replace a:=iD ay a
       refine rn 3 rfl ?_
       first|exact f _ _ a rfl rfl|exact lx_cn _ _ (f _ _ a rfl rfl)
      rcases az:(decide (p<(m.2.2.2.2.2.2.2.2.2.2.2.2.1.length:Int)))with _|_
      ·replace a:=iF az a
       refine rn 3 rfl ?_
       first|exact f _ _ a rfl rfl|exact lx_cn _ _ (f _ _ a rfl rfl)
      replace a:=iD az a
      refine rn 3 rfl ?_
      first|exact f _ _ a rfl rfl|exact lx_cn _ _ (f _ _ a rfl rfl)
     rcases ba:(decide (c<(m.2.2.2.2.2.2.1.length:Int)))with _|_
     ·replace a:=iF ba a
      refine rn 3 rfl ?_
      first|exact f _ _ a rfl rfl|exact lx_cn _ _ (f _ _ a rfl rfl)
     replace a:=iD ba a
     refine rn 3 rfl ?_
     first|exact f _ _ a rfl rfl|exact lx_cn _ _ (f _ _ a rfl rfl)
    rcases bb:(decide (e<(m.2.2.2.2.2.1.length:Int)))with _|_
    ·replace a:=iF bb a
     refine rn 3 rfl ?_
     first|exact f _ _ a rfl rfl|exact lx_cn _ _ (f _ _ a rfl rfl)
    replace a:=iD bb a
    refine rn 3 rfl ?_
    first|exact f _ _ a rfl rfl|exact lx_cn _ _ (f _ _ a rfl rfl)
   rcases bc:(decide (d<(m.2.2.2.2.1.length:Int)))with _|_
   ·replace a:=iF bc a
    refine rn 3 rfl ?_
    first|exact f _ _ a rfl rfl|exact lx_cn _ _ (f _ _ a rfl rfl)
   replace a:=iD bc a
   refine rn 3 rfl ?_
   first|exact f _ _ a rfl rfl|exact lx_cn _ _ (f _ _ a rfl rfl)
  rcases bd:(decide (M<(m.2.2.2.1.length:Int)))with _|_
  ·replace a:=iF bd a
   refine rn 3 rfl ?_
   first|exact f _ _ a rfl rfl|exact lx_cn _ _ (f _ _ a rfl rfl)
  replace a:=iD bd a
  refine rn 3 rfl ?_
  first|exact f _ _ a rfl rfl|exact lx_cn _ _ (f _ _ a rfl rfl)
 rcases be:(decide (g<(m.2.1.length:Int)))with _|_
 ·replace a:=iF be a
  refine rn 3 rfl ?_
  first|exact f _ _ a rfl rfl|exact lx_cn _ _ (f _ _ a rfl rfl)
 replace a:=iD be a
 refine rn 3 rfl ?_
 first|exact f _ _ a rfl rfl|exact lx_cn _ _ (f _ _ a rfl rfl)
def Ey(d:List (List UInt8×Int))(b:Int)(c:Int)(a:Int→Int→Option Int)(e:Bool):Option Int:=if e=true then some 9 else ck ((R64 (b+(d[c.toNat]!).2))) (ck (R64 (c+1)) (a (b+(d[c.toNat]!).2) (c+1)))
def Cg(N:Nat)(b:List (List UInt8×Int))(e:Int)(c:Int)(a:Int→Int→Option Int):Nat→Int→Option Int
  |0,_=>none
  |f+1,d=>if d<c then ck (0≤d∧d<(b.length:Int)) ((Ee N ((b[d.toNat]!).1) ((b[c.toNat]!).1)).bind fun g=>if g=true then some 6 else ck (R64 (d+1)) ((Cg N b e c a f) (d+1)))else if((b[c.toNat]!).2:Int)<1 then Ey b e c a true else Ey b e c a (decide (((b[c.toNat]!).2:Int)>128))
def FF(a:Bool):Option Int:=if a=true then some 7 else some 0
def Ci(a:Int)(b:Bool):Option Int:=if b=true then FF true else FF (a !=0)
def Fc(a:Bool):Option Int:=if a=true then some 7 else some 0
def DZ(a:Int)(b:Bool):Option Int:=if b=true then Fc true else Fc (decide (a>4096))
def Ea(a:Int)(b:Bool):Option Int:=if b=true then DZ a true else DZ a (decide (a<0))
def Eb(b:Int)(a:Int)(c:Bool):Option Int:=if c=true then Ea a true else Ea a (decide (b>64))
def CH(a:Int)(b:Int)(c:Bool):Option Int:=if c=true then Eb a b true else Eb a b (decide (a<1))
def CI(c:List (List UInt8×Int))(a:Int)(b:Int)(d:Int)(e:Bool):Option Int:=if e=true then CH b d true else ck (0≤a∧a<(c.length:Int)) (CH b d (decide (((c[a.toNat]!).2:Int)>16)))
def CJ(a:List (List UInt8×Int))(b:Int)(c:Int)(d:Int)(e:Bool):Option Int:=if e=true then CI a b c d true else CI a b c d (decide (b≥(a.length:Int)))
def Ch(c:List (List UInt8×Int))(a:Int)(b:Int)(d:Int)(e:Bool):Option Int:=if e=true then CJ c a b d true else CJ c a b d (decide (a<0))
def BD(N:Nat)(b:List (List UInt8×Int))(g:Int)(f:Int)(e:Int)(d:Int):Nat→Int→Int→Option Int
  |0,_,_=>none
  |h+1,a,c=>if c<(b.length:Int)then ck (0≤c∧c<(b.length:Int)) ((CO N ((b[c.toNat]!).1)).bind fun i=>if i=true then Cg N b a c (BD N b g f e d h) N 0 else some 4)else ck (0≤a∧a≤9223372036854775807) (if(a%8:Int)≠0 then some 9 else if g=0 then if(f:Int)≠0 then Ci d true else Ci d (e !=0)else if g<1 then Ch b f e d true else Ch b f e d (decide (g>64)))
def FX(N:Nat)(e:List UInt8)(a:List (List UInt8×Int))(f:Int)(d:Int)(b:Int)(c:Int):Option Int:=(CO N e).bind fun g=>if g=true then if(a.length:Int)>16 then some 2 else if(a.length:Int)=0 then some 5 else BD N a f d b c N 0 0 else some 4
theorem OV(N h_0 h_1 h_2 h_3 h_4 h_5 r)(a:FX N h_0 h_1 h_2 h_3 h_4 h_5=some r)(ro h_1v)(hh_1:Rd Ab4 ro h_1v h_1):Does prog 49 #[vA #[vS h_0,h_1v,vI h_2,vI h_3,vI h_4,vI h_5]] ro [] (pV (vI r)):=by
 unfold FX at a
 refine Aj follows func49 rfl 131 rfl _ fz1 (fun al=> ?_)
 refine Ad<|rA rfl fun g=>rz rfl<|Aa fun K3 am=>Ad<|rm 2 [0] rfl<|kB a fun r5 an a=>rc _ (cF TP) (Hn N h_0 _ an)<|rz rfl<|Bv _ rfl (fun A=> ?_) (fun A=> ?_)
 ·replace a:=ifn (Bool.eq_false_iff.1 (CM A)) a
  refine AZ rfl ?_
  cases a
  exact aR eV1
 replace a:=ifp (CN A) a
 refine Ab<|am _ _ ?_
 refine Aa fun K9 ao=>Ad<|rm 2 [0] rfl<|rL (Rd.shp hh_1) rfl<|rz rfl<|aD a rfl (fun C a=> ?_) (fun C a=> ?_)
 ·refine AZ rfl ?_
  cases a
  exact aR eV1
 refine Ab<|ao _ _ ?_
 refine Aa fun az D=>Ad<|rm 2 [0] rfl<|rL (Rd.shp hh_1) rfl<|rz rfl<|aE a rfl (fun E a=> ?_) (fun E a=> ?_)
 ·refine AZ rfl ?_
  cases a
  exact aR eV1
 refine Ab<|D _ _ ?_
 refine AZ rfl<|Aa fun ba F=>AZ rfl<|Ah<|AC (fun tt ll nn=> ∃(e:Nat) (c:Int) (d:Int),(BD N h_1 h_2 h_3 h_4 h_5 e c d=some r)∧Is [(1,vP g 0),(3,vI c),(4,vI d)] (iJ g h_0 h_1v h_2 h_3 h_4 h_5) tt ll∧nn=e+1) (N+1) ?_ ?_
 ·exact⟨N,0,0,a,Af rfl rfl,rfl⟩
 clear a;rintro t l _ ⟨e,c,d,a,⟨⟨T,rfl⟩,rfl⟩,rfl⟩
 rcases e with _|e
 ·exact absurd a (by simp [BD])
 rw [BD] at a
 refine Aa fun bb G=>Ad<|rm 3 [0] rfl<|rL (Rd.shp hh_1) rfl<|rz rfl<|aD a rfl (fun H a=> ?_) (fun H a=> ?_)
 ·refine Ab<|G _ _ ?_
  refine Aa fun bc I=>Ah<|Ad<|rm 3 [0] rfl<|kC a fun m a=>rI (Rd.shp hh_1) m rfl<|rE (Au hh_1) m 0 rfl<|rA rfl fun B=>ry [0] rfl<|Aa fun bd J=>Ad<|rm 2 [0] rfl<|kB a fun be K a=>rc _ (cF TP) (Hn N ((h_1[d.toNat]!).1) _ K)<|rz rfl<|Bv _ rfl (fun h=> ?_) (fun h=> ?_)
  ·replace a:=ifn (Bool.eq_false_iff.1 (CM h)) a
   refine AZ rfl ?_
   cases a
   exact aR eV1
  replace a:=ifp (CN h) a
  refine Ab<|J _ _ ?_
  refine Aa fun bf L=>AZ rfl<|Ah<|AC (fun tt ll nn=> ∃(f:Nat) (i:Int),(Cg N h_1 c d (BD N h_1 h_2 h_3 h_4 h_5 e) f i=some r)∧Is [(1,vP g 0),(3,vI c),(4,vI d),(5,vP B 0),(6,vI i)] [(B,104, #[vS ((h_1[d.toNat]!).1),vI ((h_1[d.toNat]!).2)]),(g,106, #[vS h_0,h_1v,vI h_2,vI h_3,vI h_4,vI h_5])] tt ll∧nn=f+1) (N+1) ?_ ?_
  ·exact⟨N,0,a,Af rfl rfl,rfl⟩
  clear a;rintro t l _ ⟨f,i,a,⟨⟨T,rfl⟩,rfl⟩,rfl⟩
  rcases f with _|f
  ·exact absurd a (by simp [Cg])
  rw [Cg] at a
  refine Aa fun bg M=>AZ rfl<|aD a rfl (fun O a=> ?_) (fun O a=> ?_)
  ·refine Ab<|M _ _ ?_
   refine Aa fun bh P=>Ah<|Aa fun bi Q=>Hb [] (by decide+kernel) (fun hn=>AH)<|rm 3 [1] rfl<|kC a fun j a=>rI (Rd.shp hh_1) j rfl<|rF (Rd.shp hh_1) (Bb j) rfl<|rE (Au hh_1) j 0 rfl<|rm 2 [0] rfl<|kB a fun bj R a=>rc _ (cF Zi) (Ik N ((h_1[i.toNat]!).1) ((h_1[d.toNat]!).1) _ R)<|Ak<|Q _ _ ?_
   refine aB a rfl (fun S a=> ?_) (fun S a=> ?_)
   ·refine AZ rfl ?_
    cases a
    exact aR eV1
   refine Ab<|P _ _ ?_
   refine Ag<|rn 1 rfl<|kC a fun U a=>rX U rfl<|rz rfl<|fg _ (Sub.of (suK _ (suK _ suN))) ?_
   exact⟨f+1,by omega,f,(i+1),a,Af rfl rfl,rfl⟩
  refine AD<|L _ _ ?_
  refine Aa fun bk V=>Aa fun bl W=>Ag<|rm 4 [0] rfl<|AG 4 56 [(1,vP g 0),(3,vI c),(4,vI d),(5,vP B 0)] vB (fun b_=>Ey h_1 c d (BD N h_1 h_2 h_3 h_4 h_5 e) b_=some r) (fun bm a T=> ?_) (fun b=> ?_)
  ·unfold Ey at a
   refine Ak<|W _ _ ?_
   refine aB a rfl (fun X a=> ?_) (fun X a=> ?_)
   ·refine AZ rfl ?_
    cases a
    exact aR eV1
   refine Ab<|V _ _ ?_
   refine Ag<|rm 3 [0] rfl<|kC a fun Y a=>rX Y rfl<|rz rfl<|I _ _ ?_
   refine Ag<|rn 1 rfl<|kC a fun Z a=>rX Z rfl<|rz rfl<|fg _ (Sub.of (suC _ (suK _ suN))) ?_
   exact⟨e+1,by omega,e,(c+(h_1[d.toNat]!).2),(d+1),a,Af rfl rfl,rfl⟩
  rcases n:(decide (((h_1[d.toNat]!).2:Int)<1))with _|_
  ·replace a:=iF n a
   refine rn 1 rfl<|r_y rfl<|rm 3 [0] rfl ?_
   first|exact b _ _ a rfl rfl|exact lx_cn _ _ (b _ _ a rfl rfl)
  replace a:=iD n a
  refine rn 4 rfl ?_
  first|exact b _ _ a rfl rfl|exact lx_cn _ _ (b _ _ a rfl rfl)
 refine AD<|F _ _ ?_
 refine Aa fun bn aa=>Ad<|rn 1 rfl<|kC a fun ab a=>r_X (vI (c%8)) rfl (Rr ab.1) rfl<|rz rfl<|aN a rfl (fun ac a=> ?_) (fun ac a=> ?_)
 ·refine AZ rfl ?_
  cases a
  exact aR eV1
 refine Ab<|aa _ _ ?_
 refine Aa fun bo ad=>AY [0] rfl<|aE a rfl (fun ae a=> ?_) (fun ae a=> ?_)
 ·refine Aa fun bp af=>Aa fun bq ag=>Ag<|rm 4 [0] rfl<|AG 4 74 [(1,vP g 0)] vB (fun b_=>Ci h_5 b_=some r) (fun ap a T=> ?_) (fun b=> ?_)
  ·unfold Ci at a
   refine rn 1 rfl<|AG 4 79 [] vB (fun b_=>FF b_=some r) (fun br a T=> ?_) (fun b=> ?_)
   ·unfold FF at a
    refine Ak<|ag _ _ ?_
    refine aB a rfl (fun ah a=> ?_) (fun ah a=> ?_)
    ·refine AZ rfl ?_
     cases a
     exact aR eV1
    refine Ab<|af _ _ ?_
    refine AZ rfl ?_
    cases a
    exact aR eV1
   rcases o:ap with _|_
   ·replace a:=iB o a
    refine rn 1 rfl<|r_y rfl<|rm 3 [0] rfl ?_
    first|exact b _ _ a rfl rfl|exact lx_cn _ _ (b _ _ a rfl rfl)
   replace a:=ifp o a
   refine rn 4 rfl ?_
   first|exact b _ _ a rfl rfl|exact lx_cn _ _ (b _ _ a rfl rfl)
  rcases p:(h_3 !=0)with _|_
  ·replace a:=iM p a
   refine rn 1 rfl<|r_y rfl<|rm 3 [0] rfl ?_
   first|exact b _ _ a rfl rfl|exact lx_cn _ _ (b _ _ a rfl rfl)
  replace a:=iN p a
  refine rn 4 rfl ?_
  first|exact b _ _ a rfl rfl|exact lx_cn _ _ (b _ _ a rfl rfl)
 refine Ab<|ad _ _ ?_
 refine Aa fun bs ai=>Aa fun bt aj=>Ag<|rm 4 [0] rfl<|AG 4 87 [(1,vP g 0)] vB (fun b_=>Ch h_1 h_3 h_4 h_5 b_=some r) (fun aq a T=> ?_) (fun b=> ?_)
 ·unfold Ch at a
  refine rn 1 rfl<|AG 4 92 [(1,vP g 0)] vB (fun b_=>CJ h_1 h_3 h_4 h_5 b_=some r) (fun ar a T=> ?_) (fun b=> ?_)
  ·unfold CJ at a
   refine rn 1 rfl<|AG 7 100 [(1,vP g 0)] vB (fun b_=>CI h_1 h_3 h_4 h_5 b_=some r) (fun au a T=> ?_) (fun b=> ?_)
   ·unfold CI at a
    refine rn 1 rfl<|AG 9 110 [(1,vP g 0)] vB (fun b_=>CH h_4 h_5 b_=some r) (fun av a T=> ?_) (fun b=> ?_)
    ·unfold CH at a
     refine rn 1 rfl<|AG 4 115 [(1,vP g 0)] vB (fun b_=>Eb h_4 h_5 b_=some r) (fun aw a T=> ?_) (fun b=> ?_)
     ·unfold Eb at a
      refine rn 1 rfl<|AG 4 120 [(1,vP g 0)] vB (fun b_=>Ea h_5 b_=some r) (fun ax a T=> ?_) (fun b=> ?_)
      ·unfold Ea at a
       refine rn 1 rfl<|AG 4 125 [(1,vP g 0)] vB (fun b_=>DZ h_5 b_=some r) (fun ay a T=> ?_) (fun b=> ?_)
       ·unfold DZ at a
        refine rn 1 rfl<|AG 4 130 [] vB (fun b_=>Fc b_=some r) (fun bu a T=> ?_) (fun b=> ?_)
        ·unfold Fc at a
         refine Ak<|aj _ _ ?_
         refine aB a rfl (fun ak a=> ?_) (fun ak a=> ?_)
         ·refine AZ rfl ?_
          cases a
          exact aR eV1
         refine Ab<|ai _ _ ?_
         refine AZ rfl ?_
         cases a
         exact aR eV1
        rcases q:ay with _|_
        ·replace a:=iB q a
         refine rn 1 rfl<|r_y rfl<|rm 3 [0] rfl ?_
         first|exact b _ _ a rfl rfl|exact lx_cn _ _ (b _ _ a rfl rfl)
        replace a:=ifp q a
        refine rn 4 rfl ?_
        first|exact b _ _ a rfl rfl|exact lx_cn _ _ (b _ _ a rfl rfl)
       rcases s:ax with _|_
       ·replace a:=iB s a
        refine rn 1 rfl<|r_y rfl<|rm 3 [0] rfl ?_
        first|exact b _ _ a rfl rfl|exact lx_cn _ _ (b _ _ a rfl rfl)
       replace a:=ifp s a
       refine rn 4 rfl ?_
       first|exact b _ _ a rfl rfl|exact lx_cn _ _ (b _ _ a rfl rfl)
      rcases u:aw with _|_
      ·replace a:=iB u a
       refine rn 1 rfl<|r_y rfl<|rm 3 [0] rfl ?_
       first|exact b _ _ a rfl rfl|exact lx_cn _ _ (b _ _ a rfl rfl)
      replace a:=ifp u a
      refine rn 4 rfl ?_
      first|exact b _ _ a rfl rfl|exact lx_cn _ _ (b _ _ a rfl rfl)
     rcases v:av with _|_
     ·replace a:=iB v a
      refine rn 1 rfl<|r_y rfl<|rm 3 [0] rfl ?_
      first|exact b _ _ a rfl rfl|exact lx_cn _ _ (b _ _ a rfl rfl)
     replace a:=ifp v a
     refine rn 4 rfl ?_
     first|exact b _ _ a rfl rfl|exact lx_cn _ _ (b _ _ a rfl rfl)
    rcases w:au with _|_
    ·replace a:=iB w a
     refine rn 1 rfl<|r_y rfl<|rm 2 [0] rfl<|r_y rfl<|rm 1 [0] rfl<|r_y rfl<|kC a fun k a=>rI (Rd.shp hh_1) k rfl<|r_y rfl<|rF (Rd.shp hh_1) (Bb k) rfl<|r_y rfl<|rE (Au hh_1) k 1 rfl<|rn 2 rfl ?_
     first|exact b _ _ a rfl rfl|exact lx_cn _ _ (b _ _ a rfl rfl)
    replace a:=ifp w a
    refine rn 9 rfl ?_
    first|exact b _ _ a rfl rfl|exact lx_cn _ _ (b _ _ a rfl rfl)
   rcases x:ar with _|_
   ·replace a:=iB x a
    refine rn 1 rfl<|r_y rfl<|rm 2 [0] rfl<|r_y rfl<|rm 1 [0] rfl<|r_y rfl<|rL (Rd.shp hh_1) rfl<|rn 2 rfl ?_
    first|exact b _ _ a rfl rfl|exact lx_cn _ _ (b _ _ a rfl rfl)
   replace a:=ifp x a
   refine rn 7 rfl ?_
   first|exact b _ _ a rfl rfl|exact lx_cn _ _ (b _ _ a rfl rfl)
  rcases y:aq with _|_
  ·replace a:=iB y a
   refine rn 1 rfl<|r_y rfl<|rm 3 [0] rfl ?_
   first|exact b _ _ a rfl rfl|exact lx_cn _ _ (b _ _ a rfl rfl)
  replace a:=ifp y a
  refine rn 4 rfl ?_
  first|exact b _ _ a rfl rfl|exact lx_cn _ _ (b _ _ a rfl rfl)
 rcases z:(decide (h_2<1))with _|_
 ·replace a:=iF z a
  refine rn 1 rfl<|r_y rfl<|rm 3 [0] rfl ?_
  first|exact b _ _ a rfl rfl|exact lx_cn _ _ (b _ _ a rfl rfl)
 replace a:=iD z a
 refine rn 4 rfl ?_
 first|exact b _ _ a rfl rfl|exact lx_cn _ _ (b _ _ a rfl rfl)
def Cp(N:Nat)(b:List (List UInt8)):Nat→Int→Option Int
  |0,_=>none
  |d+1,a=>ck ((R64 ((b.length:Int) - 1))) (if a<((b.length:Int) - 1)then ck (0≤a∧a<(b.length:Int)) ((Ee N (b[a.toNat]!) (b[(((b.length:Int) - 1)).toNat]!)).bind fun c=>if c=true then some 6 else ck (R64 (a+1)) ((Cp N b d) (a+1)))else some 0)
def Gp(N:Nat)(a:List (List UInt8)):Option Int:=ck ((R64 ((a.length:Int) - 1))) (ck (0≤((a.length:Int) - 1)∧((a.length:Int) - 1)<(a.length:Int)) ((CO N (a[(((a.length:Int) - 1)).toNat]!)).bind fun b=>if b=true then Cp N a N 0 else some 4))
theorem Pf(N l' r)(a:Gp N l'=some r)(ro l'v)(hl':Rd Aa4 ro l'v l'):Does prog 50 #[l'v] ro [] (pV (vI r)):=by
 unfold Gp at a
 refine Aj follows func50 rfl 27 rfl _ fz1 (fun p=> ?_)
 refine AZ rfl<|Ad<|rn 2 rfl<|rL (Rd.shp hl') rfl<|kC a fun q a=>rX q rfl<|kC a fun f a=>rI (Rd.shp hl') f rfl<|rE (Au hl') f 0 rfl<|rz rfl<|Aa fun z s=>Ad<|rn 1 rfl<|kB a fun A u a=>rc _ (cF TP) (Hn N (l'[(((l'.length:Int) - 1)).toNat]!) _ u)<|rz rfl<|Bv _ rfl (fun e=> ?_) (fun e=> ?_)
 ·replace a:=ifn (Bool.eq_false_iff.1 (CM e)) a
  refine AZ rfl ?_
  cases a
  exact aR eV1
 replace a:=ifp (CN e) a
 refine Ab<|s _ _ ?_
 refine Aa fun v g=>AZ rfl<|Ah<|AC (fun tt ll nn=> ∃(b:Nat) (c:Int),(Cp N l' b c=some r)∧Is [(0,l'v),(3,vS (l'[(((l'.length:Int) - 1)).toNat]!)),(4,vI c)] [] tt ll∧nn=b+1) (N+1) ?_ ?_
 ·exact⟨N,0,a,Af rfl rfl,rfl⟩
 clear a;rintro t l _ ⟨b,c,a,⟨⟨T,rfl⟩,rfl⟩,rfl⟩
 rcases b with _|b
 ·exact absurd a (by simp [Cp])
 rw [Cp] at a
 refine Aa fun w h=>Ad<|rn 2 rfl<|rL (Rd.shp hl') rfl<|kC a fun i a=>rX i rfl<|rz rfl<|aD a rfl (fun j a=> ?_) (fun j a=> ?_)
 ·refine Ab<|h _ _ ?_
  refine Aa fun x k=>Ah<|Ad<|rn 2 rfl<|kC a fun d a=>rI (Rd.shp hl') d rfl<|rE (Au hl') d 0 rfl<|rn 1 rfl<|kB a fun y m a=>rc _ (cF Zi) (Ik N (l'[c.toNat]!) (l'[(((l'.length:Int) - 1)).toNat]!) _ m)<|Ak<|aB a rfl (fun n a=> ?_) (fun n a=> ?_)
  ·refine AZ rfl ?_
   cases a
   exact aR eV1
  refine Ab<|k _ _ ?_
  refine Ag<|rn 1 rfl<|kC a fun o a=>rX o rfl<|rz rfl<|fg _ (Sub.of suN) ?_
  exact⟨b+1,by omega,b,(c+1),a,Af rfl rfl,rfl⟩
 refine AD<|g _ _ ?_
 refine AZ rfl ?_
 cases a
 exact aR eV1
def FD(a:Bool):Option Int:=if a=true then some 7 else some 0
def EM(N:Nat)(m:An)(b:Int)(a:Int):Option Int:=if b=0 then(Cf N m.2.2.1).bind fun c=>if a<0 then some 5 else if a≥(c.length:Int)then some 5 else ck (0≤a∧a<(c.length:Int)) (ck (0≤(c[a.toNat]!).1∧(c[a.toNat]!).1<(m.2.2.1.length:Int)) (if(((m.2.2.1)[((c[a.toNat]!).1).toNat]!).2.2:Int)≠0 then some 5 else some 0))else if b=1 then(Cc N m a).bind fun d=>if d.2.2=true then some 0 else some 5 else if(b:Int)≠2 then some 10 else if a<1 then FD true else FD (decide (a>64))
theorem OU(N m x_0 x_1 r)(a:EM N m x_0 x_1=some r)(ro)(mv:Ay)(hm:Aa2 ro mv m):Does prog 110 #[vA (Ac m mv),vA #[vI x_0,vI x_1]] ro [] (pV (vI r)):=by
 unfold EM at a
 refine Aj follows func110 rfl 63 rfl _ fz2 (fun z=> ?_)
 refine Ad<|rA rfl fun G=>rA rfl fun H=>rz rfl<|Aa fun U B=>AY [0] rfl<|aE a rfl (fun C a=> ?_) (fun C a=> ?_)
 ·refine Ad<|rm 2 [1] rfl<|kB a fun I D a=>gS (Ls:=[(al H x_0 x_1),[(G,35,(Ac m mv))]]) (cF RX) (fun o w z_=>Gq N m.2.2.1 _ D z_.view mv.2.1 ((Au hm.2.1) o w z_)) (fun E F f=> ?_)
  refine rz rfl<|Aa fun J j=>Aa fun K b=>Hb [] (by decide+kernel) (fun V=>AH)<|rm 4 [0] rfl ?_
  rcases g:(decide (x_1<0))with _|_
  ·replace a:=iF g a
   refine rn 1 rfl<|r_y rfl<|rm 2 [0] rfl<|r_y rfl<|rL (Sl.shp f) rfl<|rn 3 rfl ?_
   rcases h:(decide (x_1≥(I.length:Int)))with _|_
   ·replace a:=iF h a
    refine rn 1 rfl<|r_y rfl<|rm 3 [1] rfl<|r_y rfl<|rm 1 [0] rfl<|r_y rfl<|kC a fun c a=>rI (Sl.shp f) c rfl<|r_y rfl<|r_W (elA E (x_1.toNat*2+0)) rfl (ET (eq 0 rfl rfl rfl rfl (Sl.shp f) (Bb c) (by decide)))<|r_y rfl<|rE (Av f (Ai (Ls:=[(al H x_0 x_1),[(G,35,(Ac m mv))],F]) (k:=2) rfl rfl)) c 0 rfl<|r_y rfl<|kC a fun d a=>rI (Rd.shp hm.2.1) d rfl<|r_y rfl<|rF (Rd.shp hm.2.1) (Bb d) rfl<|r_y rfl<|rE (Au hm.2.1) d 2 rfl<|rz rfl<|b _ _ ?_
    refine Gm [(38,vB (((((m.2.2.1)[((I[x_1.toNat]!).1).toNat]!).2.2:Int) !=0)))] rfl (fun T=> ?_)
    refine aN a rfl (fun l a=> ?_) (fun l a=> ?_)
    ·refine AZ rfl ?_
     cases a
     exact aR eV1
    refine Ab<|j _ _ ?_
    refine AZ rfl ?_
    cases a
    exact aR eV1
   replace a:=iD h a
   refine rz rfl<|b _ _ ?_
   refine Gm [(38,vB true)] rfl (fun T=> ?_)
   refine Lq rfl ?_
   refine AZ rfl ?_
   cases a
   exact aR eV1
  replace a:=iD g a
  refine rz rfl<|b _ _ ?_
  refine Gm [(38,vB true)] rfl (fun T=> ?_)
  refine Lq rfl ?_
  refine AZ rfl ?_
  cases a
  exact aR eV1
 refine Ab<|B _ _ ?_
 refine Aa fun L n=>AY [0] rfl<|aE a rfl (fun p a=> ?_) (fun p a=> ?_)
 ·refine Ad<|rm 3 [1,0] rfl<|kB a fun M q a=>gV _ (cF Zn) (fun o w z_=>Hi N m x_1 _ q z_.view mv (Aa2.mono z_.ro_cell hm))<|rz rfl<|Aa fun O s=>AZ rfl<|Bv _ rfl (fun e=> ?_) (fun e=> ?_)
  ·replace a:=ifn (Bool.eq_false_iff.1 (CM e)) a
   refine AZ rfl ?_
   cases a
   exact aR eV1
  replace a:=ifp (CN e) a
  refine Ab<|s _ _ ?_
  refine AZ rfl ?_
  cases a
  exact aR eV1
 refine Ab<|n _ _ ?_
 refine Aa fun P t=>AY [0] rfl<|aN a rfl (fun u a=> ?_) (fun u a=> ?_)
 ·refine AZ rfl ?_
  cases a
  exact aR eV1
 refine Ab<|t _ _ ?_
 refine Aa fun Q v=>Aa fun R x=>Ag<|rm 4 [0] rfl<|AG 4 62 [] vB (fun b_=>FD b_=some r) (fun S a T=> ?_) (fun A=> ?_)
 ·unfold FD at a
  refine Ak<|x _ _ ?_
  refine aB a rfl (fun y a=> ?_) (fun y a=> ?_)
  ·refine AZ rfl ?_
   cases a
   exact aR eV1
  refine Ab<|v _ _ ?_
  refine AZ rfl ?_
  cases a
  exact aR eV1
 rcases i:(decide (x_1<1))with _|_
 ·replace a:=iF i a
  refine rn 1 rfl<|r_y rfl<|rm 3 [0] rfl ?_
  first|exact A _ _ a rfl rfl|exact lx_cn _ _ (A _ _ a rfl rfl)
 replace a:=iD i a
 refine rn 4 rfl ?_
 first|exact A _ _ a rfl rfl|exact lx_cn _ _ (A _ _ a rfl rfl)
def EY(b:Int)(a:Bool):Option (Int×Bool):=if a=true then some (b,true)else some (0,false)
def EZ(a:Int)(b:Bool):Option (Int×Bool):=if b=true then EY a (decide (a≤64))else EY a false
def Fa(a:Int)(b:Bool):Option (Int×Bool):=if b=true then EZ a (decide (a≥1))else EZ a false
def Fb(c:Int)(a:Int)(b:Bool):Option (Int×Bool):=if b=true then Fa a (decide (c≤1024))else Fa a false
def CY(N:Nat)(m:An)(c:Int)(a:Int)(b:Int):Option (Int×Bool):=if c=0 then(BY N m a b).bind fun e=>some (e.1,e.2)else if c=1 then(Ev N m a).bind fun d=>some (d.1,d.2)else if c=2 then Fb a b (decide (a≥0))else Fb a b false
theorem Jt(N m k_0 k_1 k_2 r)(a:CY N m k_0 k_1 k_2=some r)(ro)(mv:Ay)(hm:Aa2 ro mv m):Does prog 163 #[vA (Ac m mv),vA #[vI k_0,vI k_1,vI k_2]] ro [] (pV (vT #[vI r.1,vB r.2])):=by
 unfold CY at a
 refine Aj follows func163 rfl 51 rfl _ fz2 (fun n=> ?_)
 refine Ad<|rA rfl fun D=>rA rfl fun p=>rz rfl<|Aa fun E q=>AY [0] rfl<|aE a rfl (fun s a=> ?_) (fun s a=> ?_)
 ·refine Ad<|rm 5 [1,0,0] rfl<|kB a fun F t a=>gV _ (cF Zh) (fun o w z_=>Hv N m k_1 k_2 _ t z_.view mv (Aa2.mono z_.ro_cell hm))<|rz rfl ?_
  cases a
  exact aR eV2
 refine Ab<|q _ _ ?_
 refine Aa fun y g=>AY [0] rfl<|aE a rfl (fun h a=> ?_) (fun h a=> ?_)
 ·refine Ad<|rm 3 [1,0] rfl<|kB a fun z i a=>gV _ (cF bD) (fun o w z_=>Ju N m k_1 _ i z_.view mv (Aa2.mono z_.ro_cell hm))<|rz rfl ?_
  cases a
  exact aR eV2
 refine Ab<|g _ _ ?_
 refine Aa fun A j=>Aa fun B k=>Ag<|rm 4 [0] rfl<|AG 4 33 [(3,vP p 0)] vB (fun b_=>Fb k_1 k_2 b_=some r) (fun u a T=> ?_) (fun b=> ?_)
 ·unfold Fb at a
  refine rn 1 rfl<|AG 4 38 [(3,vP p 0)] vB (fun b_=>Fa k_2 b_=some r) (fun v a T=> ?_) (fun b=> ?_)
  ·unfold Fa at a
   refine rn 1 rfl<|AG 4 43 [(3,vP p 0)] vB (fun b_=>EZ k_2 b_=some r) (fun x a T=> ?_) (fun b=> ?_)
   ·unfold EZ at a
    refine rn 1 rfl<|AG 4 48 [(3,vP p 0)] vB (fun b_=>EY k_2 b_=some r) (fun C a T=> ?_) (fun b=> ?_)
    ·unfold EY at a
     refine Ak<|k _ _ ?_
     refine aB a rfl (fun l a=> ?_) (fun l a=> ?_)
     ·refine AY [0] rfl ?_
      cases a
      exact aR eV2
     refine Ab<|j _ _ ?_
     refine AZ rfl ?_
     cases a
     exact aR eV2
    rcases c:x with _|_
    ·replace a:=iB c a
     refine rn 4 rfl ?_
     first|exact b _ _ a rfl rfl|exact lx_cn _ _ (b _ _ a rfl rfl)
    replace a:=ifp c a
    refine rn 1 rfl<|r_y rfl<|rm 3 [0] rfl ?_
    first|exact b _ _ a rfl rfl|exact lx_cn _ _ (b _ _ a rfl rfl)
   rcases d:v with _|_
   ·replace a:=iB d a
    refine rn 4 rfl ?_
    first|exact b _ _ a rfl rfl|exact lx_cn _ _ (b _ _ a rfl rfl)
   replace a:=ifp d a
   refine rn 1 rfl<|r_y rfl<|rm 3 [0] rfl ?_
   first|exact b _ _ a rfl rfl|exact lx_cn _ _ (b _ _ a rfl rfl)
  rcases e:u with _|_
  ·replace a:=iB e a
   refine rn 4 rfl ?_
   first|exact b _ _ a rfl rfl|exact lx_cn _ _ (b _ _ a rfl rfl)
  replace a:=ifp e a
  refine rn 1 rfl<|r_y rfl<|rm 3 [0] rfl ?_
  first|exact b _ _ a rfl rfl|exact lx_cn _ _ (b _ _ a rfl rfl)
 rcases f:(k_0==2)with _|_
 ·replace a:=iG f a
  refine rn 4 rfl ?_
  first|exact b _ _ a rfl rfl|exact lx_cn _ _ (b _ _ a rfl rfl)
 replace a:=iE f a
 refine rn 1 rfl<|r_y rfl<|rm 3 [0] rfl ?_
 first|exact b _ _ a rfl rfl|exact lx_cn _ _ (b _ _ a rfl rfl)
def Ew(c:Int)(b:Int)(a:Int→Int→Option (Int×Bool))(d:Int×Bool)(e:Bool):Option (Int×Bool):=if e=true then some (0,false)else ck (R64 (c+d.1)) (ck (R64 (b+1)) (a (c+d.1) (b+1)))
def Ex(b:Int)(d:Int)(a:Int→Int→Option (Int×Bool))(c:Int×Bool)(e:Bool):Option (Int×Bool):=if e=true then Ew b d a c true else ck (R64 (128 - b)) (Ew b d a c (decide (c.1>(128 - b))))
def AR(N:Nat)(m:An)(b:List (Int×Int×Int)):Nat→Int→Int→Option (Int×Bool)
  |0,_,_=>none
  |e+1,d,a=>if a<(b.length:Int)then ck (0≤a∧a<(b.length:Int)) ((CY N m ((b[a.toNat]!).1) ((b[a.toNat]!).2.1) ((b[a.toNat]!).2.2)).bind fun c=>if c.2=true then Ex d a (AR N m b e) c (decide (c.1<1))else Ex d a (AR N m b e) c true)else some (d,true)
def FW(N:Nat)(m:An)(a:List (Int×Int×Int)):Option (Int×Bool):=AR N m a N 0 0
theorem Kg(N m l' r)(a:FW N m l'=some r)(ro)(mv:Ay)(hm:Aa2 ro mv m)(l'v)(hl':Rd Ad0 ro l'v l'):Does prog 112 #[vA (Ac m mv),l'v] ro [] (pV (vT #[vI r.1,vB r.2])):=by
 unfold FW at a
 refine Aj follows func112 rfl 41 rfl _ fz2 (fun z=> ?_)
 refine Ad<|rA rfl fun A=>rz rfl<|AZ rfl<|Aa fun K B=>AZ rfl<|Ah<|AC (fun tt ll nn=> ∃(e:Nat) (c:Int) (b:Int),(AR N m l' e c b=some r)∧Is [(1,l'v),(2,vP A 0),(6,vI c),(7,vI b)] [(A,35,(Ac m mv))] tt ll∧nn=e+1) (N+1) ?_ ?_
 ·exact⟨N,0,0,a,Af rfl rfl,rfl⟩
 clear a;rintro t l _ ⟨e,c,b,a,⟨⟨T,rfl⟩,rfl⟩,rfl⟩
 rcases e with _|e
 ·exact absurd a (by simp [AR])
 rw [AR] at a
 refine Aa fun L C=>Ad<|rn 2 rfl<|rL (Rd.shp hl') rfl<|rz rfl<|aD a rfl (fun D a=> ?_) (fun D a=> ?_)
 ·refine Ab<|C _ _ ?_
  refine Aa fun F k=>Ah<|Aa fun G n=>Bw [(some 22,false)] (conG prog [(22,cV (CY N m ((l'[b.toNat]!).1) ((l'[b.toNat]!).2.1) ((l'[b.toNat]!).2.2)) fun p=>vT #[vI p.1,vB p.2])]) [] (by decide+kernel) (fun M=>AH)<|rm 3 [0] rfl<|kC a fun g a=>rI (Rd.shp hl') g rfl<|rE (Au hl') g 0 rfl<|kB a fun d h a=>rg _ (cF bF) (fun o w z_=>Jt N m ((l'[b.toNat]!).1) ((l'[b.toNat]!).2.1) ((l'[b.toNat]!).2.2) _ h z_.view mv (Aa2.mono z_.ro_cell hm)) (GB h)<|rz rfl<|n _ _ ?_
  refine Aa fun H q=>Aa fun I s=>Ag<|rn 3 rfl<|AG 3 30 [(1,l'v),(2,vP A 0),(6,vI c),(7,vI b),(8,vI d.1)] vB (fun b_=>Ex c b (AR N m l' e) d b_=some r) (fun E a T=> ?_) (fun f=> ?_)
  ·unfold Ex at a
   refine rn 1 rfl<|AG 5 36 [(1,l'v),(2,vP A 0),(6,vI c),(7,vI b),(8,vI d.1)] vB (fun b_=>Ew c b (AR N m l' e) d b_=some r) (fun J a T=> ?_) (fun f=> ?_)
   ·unfold Ew at a
    refine Ak<|s _ _ ?_
    refine aB a rfl (fun u a=> ?_) (fun u a=> ?_)
    ·refine AZ rfl ?_
     cases a
     exact aR eV2
    refine Ab<|q _ _ ?_
    refine Ag<|rn 2 rfl<|kC a fun v a=>rX v rfl<|rz rfl<|k _ _ ?_
    refine Ag<|rn 1 rfl<|kC a fun x a=>rX x rfl<|rz rfl<|fg _ (Sub.of (suK _ suN)) ?_
    exact⟨e+1,by omega,e,(c+d.1),(b+1),a,Af rfl rfl,rfl⟩
   rcases i:E with _|_
   ·replace a:=iB i a
    refine rn 2 rfl<|r_y rfl<|kC a fun y a=>rX y rfl<|rn 2 rfl ?_
    first|exact f _ _ a rfl rfl|exact lx_cn _ _ (f _ _ a rfl rfl)
   replace a:=ifp i a
   refine rn 5 rfl ?_
   first|exact f _ _ a rfl rfl|exact lx_cn _ _ (f _ _ a rfl rfl)
  rcases j:(!(d.2))with _|_
  ·replace a:=ifp (CN j) a
   refine rn 3 rfl ?_
   first|exact f _ _ a rfl rfl|exact lx_cn _ _ (f _ _ a rfl rfl)
  replace a:=ifn (Bool.eq_false_iff.1 (CM j)) a
  refine rn 3 rfl ?_
  first|exact f _ _ a rfl rfl|exact lx_cn _ _ (f _ _ a rfl rfl)
 refine AD<|B _ _ ?_
 refine AZ rfl ?_
 cases a
 exact aR eV2
def Er(b:Int)(a:Int→Option Int)(c:Bool):Option Int:=if c=true then some 7 else ck (R64 (b+1)) (a (b+1))
def Es(e:List (Int×Int×Int))(b:Int)(a:Int→Option Int)(c:Int×Bool)(d:Bool):Option Int:=if d=true then some 7 else if c.2=true then if((e[b.toNat]!).1:Int)=1 then Er b a ((((e[b.toNat]!).2.2:Int) !=0))else Er b a false else some 5
def CW(N:Nat)(m:An)(c:List (Int×Int×Int))(b:Int)(a:Int→Option Int)(e:Bool):Option Int:=if e=true then some 10 else(CY N m ((c[b.toNat]!).1) ((c[b.toNat]!).2.1) ((c[b.toNat]!).2.2)).bind fun d=>if d.2=true then Es c b a d false else Es c b a d ((((c[b.toNat]!).1:Int)==2))
def Et(N:Nat)(m:An)(d:List (Int×Int×Int))(c:Bool)(b:Int)(a:Int→Option Int)(e:Bool):Option Int:=if e=true then if((d[b.toNat]!).1:Int)=2 then CW N m d b a (!(c))else CW N m d b a true else CW N m d b a false
def AI(N:Nat)(m:An)(c:List (Int×Int×Int))(a:Bool):Nat→Int→Option Int
  |0,_=>none
  |e+1,b=>if b<(c.length:Int)then ck (0≤b∧b<(c.length:Int)) (if((c[b.toNat]!).1:Int)≠0 then Et N m c a b (AI N m c a e) ((((c[b.toNat]!).1:Int) !=1))else Et N m c a b (AI N m c a e) false)else(FW N m c).bind fun d=>if d.2=true then some 0 else some 9
def EL(N:Nat)(m:An)(b:List (Int×Int×Int))(a:Bool):Option Int:=if(b.length:Int)>4 then some 2 else AI N m b a N 0
theorem Kf(N m l' looks r)(a:EL N m l' looks=some r)(ro)(mv:Ay)(hm:Aa2 ro mv m)(l'v)(hl':Rd Ad0 ro l'v l'):Does prog 111 #[vA (Ac m mv),l'v,vB looks] ro [] (pV (vI r)):=by
 unfold EL at a
 refine Aj follows func111 rfl 74 rfl _ fz3 (fun L=> ?_)
 refine Ad<|rA rfl fun s=>rz rfl<|Aa fun K3 M=>Ad<|rn 1 rfl<|rL (Rd.shp hl') rfl<|rz rfl<|aD a rfl (fun O a=> ?_) (fun O a=> ?_)
 ·refine AZ rfl ?_
  cases a
  exact aR eV1
 refine Ab<|M _ _ ?_
 refine Aa fun K7 P=>AZ rfl<|Ah<|AC (fun tt ll nn=> ∃(d:Nat) (b:Int),(AI N m l' looks d b=some r)∧Is [(1,l'v),(2,vB looks),(3,vP s 0),(7,vI b)] [(s,35,(Ac m mv))] tt ll∧nn=d+1) (N+1) ?_ ?_
 ·exact⟨N,0,a,Af rfl rfl,rfl⟩
 clear a;rintro t l _ ⟨d,b,a,⟨⟨T,rfl⟩,rfl⟩,rfl⟩
 rcases d with _|d
 ·exact absurd a (by simp [AI])
 rw [AI] at a
 refine Aa fun R u=>Ad<|rn 2 rfl<|rL (Rd.shp hl') rfl<|rz rfl<|aD a rfl (fun v a=> ?_) (fun v a=> ?_)
 ·refine Ab<|u _ _ ?_
  refine Aa fun S x=>Ah<|Ad<|rn 2 rfl<|kC a fun g a=>rI (Rd.shp hl') g rfl<|rE (Au hl') g 0 rfl<|rA rfl fun p=>ry [0] rfl<|Aa fun U y=>Aa fun V z=>Ag<|rm 4 [0] rfl ?_
  refine AG 4 33 [(1,l'v),(2,vB looks),(3,vP s 0),(7,vI b),(8,vP p 0)] vB (fun b_=>Et N m l' looks b (AI N m l' looks d) b_=some r) (fun Q a T=> ?_) (fun c=> ?_)
  ·unfold Et at a
   refine rn 1 rfl<|AG 8 42 [(1,l'v),(2,vB looks),(3,vP s 0),(7,vI b),(8,vP p 0)] vB (fun b_=>CW N m l' b (AI N m l' looks d) b_=some r) (fun W a T=> ?_) (fun c=> ?_)
   ·unfold CW at a
    refine Ak<|z _ _ ?_
    refine aB a rfl (fun A a=> ?_) (fun A a=> ?_)
    ·refine AZ rfl ?_
     cases a
     exact aR eV1
    refine Ab<|y _ _ ?_
    refine Ad<|rm 2 [1,0] rfl<|kB a fun q B a=>gV _ (cF bF) (fun o w z_=>Jt N m ((l'[b.toNat]!).1) ((l'[b.toNat]!).2.1) ((l'[b.toNat]!).2.2) _ B z_.view mv (Aa2.mono z_.ro_cell hm))<|rz rfl<|Aa fun X C=>Aa fun Y D=>Ag<|rn 3 rfl ?_
    refine AG 4 55 [(1,l'v),(2,vB looks),(3,vP s 0),(7,vI b),(8,vP p 0),(10,vB q.2)] vB (fun b_=>Es l' b (AI N m l' looks d) q b_=some r) (fun Z a T=> ?_) (fun c=> ?_)
    ·unfold Es at a
     refine Ak<|D _ _ ?_
     refine aB a rfl (fun E a=> ?_) (fun E a=> ?_)
     ·refine AZ rfl ?_
      cases a
      exact aR eV1
     refine Ab<|C _ _ ?_
     refine Aa fun aa F=>AZ rfl<|Bv _ rfl (fun e=> ?_) (fun e=> ?_)
     ·replace a:=ifn (Bool.eq_false_iff.1 (CM e)) a
      refine AZ rfl ?_
      cases a
      exact aR eV1
     replace a:=ifp (CN e) a
     refine Ab<|F _ _ ?_
     refine Aa fun ab G=>Ag<|rm 4 [0] rfl<|AG 4 65 [(1,l'v),(2,vB looks),(3,vP s 0),(7,vI b)] vB (fun b_=>Er b (AI N m l' looks d) b_=some r) (fun ac a T=> ?_) (fun c=> ?_)
     ·unfold Er at a
      refine Ak<|G _ _ ?_
      refine aB a rfl (fun H a=> ?_) (fun H a=> ?_)
      ·refine AZ rfl ?_
       cases a
       exact aR eV1
      refine Ab<|x _ _ ?_
      refine Ag<|rn 1 rfl<|kC a fun I a=>rX I rfl<|rz rfl<|fg _ (Sub.of (suC _ (suK _ suN))) ?_
      exact⟨d+1,by omega,d,(b+1),a,Af rfl rfl,rfl⟩
     rcases h:((((l'[b.toNat]!).1:Int)==1))with _|_
     ·replace a:=iG h a
      refine rn 4 rfl ?_
      first|exact c _ _ a rfl rfl|exact lx_cn _ _ (c _ _ a rfl rfl)
     replace a:=iE h a
     refine rn 1 rfl<|r_y rfl<|rm 3 [0] rfl ?_
     first|exact c _ _ a rfl rfl|exact lx_cn _ _ (c _ _ a rfl rfl)
    rcases i:(!(q.2))with _|_
    ·replace a:=ifp (CN i) a
     refine rn 4 rfl ?_
     first|exact c _ _ a rfl rfl|exact lx_cn _ _ (c _ _ a rfl rfl)
    replace a:=ifn (Bool.eq_false_iff.1 (CM i)) a
    refine rn 1 rfl<|r_y rfl<|rm 3 [0] rfl ?_
    first|exact c _ _ a rfl rfl|exact lx_cn _ _ (c _ _ a rfl rfl)
   rcases j:Q with _|_
   ·replace a:=iB j a
    refine rn 4 rfl<|BT rfl rfl<|rn 3 rfl ?_
    first|exact c _ _ a rfl rfl|exact lx_cn _ _ (c _ _ a rfl rfl)
   replace a:=ifp j a
   refine rn 1 rfl<|r_y rfl<|rm 3 [0] rfl ?_
   rcases k:((((l'[b.toNat]!).1:Int)==2))with _|_
   ·replace a:=iG k a
    refine rn 4 rfl ?_
    first|exact c _ _ a rfl rfl|exact lx_cn _ _ (c _ _ a rfl rfl)
   replace a:=iE k a
   refine rn 4 rfl ?_
   first|exact c _ _ a rfl rfl|exact lx_cn _ _ (c _ _ a rfl rfl)
  rcases n:((((l'[b.toNat]!).1:Int) !=0))with _|_
  ·replace a:=iM n a
   refine rn 4 rfl ?_
   first|exact c _ _ a rfl rfl|exact lx_cn _ _ (c _ _ a rfl rfl)
  replace a:=iN n a
  refine rn 1 rfl<|r_y rfl<|rm 3 [0] rfl ?_
  first|exact c _ _ a rfl rfl|exact lx_cn _ _ (c _ _ a rfl rfl)
 refine AD<|P _ _ ?_
 refine Ad<|rm 2 [0] rfl<|kB a fun ad J a=>gV _ (cF bK) (fun o w z_=>Kg N m l' _ J z_.view mv (Aa2.mono z_.ro_cell hm) l'v ((Au hl') o w z_))<|rz rfl<|Aa fun ae K=>AZ rfl<|Bv _ rfl (fun f=> ?_) (fun f=> ?_)
 ·replace a:=ifn (Bool.eq_false_iff.1 (CM f)) a
  refine AZ rfl ?_
  cases a
  exact aR eV1
 replace a:=ifp (CN f) a
 refine Ab<|K _ _ ?_
 refine AZ rfl ?_
 cases a
 exact aR eV1
def Gv(c:BitVec 128)(d:List Bool)(b:Int)(a:List Bool→Int→Option (List Bool))(e:Bool):Option (List Bool):=if e=true then ck (0≤b∧b<128) (ck ((d).length+([((hi c)++(lo c)).getLsbD (b.toNat)]).length≤140737488355328) (ck (R64 (b+1)) (a ((d++([((hi c)++(lo c)).getLsbD (b.toNat)]))) (b+1))))else some d
def BQ(c:Int)(b:BitVec 128):Nat→List Bool→Int→Option (List Bool)
  |0,_,_=>none
  |e+1,d,a=>if a<c then Gv b d a (BQ c b e) (decide (a<128))else Gv b d a (BQ c b e) false
def EJ(N:Nat)(a:Int)(b:BitVec 128):Option (List Bool):=BQ a b N ([]) 0
theorem Lu(N v_0 v_1 r)(a:EJ N v_0 v_1=some r)(ro:Ro):Does prog 164 #[vA #[vI v_0,U (hi v_1),U (lo v_1)]] ro [] (p1 (fun s_=>s_) 4 Pa r):=by
 unfold EJ at a
 refine Aj follows func164 rfl 28 rfl _ fz1 (fun B=> ?_)
 refine Ad<|rA rfl fun h=>rz rfl<|Ad<|rm 4 [0,0] rfl<|rc _ (cF eI) (sa (hi v_1) (lo v_1))<|r_a (125,CL (BitVec.getLsbD (0#128))) rfl rfl ((mJ dq).trans (congrArg (fun x=>some (125,x)) ZM)) (fun g=> ?_) (.inr rfl)
 refine r_s [(g,125,CL (BitVec.getLsbD ((hi v_1)++(lo v_1)))),(h,39, #[vI v_0,U (hi v_1),U (lo v_1)])] 0 _ _ _ _ _ (CL (BitVec.getLsbD ((hi v_1)++(lo v_1)))) rfl rfl rfl rfl (Xh rfl rfl _ _) (SR _ _) rfl<|Ak<|AZ rfl<|Aa fun M D=>AZ rfl<|Ah<|Bo _ (Sub.pickE (Ls:=[[(g,125,CL (BitVec.getLsbD ((hi v_1)++(lo v_1))))],(ML h v_0 (hi v_1) (lo v_1)),[]]) (Ls0:=[[(g,125,CL (BitVec.getLsbD ((hi v_1)++(lo v_1))))],(ML h v_0 (hi v_1) (lo v_1))]) rfl [0,1,2] rfl) ?_
 refine AC (fun tt ll nn=> ∃(j:Nat) (i:List Bool) (d:Int),(BQ v_0 v_1 j i d=some r)∧ ∃(f:Value) (e:List Bl),Sl 4 Pa f i e∧Is [(1,vP h 0),(3,vP g 0),(4,f),(5,vI d)] (List.flatten [[(g,125,CL (BitVec.getLsbD ((hi v_1)++(lo v_1))))],(ML h v_0 (hi v_1) (lo v_1)),e]) tt ll∧nn=j+1) (N+1) ?_ ?_
 ·exact⟨N,[],0,a,nS,[],Sl.nil,Af rfl rfl,rfl⟩
 clear a;rintro t l _ ⟨j,i,d,a,f,e,m,⟨⟨T,rfl⟩,rfl⟩,rfl⟩
 rcases j with _|j
 ·exact absurd a (by simp [BQ])
 rw [BQ] at a
 refine Aa fun O E=>Aa fun I u=>Ag<|rm 5 [1] rfl<|AG 3 18 [(1,vP h 0),(3,vP g 0),(4,f),(5,vI d)] vB (fun b_=>Gv v_1 i d (BQ v_0 v_1 j) b_=some r) (fun J a T=> ?_) (fun C=> ?_)
 ·unfold Gv at a
  refine Ak<|u _ _ ?_
  refine aB a rfl (fun v a=> ?_) (fun v a=> ?_)
  ·refine Ab<|E _ _ ?_
   refine Aa fun K w=>Ah<|Ag<|rn 2 rfl<|kC a fun y a=> ?_
   have n:=fun c=>ET (IS (P:=prog) (c:=c) (t:=125) (b:=g) (off:=0) (k:= .i64) rfl rfl rfl y)
   simp only [q6] at n
   have q:d.toNat<128:=by omega
   refine r_W (Value.pointer (some ⟨g,d.toNat,none⟩)) rfl (n _)<|r_l (vB (((hi v_1)++(lo v_1)).getLsbD (d.toNat))) 0 _ _ _ _ rfl rfl rfl rfl (TG rfl _ q)<|gB (Ls:=[[(g,125,CL (BitVec.getLsbD ((hi v_1)++(lo v_1))))],(ML h v_0 (hi v_1) (lo v_1)),e]) 4 Pa [((hi v_1)++(lo v_1)).getLsbD (d.toNat)] (fun L s F=> ?_)
   refine kC a fun o a=>cC 26<|JB (cs0:=[]) (Ls:=[[(g,125,CL (BitVec.getLsbD ((hi v_1)++(lo v_1))))],(ML h v_0 (hi v_1) (lo v_1)),e,s]) 2 (En:=Pa) rfl rfl rfl rfl rfl m rfl (Av F (Ai (Ls:=[[(g,125,CL (BitVec.getLsbD ((hi v_1)++(lo v_1))))],(ML h v_0 (hi v_1) (lo v_1)),e,s]) (k:=3) rfl rfl)) rfl rfl rfl rfl rfl (Ke o rfl) (Kc o rfl) rfl (fun G z H=> ?_)
   refine rz rfl<|w _ _ ?_
   refine Ag<|rn 1 rfl<|kC a fun A a=>rX A rfl<|rz rfl<|fg _ (Sub.pick [[(g,125,CL (BitVec.getLsbD ((hi v_1)++(lo v_1))))],(ML h v_0 (hi v_1) (lo v_1)),z,s] [0,1,2] rfl) ?_
   exact⟨j+1,by omega,j,(i++([((hi v_1)++(lo v_1)).getLsbD (d.toNat)])),(d+1),a,G,z,H,Af rfl rfl,rfl⟩
  refine AD<|D _ _ ?_
  refine AZ rfl ?_
  cases a
  refine Bi (fun Q=>Ha (v0:=f) m (EK (Sub.pick [[(g,125,CL (BitVec.getLsbD ((hi v_1)++(lo v_1))))],(ML h v_0 (hi v_1) (lo v_1)),e] [2] rfl)) rfl (Gj rfl))
 rcases p:(decide (d<v_0))with _|_
 ·replace a:=iF p a
  refine rn 3 rfl ?_
  first|exact C _ _ a rfl rfl|exact lx_cn _ _ (C _ _ a rfl rfl)
 replace a:=iD p a
 refine rn 3 rfl ?_
 first|exact C _ _ a rfl rfl|exact lx_cn _ _ (C _ _ a rfl rfl)
def GV(d:List Bool)(b:Int)(c:BitVec 128)(a:Int→BitVec 128→Option (Int×(BitVec 128)))(e:Bool):Option (Int×(BitVec 128)):=if e=true then ck (0≤b∧b<(d.length:Int)) (ck (0≤b∧b<128) (ck (R64 (b+1)) (a (b+1) (ZF c (b.toNat) (d[b.toNat]!)))))else some ((d.length:Int),c)
def Cn(b:List Bool):Nat→Int→BitVec 128→Option (Int×(BitVec 128))
  |0,_,_=>none
  |d+1,a,c=>if a<(b.length:Int)then GV b a c (Cn b d) (decide (a<128))else GV b a c (Cn b d) false
def GF(N:Nat)(a:List Bool):Option (Int×(BitVec 128)):=Cn a N 0 (0#128)
theorem Jw(N l' r)(e:GF N l'=some r)(ro l'v)(hl':Rd Pa ro l'v l'):Does prog 165 #[l'v] ro [] (pV (vA #[vI r.1,U (hi r.2),U (lo r.2)])):=by
 unfold GF at e
 refine Aj follows func165 rfl 33 rfl _ fz1 (fun s=> ?_)
 refine Ad<|rA rfl fun u=>Ak<|Ad<|r_a (125,CL (BitVec.getLsbD (0#128))) rfl rfl ((mJ dq).trans (congrArg (fun x=>some (125,x)) ZM)) (fun m=> ?_) (.inr rfl)
 refine Ak<|Aa fun D w=>AZ rfl<|Ah<|AC (fun tt ll nn=> ∃(g:Nat) (a:Int) (d:BitVec 128),(Cn l' g a d=some r)∧Is [(0,l'v),(2,vP u 0),(3,vP m 0),(4,vI a)] [(m,125,CL (BitVec.getLsbD d)),(u,39, #[vI 0,U (0#64),U (0#64)])] tt ll∧nn=g+1) (N+1) ?_ ?_
 ·exact⟨N,0,0#128,e,Af rfl (by first|rfl|simp only [Bn]),rfl⟩
 clear e;rintro t l _ ⟨g,a,d,e,⟨⟨T,rfl⟩,rfl⟩,rfl⟩
 rcases g with _|g
 ·exact absurd e (by simp [Cn])
 rw [Cn] at e
 refine Aa fun E y=>Aa fun F z=>Ag<|rn 2 rfl<|rL (Rd.shp hl') rfl<|rn 2 rfl<|AG 3 14 [(0,l'v),(2,vP u 0),(3,vP m 0),(4,vI a)] vB (fun b_=>GV l' a d (Cn l' g) b_=some r) (fun A e T=> ?_) (fun v=> ?_)
 ·unfold GV at e
  refine Ak<|z _ _ ?_
  refine aB e rfl (fun n e=> ?_) (fun n e=> ?_)
  ·refine Ab<|y _ _ ?_
   refine Aa fun B o=>Ah<|Ag<|rn 3 rfl<|kC e fun h e=>rI (Rd.shp hl') h rfl<|rE (Au hl') h 0 rfl<|kC e fun p e=> ?_
   have i:=fun c=>ET (IS (P:=prog) (c:=c) (t:=125) (b:=m) (off:=0) (k:= .i64) rfl rfl rfl p)
   simp only [q6] at i
   have f:a.toNat<128:=by omega
   refine r_W (Value.pointer (some ⟨m,a.toNat,none⟩)) rfl (i _)<|r_s [(m,125,CL (BitVec.getLsbD (ZF d (a.toNat) (l'[a.toNat]!)))),(u,39, #[vI 0,U (0#64),U (0#64)])] 0 _ _ _ _ _ (CL (BitVec.getLsbD (ZF d (a.toNat) (l'[a.toNat]!)))) rfl rfl rfl rfl (Sa rfl rfl _ _ f) ((Pc _ _ _).trans (fd _ _ _ f)) rfl<|Ak<|o _ _ ?_
   refine Ag<|rn 1 rfl<|kC e fun q e=>rX q rfl<|rz rfl<|fg _ (Sub.of (suK _ (suK _ suN))) ?_
   exact⟨g+1,by omega,g,(a+1),ZF d (a.toNat) (l'[a.toNat]!),e,Af rfl (by first|rfl|simp only [Bn]),rfl⟩
  refine AD<|w _ _ ?_
  refine Ad<|r_l (vA (CL (BitVec.getLsbD d))) 0 _ _ _ _ rfl rfl rfl rfl (Yv rfl rfl rfl _)<|rc _ (cF kr) (iU d)<|rz rfl<|Ad<|rn 1 rfl<|rL (Rd.shp hl') rfl<|r_R [U (hi d),U (lo d)] rfl<|r_W (vA #[vI (l'.length:Int),U (hi d),U (lo d)]) rfl (Ap rfl rfl rfl rfl) ?_
  refine ry [1] rfl ?_
  cases e
  refine Bi (fun C=>Tg (v0:=vA #[vI (l'.length:Int),U (hi d),U (lo d)]) rfl (Gj (AT C 1 rfl rfl rfl)))
 rcases j:(decide (a<(l'.length:Int)))with _|_
 ·replace e:=iF j e
  refine rn 3 rfl ?_
  first|exact v _ _ e rfl rfl|exact lx_cn _ _ (v _ _ e rfl rfl)
 replace e:=iD j e
 refine rn 3 rfl ?_
 first|exact v _ _ e rfl rfl|exact lx_cn _ _ (v _ _ e rfl rfl)
end Go.Proofs.YthmpbldidnmenaaGreatDoor
