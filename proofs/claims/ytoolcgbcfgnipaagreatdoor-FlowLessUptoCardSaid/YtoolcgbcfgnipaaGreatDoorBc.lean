import Derived.Test.YtoolcgbcfgnipaaGreatDoorBb
namespace Go.Proofs.YtoolcgbcfgnipaaGreatDoor
open Go Go.RowKit Go.Eng _root_.Go.Proofs.Tryz
set_option linter.unusedSimpArgs false
set_option linter.unusedVariables false
set_option maxRecDepth 100000
set_option maxHeartbeats 80000000
abbrev pE(b:Nat)(x0:List UInt8)(x1:Value)(x2:Int)(x3:Int)(x4:Int)(x5:Int):List Bl:=[(b,79, #[vS x0,x1,vI x2,vI x3,vI x4,vI x5])]
abbrev aA(b:Nat)(x0:Int)(x1:Int):List Bl:=[(b,242, #[vI x0,vI x1])]
abbrev AN(b:Nat)(x0:Int)(x1:BitVec 64)(x2:BitVec 64):List Bl:=[(b,51, #[vI x0,U x1,U x2])]
def Ur(m:Ao)(c:List (List UInt8))(a:Int)(b:List (List UInt8)→Int→Option (List (List UInt8)))(d:Bool):Option (List (List UInt8)):=if d=true then ck (0≤a∧a<(m.2.2.2.2.2.2.2.2.2.2.2.2.2.2.1.length:Int)) (ck ((c).length+([((m.2.2.2.2.2.2.2.2.2.2.2.2.2.2.1)[a.toNat]!).1]).length≤8796093022208) (ck (R64 (a+1)) (b ((c++([((m.2.2.2.2.2.2.2.2.2.2.2.2.2.2.1)[a.toNat]!).1]))) (a+1))))else some c
def MD(m:Ao)(b:Int):Nat→List (List UInt8)→Int→Option (List (List UInt8))
  |0,_,_=>none
  |c+1,d,a=>if a<(m.2.2.2.2.2.2.2.2.2.2.2.2.2.2.1.length:Int)then Ur m d a (MD m b c) (b==14)else Ur m d a (MD m b c) false
def Us(N:Nat)(m:Ao)(d:Int)(c:List (List UInt8))(a:Int)(b:List (List UInt8)→Int→Option (List (List UInt8)))(e:Bool):Option (List (List UInt8)):=if e=true then ck (0≤a∧a<(m.2.2.2.2.2.2.2.2.2.2.2.2.2.1.length:Int)) (ck ((c).length+([((m.2.2.2.2.2.2.2.2.2.2.2.2.2.1)[a.toNat]!).1]).length≤8796093022208) (ck (R64 (a+1)) (b ((c++([((m.2.2.2.2.2.2.2.2.2.2.2.2.2.1)[a.toNat]!).1]))) (a+1))))else MD m d N c 0
def ME(N:Nat)(m:Ao)(a:Int):Nat→List (List UInt8)→Int→Option (List (List UInt8))
  |0,_,_=>none
  |c+1,d,b=>if b<(m.2.2.2.2.2.2.2.2.2.2.2.2.2.1.length:Int)then Us N m a d b (ME N m a c) (a==13)else Us N m a d b (ME N m a c) false
def Ut(N:Nat)(m:Ao)(d:Int)(c:List (List UInt8))(a:Int)(b:List (List UInt8)→Int→Option (List (List UInt8)))(e:Bool):Option (List (List UInt8)):=if e=true then ck (0≤a∧a<(m.2.2.2.2.2.2.2.2.2.2.2.2.1.length:Int)) (ck ((c).length+([((m.2.2.2.2.2.2.2.2.2.2.2.2.1)[a.toNat]!).1]).length≤8796093022208) (ck (R64 (a+1)) (b ((c++([((m.2.2.2.2.2.2.2.2.2.2.2.2.1)[a.toNat]!).1]))) (a+1))))else ME N m d N c 0
def MF(N:Nat)(m:Ao)(a:Int):Nat→List (List UInt8)→Int→Option (List (List UInt8))
  |0,_,_=>none
  |d+1,c,b=>if b<(m.2.2.2.2.2.2.2.2.2.2.2.2.1.length:Int)then Ut N m a c b (MF N m a d) (a==12)else Ut N m a c b (MF N m a d) false
def Uu(N:Nat)(m:Ao)(d:Int)(c:List (List UInt8))(a:Int)(b:List (List UInt8)→Int→Option (List (List UInt8)))(e:Bool):Option (List (List UInt8)):=if e=true then ck (0≤a∧a<(m.2.2.2.2.2.2.1.length:Int)) (ck ((c).length+([(m.2.2.2.2.2.2.1)[a.toNat]!.1]).length≤8796093022208) (ck (R64 (a+1)) (b (c++([(m.2.2.2.2.2.2.1)[a.toNat]!.1])) (a+1))))else MF N m d N c 0
def MG(N:Nat)(m:Ao)(a:Int):Nat→List (List UInt8)→Int→Option (List (List UInt8))
  |0,_,_=>none
  |d+1,c,b=>if b<(m.2.2.2.2.2.2.1.length:Int)then Uu N m a c b (MG N m a d) (a==6)else Uu N m a c b (MG N m a d) false
def Uv(N:Nat)(m:Ao)(d:Int)(c:List (List UInt8))(a:Int)(b:List (List UInt8)→Int→Option (List (List UInt8)))(e:Bool):Option (List (List UInt8)):=if e=true then ck (0≤a∧a<(m.2.2.2.2.2.1.length:Int)) (ck ((c).length+([(m.2.2.2.2.2.1)[a.toNat]!.1]).length≤8796093022208) (ck (R64 (a+1)) (b (c++([(m.2.2.2.2.2.1)[a.toNat]!.1])) (a+1))))else MG N m d N c 0
def MH(N:Nat)(m:Ao)(a:Int):Nat→List (List UInt8)→Int→Option (List (List UInt8))
  |0,_,_=>none
  |d+1,c,b=>if b<(m.2.2.2.2.2.1.length:Int)then Uv N m a c b (MH N m a d) (a==5)else Uv N m a c b (MH N m a d) false
def Uw(N:Nat)(m:Ao)(d:Int)(c:List (List UInt8))(a:Int)(b:List (List UInt8)→Int→Option (List (List UInt8)))(e:Bool):Option (List (List UInt8)):=if e=true then ck (0≤a∧a<(m.2.2.2.2.1.length:Int)) (ck ((c).length+([(m.2.2.2.2.1)[a.toNat]!.1]).length≤8796093022208) (ck (R64 (a+1)) (b (c++([(m.2.2.2.2.1)[a.toNat]!.1])) (a+1))))else MH N m d N c 0
def MI(N:Nat)(m:Ao)(a:Int):Nat→List (List UInt8)→Int→Option (List (List UInt8))
  |0,_,_=>none
  |d+1,c,b=>if b<(m.2.2.2.2.1.length:Int)then Uw N m a c b (MI N m a d) (a==4)else Uw N m a c b (MI N m a d) false
def dn(N:Nat)(m:Ao)(d:Int)(c:List (List UInt8))(a:Int)(b:List (List UInt8)→Int→Option (List (List UInt8)))(e:Bool):Option (List (List UInt8)):=if e=true then ck (0≤a∧a<(m.2.2.2.1.length:Int)) (ck ((c).length+([((m.2.2.2.1)[a.toNat]!).1]).length≤8796093022208) (ck (R64 (a+1)) (b ((c++([((m.2.2.2.1)[a.toNat]!).1]))) (a+1))))else MI N m d N c 0
def QH(N:Nat)(m:Ao)(a:Int):Nat→List (List UInt8)→Int→Option (List (List UInt8))
  |0,_,_=>none
  |d+1,c,b=>if b<(m.2.2.2.1.length:Int)then dn N m a c b (QH N m a d) (a==3)else dn N m a c b (QH N m a d) false
def dq(N:Nat)(m:Ao)(d:Int)(c:List (List UInt8))(a:Int)(b:List (List UInt8)→Int→Option (List (List UInt8)))(e:Bool):Option (List (List UInt8)):=if e=true then ck (0≤a∧a<(m.2.1.length:Int)) (ck ((c).length+([(m.2.1)[a.toNat]!.1]).length≤8796093022208) (ck (R64 (a+1)) (b (c++([(m.2.1)[a.toNat]!.1])) (a+1))))else QH N m d N c 0
def SD(N:Nat)(m:Ao)(a:Int):Nat→List (List UInt8)→Int→Option (List (List UInt8))
  |0,_,_=>none
  |d+1,c,b=>if b<(m.2.1.length:Int)then dq N m a c b (SD N m a d) (a==1)else dq N m a c b (SD N m a d) false
def rTm(N:Nat)(m:Ao)(a:Int):Option (List (List UInt8)):=SD N m a N ([]) 0
theorem rTg(N m part r)(a:rTm N m part=some r)(ro)(mv:AD)(hm:Aa1 ro mv m):Does prog 36 #[vA (Ac m mv),vI part] ro [] (p1 (fun s_=>s_) 9 Aa3 r):=by
 unfold rTm at a
 refine Al follows func36 rfl 175 rfl _ fz2 (fun ei=> ?_)
 refine Ad<|rA rfl fun b=>rz rfl<|AZ rfl<|Aa fun K4 ej=>AZ rfl<|Ai<|Bw _ (Sub.pickE (Ls:=[[(b,35,(Ac m mv))],[]]) (Ls0:=[[(b,35,(Ac m mv))]]) rfl [0,1] rfl)<|AH (fun tt ll nn=> ∃(n6:Nat) (aa:List (List UInt8)) (f:Int),(SD N m part n6 aa f=some r)∧ ∃(O:Value) (u:List Bl),Sl 9 Aa3 O aa u∧Is [(1,vI part),(2,vP b 0),(5,O),(6,vI f)] (List.flatten [[(b,35,(Ac m mv))],u]) tt ll∧nn=n6+1) (N+1) ?_ ?_
 ·exact⟨N,[],0,a,nS,[],Sl.nil,Ah rfl rfl,rfl⟩
 clear a;rintro t l _ ⟨n6,aa,f,a,O,u,bg,⟨⟨T,rfl⟩,rfl⟩,rfl⟩
 rcases n6 with _|n6
 ·exact absurd a (by simp [SD])
 rw [SD] at a
 refine Aa fun K7 ek=>Aa fun K8 el=>Ag<|rm 3 [0] rfl<|rL (RdN.shp hm.1) rfl<|rn 2 rfl<|AG 3 22 [(1,vI part),(2,vP b 0),(5,O),(6,vI f)] vB (fun b_=>dq N m part aa f (SD N m part n6) b_=some r) (fun b9 a T=> ?_) (fun B=> ?_)
 ·unfold dq at a
  refine Af<|el _ _ ?_
  refine aB a rfl (fun cp a=> ?_) (fun cp a=> ?_)
  ·refine Ab<|ek _ _ ?_
   refine Aa fun gm cq=>Ai<|Ag<|rm 4 [0] rfl<|kC a fun ad a=> ?_
   obtain⟨_,⟨em,fl,rfl⟩,hat15⟩:=RdN.at (E:=Ad4) hm.1 (Dc ad)
   refine rI (RdN.shp hm.1) ad rfl<|rF (RdN.shp hm.1) (Be ad) rfl<|NB (vS ((m.2.1)[f.toNat]!.1)) (vs:=[vS ((m.2.1)[f.toNat]!.1),em,vI ((m.2.1)[f.toNat]!.2.2.1),vI ((m.2.1)[f.toNat]!.2.2.2.1),vI ((m.2.1)[f.toNat]!.2.2.2.2.1),vI ((m.2.1)[f.toNat]!.2.2.2.2.2)]) (f.toNat*6) 0 rfl rfl (fun o w z_=>At.mono z_.ro_cell hat15) rfl<|cD 32 ?_
   refine Kq (cs0:=[]) (Ls:=[[(b,35,(Ac m mv))],u]) 9 Aa3 [(m.2.1)[f.toNat]!.1] [vS ((m.2.1)[f.toNat]!.1)] [Value.string (⟨#[]⟩)] rfl rfl rfl rfl rfl rfl rfl (by kernel_rfl) (by kernel_rfl) rfl rfl rfl (fun gn br en=> ?_)
   refine kC a fun bh a=>cC 33<|Li (cs0:=[]) (Ls:=[[(b,35,(Ac m mv))],u,br]) 1 (En:=Aa3) rfl rfl rfl rfl rfl bg rfl (Ax en (Ak (Ls:=[[(b,35,(Ac m mv))],u,br]) (k:=2) rfl rfl)) rfl rfl rfl rfl rfl (LE bh rfl) (LD bh rfl) rfl (fun eo cr ep=> ?_)
   refine rz rfl<|cq _ _ ?_
   refine Ag<|rn 1 rfl<|kC a fun cs a=>rX cs rfl<|rz rfl<|fg _ (Sub.pick [[(b,35,(Ac m mv))],cr,br] [0,1] rfl) ?_
   exact⟨n6+1,by omega,n6,(aa++([(m.2.1)[f.toNat]!.1])),(f+1),a,eo,cr,ep,Ah rfl rfl,rfl⟩
  refine AI<|ej _ _ ?_
  refine Aa fun gp ct=>AZ rfl<|Ai<|Bw _ (Sub.pick [[(b,35,(Ac m mv))],u] [0,1] rfl)<|AH (fun tt ll nn=> ∃(P:Nat) (ab:List (List UInt8)) (M:Int),(QH N m part P ab M=some r)∧ ∃(Q:Value) (v:List Bl),Sl 9 Aa3 Q ab v∧Is [(1,vI part),(2,vP b 0),(5,Q),(7,vI M)] (List.flatten [[(b,35,(Ac m mv))],v]) tt ll∧nn=P+1) (N+1) ?_ ?_
  ·exact⟨N,aa,0,a,O,u,bg,Ah rfl rfl,rfl⟩
  clear a;rintro t l _ ⟨P,ab,M,a,Q,v,bi,⟨⟨T,rfl⟩,rfl⟩,rfl⟩
  rcases P with _|P
  ·exact absurd a (by simp [QH])
  rw [QH] at a
  refine Aa fun gq cu=>Aa fun gr cv=>Ag<|rm 3 [0] rfl<|rL (Rd.shp hm.2.2.1) rfl<|rn 2 rfl<|AG 3 42 [(1,vI part),(2,vP b 0),(5,Q),(7,vI M)] vB (fun b_=>dn N m part ab M (QH N m part P) b_=some r) (fun gs a T=> ?_) (fun B=> ?_)
  ·unfold dn at a
   refine Af<|cv _ _ ?_
   refine aB a rfl (fun cw a=> ?_) (fun cw a=> ?_)
   ·refine Ab<|cu _ _ ?_
    refine Aa fun gu cx=>Ai<|Ag<|rm 4 [0] rfl<|kC a fun ae a=>rI (Rd.shp hm.2.2.1) ae rfl<|rF (Rd.shp hm.2.2.1) (Be ae) rfl<|rE (Aw hm.2.2.1) ae 0 rfl<|gB (Ls:=[[(b,35,(Ac m mv))],v]) 9 Aa3 [((m.2.2.2.1)[M.toNat]!).1] (fun gv bs er=> ?_)
    refine kC a fun bj a=>cC 53<|Li (cs0:=[]) (Ls:=[[(b,35,(Ac m mv))],v,bs]) 1 (En:=Aa3) rfl rfl rfl rfl rfl bi rfl (Ax er (Ak (Ls:=[[(b,35,(Ac m mv))],v,bs]) (k:=2) rfl rfl)) rfl rfl rfl rfl rfl (LE bj rfl) (LD bj rfl) rfl (fun es cy et=> ?_)
    refine rz rfl<|cx _ _ ?_
    refine Ag<|rn 1 rfl<|kC a fun cz a=>rX cz rfl<|rz rfl<|fg _ (Sub.pick [[(b,35,(Ac m mv))],cy,bs] [0,1] rfl) ?_
    exact⟨P+1,by omega,P,(ab++([((m.2.2.2.1)[M.toNat]!).1])),(M+1),a,es,cy,et,Ah rfl rfl,rfl⟩
   refine AI<|ct _ _ ?_
   refine Aa fun gw da=>AZ rfl<|Ai<|Bw _ (Sub.pick [[(b,35,(Ac m mv))],v] [0,1] rfl)<|AH (fun tt ll nn=> ∃(R:Nat) (ac:List (List UInt8)) (d:Int),(MI N m part R ac d=some r)∧ ∃(S:Value) (x:List Bl),Sl 9 Aa3 S ac x∧Is [(1,vI part),(2,vP b 0),(5,S),(8,vI d)] (List.flatten [[(b,35,(Ac m mv))],x]) tt ll∧nn=R+1) (N+1) ?_ ?_
   ·exact⟨N,ab,0,a,Q,v,bi,Ah rfl rfl,rfl⟩
   clear a;rintro t l _ ⟨R,ac,d,a,S,x,bk,⟨⟨T,rfl⟩,rfl⟩,rfl⟩
   rcases R with _|R
   ·exact absurd a (by simp [MI])
   rw [MI] at a
   refine Aa fun gx db=>Aa fun gy dc=>Ag<|rm 3 [0] rfl<|rL (RdN.shp hm.2.2.2.1) rfl<|rn 2 rfl<|AG 3 62 [(1,vI part),(2,vP b 0),(5,S),(8,vI d)] vB (fun b_=>Uw N m part ac d (MI N m part R) b_=some r) (fun gz a T=> ?_) (fun B=> ?_)
   ·unfold Uw at a
    refine Af<|dc _ _ ?_
    refine aB a rfl (fun dd a=> ?_) (fun dd a=> ?_)
    ·refine Ab<|db _ _ ?_
     refine Aa fun ha de=>Ai<|Ag<|rm 4 [0] rfl<|kC a fun af a=> ?_
     obtain⟨_,⟨eu,ev,ew,fm,fn,fo,rfl⟩,hat56⟩:=RdN.at (E:=Ad8) hm.2.2.2.1 (Dc af)
     refine rI (RdN.shp hm.2.2.2.1) af rfl<|rF (RdN.shp hm.2.2.2.1) (Be af) rfl<|NB (vS ((m.2.2.2.2.1)[d.toNat]!.1)) (vs:=[vS ((m.2.2.2.2.1)[d.toNat]!.1),eu,ev,ew,vI ((m.2.2.2.2.1)[d.toNat]!.2.2.2.2)]) (d.toNat*5) 0 rfl rfl (fun o w z_=>At.mono z_.ro_cell hat56) rfl<|cD 72 ?_
     refine Kq (cs0:=[]) (Ls:=[[(b,35,(Ac m mv))],x]) 9 Aa3 [(m.2.2.2.2.1)[d.toNat]!.1] [vS ((m.2.2.2.2.1)[d.toNat]!.1)] [Value.string (⟨#[]⟩)] rfl rfl rfl rfl rfl rfl rfl (by kernel_rfl) (by kernel_rfl) rfl rfl rfl (fun hb bt ex=> ?_)
     refine kC a fun bl a=>cC 73<|Li (cs0:=[]) (Ls:=[[(b,35,(Ac m mv))],x,bt]) 1 (En:=Aa3) rfl rfl rfl rfl rfl bk rfl (Ax ex (Ak (Ls:=[[(b,35,(Ac m mv))],x,bt]) (k:=2) rfl rfl)) rfl rfl rfl rfl rfl (LE bl rfl) (LD bl rfl) rfl (fun ey df ez=> ?_)
     refine rz rfl<|de _ _ ?_
     refine Ag<|rn 1 rfl<|kC a fun dg a=>rX dg rfl<|rz rfl<|fg _ (Sub.pick [[(b,35,(Ac m mv))],df,bt] [0,1] rfl) ?_
     exact⟨R+1,by omega,R,(ac++([(m.2.2.2.2.1)[d.toNat]!.1])),(d+1),a,ey,df,ez,Ah rfl rfl,rfl⟩
    refine AI<|da _ _ ?_
    refine Aa fun hc dh=>AZ rfl<|Ai<|Bw _ (Sub.pick [[(b,35,(Ac m mv))],x] [0,1] rfl)<|AH (fun tt ll nn=> ∃(U:Nat) (I:List (List UInt8)) (e:Int),(MH N m part U I e=some r)∧ ∃(C:Value) (g:List Bl),Sl 9 Aa3 C I g∧Is [(1,vI part),(2,vP b 0),(5,C),(9,vI e)] (List.flatten [[(b,35,(Ac m mv))],g]) tt ll∧nn=U+1) (N+1) ?_ ?_
    ·exact⟨N,ac,0,a,S,x,bk,Ah rfl rfl,rfl⟩
    clear a;rintro t l _ ⟨U,I,e,a,C,g,ag,⟨⟨T,rfl⟩,rfl⟩,rfl⟩
    rcases U with _|U
    ·exact absurd a (by simp [MH])
    rw [MH] at a
    refine Aa fun hd di=>Aa fun he dj=>Ag<|rm 3 [0] rfl<|rL (RdN.shp hm.2.2.2.2.1) rfl<|rn 2 rfl<|AG 3 82 [(1,vI part),(2,vP b 0),(5,C),(9,vI e)] vB (fun b_=>Uv N m part I e (MH N m part U) b_=some r) (fun hf a T=> ?_) (fun B=> ?_)
    ·unfold Uv at a
     refine Af<|dj _ _ ?_
     refine aB a rfl (fun dk a=> ?_) (fun dk a=> ?_)
     ·refine Ab<|di _ _ ?_
      refine Aa fun hg dl=>Ai<|Ag<|rm 4 [0] rfl<|kC a fun ah a=> ?_
      obtain⟨_,⟨fa,fb,fp,fq,rfl⟩,hat78⟩:=RdN.at (E:=Ad5) hm.2.2.2.2.1 (Dc ah)
      refine rI (RdN.shp hm.2.2.2.2.1) ah rfl<|rF (RdN.shp hm.2.2.2.2.1) (Be ah) rfl<|NB (vS ((m.2.2.2.2.2.1)[e.toNat]!.1)) (vs:=[vS ((m.2.2.2.2.2.1)[e.toNat]!.1),fa,fb]) (e.toNat*3) 0 rfl rfl (fun o w z_=>At.mono z_.ro_cell hat78) rfl<|cD 92 ?_
      refine Kq (cs0:=[]) (Ls:=[[(b,35,(Ac m mv))],g]) 9 Aa3 [(m.2.2.2.2.2.1)[e.toNat]!.1] [vS ((m.2.2.2.2.2.1)[e.toNat]!.1)] [Value.string (⟨#[]⟩)] rfl rfl rfl rfl rfl rfl rfl (by kernel_rfl) (by kernel_rfl) rfl rfl rfl (fun hh bu fc=> ?_)
      refine kC a fun bm a=>cC 93<|Li (cs0:=[]) (Ls:=[[(b,35,(Ac m mv))],g,bu]) 1 (En:=Aa3) rfl rfl rfl rfl rfl ag rfl (Ax fc (Ak (Ls:=[[(b,35,(Ac m mv))],g,bu]) (k:=2) rfl rfl)) rfl rfl rfl rfl rfl (LE bm rfl) (LD bm rfl) rfl (fun fd dm fe=> ?_)
      refine rz rfl<|dl _ _ ?_
      refine Ag<|rn 1 rfl<|kC a fun dp a=>rX dp rfl<|rz rfl<|fg _ (Sub.pick [[(b,35,(Ac m mv))],dm,bu] [0,1] rfl) ?_
      exact⟨U+1,by omega,U,(I++([(m.2.2.2.2.2.1)[e.toNat]!.1])),(e+1),a,fd,dm,fe,Ah rfl rfl,rfl⟩
     refine AI<|dh _ _ ?_
     refine Aa fun hi dr=>AZ rfl<|Ai<|Bw _ (Sub.pick [[(b,35,(Ac m mv))],g] [0,1] rfl)<|AH (fun tt ll nn=> ∃(V:Nat) (J:List (List UInt8)) (c:Int),(MG N m part V J c=some r)∧ ∃(D:Value) (h:List Bl),Sl 9 Aa3 D J h∧Is [(1,vI part),(2,vP b 0),(5,D),(10,vI c)] (List.flatten [[(b,35,(Ac m mv))],h]) tt ll∧nn=V+1) (N+1) ?_ ?_
     ·exact⟨N,I,0,a,C,g,ag,Ah rfl rfl,rfl⟩
     clear a;rintro t l _ ⟨V,J,c,a,D,h,ai,⟨⟨T,rfl⟩,rfl⟩,rfl⟩
     rcases V with _|V
     ·exact absurd a (by simp [MG])
     rw [MG] at a
     refine Aa fun hj ds=>Aa fun hk dt=>Ag<|rm 3 [0] rfl<|rL (RdN.shp hm.2.2.2.2.2.1) rfl<|rn 2 rfl<|AG 3 102 [(1,vI part),(2,vP b 0),(5,D),(10,vI c)] vB (fun b_=>Uu N m part J c (MG N m part V) b_=some r) (fun hl a T=> ?_) (fun B=> ?_)
     ·unfold Uu at a
      refine Af<|dt _ _ ?_
      refine aB a rfl (fun du a=> ?_) (fun du a=> ?_)
      ·refine Ab<|ds _ _ ?_
       refine Aa fun ho dv=>Ai<|Ag<|rm 4 [0] rfl<|kC a fun aj a=> ?_
       obtain⟨_,⟨ff,fh,fi,fr,fj,fk,rfl⟩,hat102⟩:=RdN.at (E:=Ad9) hm.2.2.2.2.2.1 (Dc aj)
       refine rI (RdN.shp hm.2.2.2.2.2.1) aj rfl<|rF (RdN.shp hm.2.2.2.2.2.1) (Be aj) rfl<|NB (vS ((m.2.2.2.2.2.2.1)[c.toNat]!.1)) (vs:=[vS ((m.2.2.2.2.2.2.1)[c.toNat]!.1),vI ((m.2.2.2.2.2.2.1)[c.toNat]!.2.1),ff,fh,vI ((m.2.2.2.2.2.2.1)[c.toNat]!.2.2.2.2.1),fi,vI ((m.2.2.2.2.2.2.1)[c.toNat]!.2.2.2.2.2.2)]) (c.toNat*7) 0 rfl rfl (fun o w z_=>At.mono z_.ro_cell hat102) rfl<|cD 112 ?_
       refine Kq (cs0:=[]) (Ls:=[[(b,35,(Ac m mv))],h]) 9 Aa3 [(m.2.2.2.2.2.2.1)[c.toNat]!.1] [vS ((m.2.2.2.2.2.2.1)[c.toNat]!.1)] [Value.string (⟨#[]⟩)] rfl rfl rfl rfl rfl rfl rfl (by kernel_rfl) (by kernel_rfl) rfl rfl rfl (fun fs ak dw=> ?_)
       refine kC a fun al a=>cC 113<|Li (cs0:=[]) (Ls:=[[(b,35,(Ac m mv))],h,ak]) 1 (En:=Aa3) rfl rfl rfl rfl rfl ai rfl (Ax dw (Ak (Ls:=[[(b,35,(Ac m mv))],h,ak]) (k:=2) rfl rfl)) rfl rfl rfl rfl rfl (LE al rfl) (LD al rfl) rfl (fun dx bn dy=> ?_)
       refine rz rfl<|dv _ _ ?_
       refine Ag<|rn 1 rfl<|kC a fun bv a=>rX bv rfl<|rz rfl<|fg _ (Sub.pick [[(b,35,(Ac m mv))],bn,ak] [0,1] rfl) ?_
       exact⟨V+1,by omega,V,(J++([(m.2.2.2.2.2.2.1)[c.toNat]!.1])),(c+1),a,dx,bn,dy,Ah rfl rfl,rfl⟩
      refine AI<|dr _ _ ?_
      refine Aa fun ft bw=>AZ rfl<|Ai<|Bw _ (Sub.pick [[(b,35,(Ac m mv))],h] [0,1] rfl)<|AH (fun tt ll nn=> ∃(y:Nat) (K:List (List UInt8)) (n:Int),(MF N m part y K n=some r)∧ ∃(F:Value) (i:List Bl),Sl 9 Aa3 F K i∧Is [(1,vI part),(2,vP b 0),(5,F),(11,vI n)] (List.flatten [[(b,35,(Ac m mv))],i]) tt ll∧nn=y+1) (N+1) ?_ ?_
      ·exact⟨N,J,0,a,D,h,ai,Ah rfl rfl,rfl⟩
      clear a;rintro t l _ ⟨y,K,n,a,F,i,am,⟨⟨T,rfl⟩,rfl⟩,rfl⟩
      rcases y with _|y
      ·exact absurd a (by simp [MF])
      rw [MF] at a
      refine Aa fun fu bx=>Aa fun fv bz=>Ag<|rm 3 [0] rfl<|rL (Rd.shp hm.2.2.2.2.2.2.2.2.2.2.2.1) rfl<|rn 2 rfl<|AG 3 122 [(1,vI part),(2,vP b 0),(5,F),(11,vI n)] vB (fun b_=>Ut N m part K n (MF N m part y) b_=some r) (fun fw a T=> ?_) (fun B=> ?_)
      ·unfold Ut at a
       refine Af<|bz _ _ ?_
       refine aB a rfl (fun ca a=> ?_) (fun ca a=> ?_)
       ·refine Ab<|bx _ _ ?_
        refine Aa fun fx cb=>Ai<|Ag<|rm 4 [0] rfl<|kC a fun X a=>rI (Rd.shp hm.2.2.2.2.2.2.2.2.2.2.2.1) X rfl<|rF (Rd.shp hm.2.2.2.2.2.2.2.2.2.2.2.1) (Be X) rfl<|rE (Aw hm.2.2.2.2.2.2.2.2.2.2.2.1) X 0 rfl<|cD 132 ?_
        refine Kq (cs0:=[]) (Ls:=[[(b,35,(Ac m mv))],i]) 9 Aa3 [((m.2.2.2.2.2.2.2.2.2.2.2.2.1)[n.toNat]!).1] [vS (((m.2.2.2.2.2.2.2.2.2.2.2.2.1)[n.toNat]!).1)] [Value.string (⟨#[]⟩)] rfl rfl rfl rfl rfl rfl rfl (by kernel_rfl) (by kernel_rfl) rfl rfl rfl (fun fy an dz=> ?_)
        refine kC a fun ao a=>cC 133<|Li (cs0:=[]) (Ls:=[[(b,35,(Ac m mv))],i,an]) 1 (En:=Aa3) rfl rfl rfl rfl rfl am rfl (Ax dz (Ak (Ls:=[[(b,35,(Ac m mv))],i,an]) (k:=2) rfl rfl)) rfl rfl rfl rfl rfl (LE ao rfl) (LD ao rfl) rfl (fun ea bo eb=> ?_)
        refine rz rfl<|cb _ _ ?_
        refine Ag<|rn 1 rfl<|kC a fun cc a=>rX cc rfl<|rz rfl<|fg _ (Sub.pick [[(b,35,(Ac m mv))],bo,an] [0,1] rfl) ?_
        exact⟨y+1,by omega,y,(K++([((m.2.2.2.2.2.2.2.2.2.2.2.2.1)[n.toNat]!).1])),(n+1),a,ea,bo,eb,Ah rfl rfl,rfl⟩
       refine AI<|bw _ _ ?_
       refine Aa fun fz cd=>AZ rfl<|Ai<|Bw _ (Sub.pick [[(b,35,(Ac m mv))],i] [0,1] rfl)<|AH (fun tt ll nn=> ∃(z:Nat) (L:List (List UInt8)) (p:Int),(ME N m part z L p=some r)∧ ∃(G:Value) (j:List Bl),Sl 9 Aa3 G L j∧Is [(1,vI part),(2,vP b 0),(5,G),(12,vI p)] (List.flatten [[(b,35,(Ac m mv))],j]) tt ll∧nn=z+1) (N+1) ?_ ?_
       ·exact⟨N,K,0,a,F,i,am,Ah rfl rfl,rfl⟩
       clear a;rintro t l _ ⟨z,L,p,a,G,j,ap,⟨⟨T,rfl⟩,rfl⟩,rfl⟩
       rcases z with _|z
       ·exact absurd a (by simp [ME])
       rw [ME] at a
       refine Aa fun ga ce=>Aa fun gb cf=>Ag<|rm 3 [0] rfl<|rL (Rd.shp hm.2.2.2.2.2.2.2.2.2.2.2.2.1) rfl<|rn 2 rfl<|AG 3 142 [(1,vI part),(2,vP b 0),(5,G),(12,vI p)] vB (fun b_=>Us N m part L p (ME N m part z) b_=some r) (fun gc a T=> ?_) (fun B=> ?_)
       ·unfold Us at a
        refine Af<|cf _ _ ?_
        refine aB a rfl (fun cg a=> ?_) (fun cg a=> ?_)
        ·refine Ab<|ce _ _ ?_
         refine Aa fun gd ch=>Ai<|Ag<|rm 4 [0] rfl<|kC a fun Y a=>rI (Rd.shp hm.2.2.2.2.2.2.2.2.2.2.2.2.1) Y rfl<|rF (Rd.shp hm.2.2.2.2.2.2.2.2.2.2.2.2.1) (Be Y) rfl<|rE (Aw hm.2.2.2.2.2.2.2.2.2.2.2.2.1) Y 0 rfl<|cD 152 ?_
         refine Kq (cs0:=[]) (Ls:=[[(b,35,(Ac m mv))],j]) 9 Aa3 [((m.2.2.2.2.2.2.2.2.2.2.2.2.2.1)[p.toNat]!).1] [vS (((m.2.2.2.2.2.2.2.2.2.2.2.2.2.1)[p.toNat]!).1)] [Value.string (⟨#[]⟩)] rfl rfl rfl rfl rfl rfl rfl (by kernel_rfl) (by kernel_rfl) rfl rfl rfl (fun gf aq ec=> ?_)
         refine kC a fun ar a=>cC 153<|Li (cs0:=[]) (Ls:=[[(b,35,(Ac m mv))],j,aq]) 1 (En:=Aa3) rfl rfl rfl rfl rfl ap rfl (Ax ec (Ak (Ls:=[[(b,35,(Ac m mv))],j,aq]) (k:=2) rfl rfl)) rfl rfl rfl rfl rfl (LE ar rfl) (LD ar rfl) rfl (fun ed bp ee=> ?_)
         refine rz rfl<|ch _ _ ?_
         refine Ag<|rn 1 rfl<|kC a fun ci a=>rX ci rfl<|rz rfl<|fg _ (Sub.pick [[(b,35,(Ac m mv))],bp,aq] [0,1] rfl) ?_
         exact⟨z+1,by omega,z,(L++([((m.2.2.2.2.2.2.2.2.2.2.2.2.2.1)[p.toNat]!).1])),(p+1),a,ed,bp,ee,Ah rfl rfl,rfl⟩
        refine AI<|cd _ _ ?_
        refine Aa fun gg cj=>AZ rfl<|Ai<|Bw _ (Sub.pick [[(b,35,(Ac m mv))],j] [0,1] rfl)<|AH (fun tt ll nn=> ∃(A:Nat) (W:List (List UInt8)) (q:Int),(MD m part A W q=some r)∧ ∃(H:Value) (s:List Bl),Sl 9 Aa3 H W s∧Is [(1,vI part),(2,vP b 0),(5,H),(13,vI q)] (List.flatten [[(b,35,(Ac m mv))],s]) tt ll∧nn=A+1) (N+1) ?_ ?_
        ·exact⟨N,L,0,a,G,j,ap,Ah rfl rfl,rfl⟩
        clear a;rintro t l _ ⟨A,W,q,a,H,s,au,⟨⟨T,rfl⟩,rfl⟩,rfl⟩
        rcases A with _|A
        ·exact absurd a (by simp [MD])
        rw [MD] at a
        refine Aa fun gh ck=>Aa fun gi cl=>Ag<|rm 3 [0] rfl<|rL (Rd.shp hm.2.2.2.2.2.2.2.2.2.2.2.2.2) rfl<|rn 2 rfl<|AG 3 162 [(1,vI part),(2,vP b 0),(5,H),(13,vI q)] vB (fun b_=>Ur m W q (MD m part A) b_=some r) (fun gj a T=> ?_) (fun B=> ?_)
        ·unfold Ur at a
         refine Af<|cl _ _ ?_
         refine aB a rfl (fun cm a=> ?_) (fun cm a=> ?_)
         ·refine Ab<|ck _ _ ?_
          refine Aa fun gk cn=>Ai<|Ag<|rm 4 [0] rfl<|kC a fun Z a=>rI (Rd.shp hm.2.2.2.2.2.2.2.2.2.2.2.2.2) Z rfl<|rF (Rd.shp hm.2.2.2.2.2.2.2.2.2.2.2.2.2) (Be Z) rfl<|rE (Aw hm.2.2.2.2.2.2.2.2.2.2.2.2.2) Z 0 rfl<|cD 172 ?_
          refine Kq (cs0:=[]) (Ls:=[[(b,35,(Ac m mv))],s]) 9 Aa3 [((m.2.2.2.2.2.2.2.2.2.2.2.2.2.2.1)[q.toNat]!).1] [vS (((m.2.2.2.2.2.2.2.2.2.2.2.2.2.2.1)[q.toNat]!).1)] [Value.string (⟨#[]⟩)] rfl rfl rfl rfl rfl rfl rfl (by kernel_rfl) (by kernel_rfl) rfl rfl rfl (fun gl av ef=> ?_)
          refine kC a fun aw a=>cC 173<|Li (cs0:=[]) (Ls:=[[(b,35,(Ac m mv))],s,av]) 1 (En:=Aa3) rfl rfl rfl rfl rfl au rfl (Ax ef (Ak (Ls:=[[(b,35,(Ac m mv))],s,av]) (k:=2) rfl rfl)) rfl rfl rfl rfl rfl (LE aw rfl) (LD aw rfl) rfl (fun eg bq eh=> ?_)
          refine rz rfl<|cn _ _ ?_
          refine Ag<|rn 1 rfl<|kC a fun co a=>rX co rfl<|rz rfl<|fg _ (Sub.pick [[(b,35,(Ac m mv))],bq,av] [0,1] rfl) ?_
          exact⟨A+1,by omega,A,(W++([((m.2.2.2.2.2.2.2.2.2.2.2.2.2.2.1)[q.toNat]!).1])),(q+1),a,eg,bq,eh,Ah rfl rfl,rfl⟩
         refine AI<|cj _ _ ?_
         refine AZ rfl ?_
         cases a
         refine Bb (fun hn=>Hw (v0:=H) au (EH (Sub.pick [[(b,35,(Ac m mv))],s] [1] rfl)) rfl (EJ rfl))
        rcases ax:(decide (q<(m.2.2.2.2.2.2.2.2.2.2.2.2.2.2.1.length:Int)))with _|_
        ·replace a:=iF ax a
         refine rn 3 rfl ?_
         exact B _ _ a rfl rfl
        replace a:=iD ax a
        refine rn 3 rfl ?_
        exact B _ _ a rfl rfl
       rcases ay:(decide (p<(m.2.2.2.2.2.2.2.2.2.2.2.2.2.1.length:Int)))with _|_
       ·replace a:=iF ay a
        refine rn 3 rfl ?_
        exact B _ _ a rfl rfl
       replace a:=iD ay a
       refine rn 3 rfl ?_
       exact B _ _ a rfl rfl
      rcases az:(decide (n<(m.2.2.2.2.2.2.2.2.2.2.2.2.1.length:Int)))with _|_
      ·replace a:=iF az a
       refine rn 3 rfl ?_
       exact B _ _ a rfl rfl
      replace a:=iD az a
      refine rn 3 rfl ?_
      exact B _ _ a rfl rfl
     rcases ba:(decide (c<(m.2.2.2.2.2.2.1.length:Int)))with _|_
     ·replace a:=iF ba a
      refine rn 3 rfl ?_
      exact B _ _ a rfl rfl
     replace a:=iD ba a
     refine rn 3 rfl ?_
     exact B _ _ a rfl rfl
    rcases bb:(decide (e<(m.2.2.2.2.2.1.length:Int)))with _|_
    ·replace a:=iF bb a
     refine rn 3 rfl ?_
     exact B _ _ a rfl rfl
    replace a:=iD bb a
    refine rn 3 rfl ?_
    exact B _ _ a rfl rfl
   rcases bc:(decide (d<(m.2.2.2.2.1.length:Int)))with _|_
   ·replace a:=iF bc a
    refine rn 3 rfl ?_
    exact B _ _ a rfl rfl
   replace a:=iD bc a
   refine rn 3 rfl ?_
   exact B _ _ a rfl rfl
  rcases bd:(decide (M<(m.2.2.2.1.length:Int)))with _|_
  ·replace a:=iF bd a
   refine rn 3 rfl ?_
   exact B _ _ a rfl rfl
  replace a:=iD bd a
  refine rn 3 rfl ?_
  exact B _ _ a rfl rfl
 rcases be:(decide (f<(m.2.1.length:Int)))with _|_
 ·replace a:=iF be a
  refine rn 3 rfl ?_
  exact B _ _ a rfl rfl
 replace a:=iD be a
 refine rn 3 rfl ?_
 exact B _ _ a rfl rfl
def Et(d:List (List UInt8×Int))(b:Int)(c:Int)(a:Int→Int→Option Int)(e:Bool):Option Int:=if e=true then some 9 else ck ((R64 (b+(d[c.toNat]!).2))) (ck (R64 (c+1)) (a (b+(d[c.toNat]!).2) (c+1)))
def Cc(N:Nat)(b:List (List UInt8×Int))(e:Int)(c:Int)(a:Int→Int→Option Int):Nat→Int→Option Int
  |0,_=>none
  |g+1,d=>if d<c then ck (0≤d∧d<(b.length:Int)) ((DZ N ((b[d.toNat]!).1) ((b[c.toNat]!).1)).bind fun f=>if f=true then some 6 else ck (R64 (d+1)) ((Cc N b e c a g) (d+1)))else if((b[c.toNat]!).2:Int)<1 then Et b e c a true else Et b e c a (decide (((b[c.toNat]!).2:Int)>128))
def FN(a:Bool):Option Int:=if a=true then some 7 else some 0
def Ce(a:Int)(b:Bool):Option Int:=if b=true then FN true else FN (a !=0)
def Fi(a:Bool):Option Int:=if a=true then some 7 else some 0
def DV(b:Int)(a:Bool):Option Int:=if a=true then Fi true else Fi (decide (b>4096))
def DW(a:Int)(b:Bool):Option Int:=if b=true then DV a true else DV a (decide (a<0))
def DX(b:Int)(a:Int)(c:Bool):Option Int:=if c=true then DW a true else DW a (decide (b>64))
def CG(a:Int)(b:Int)(c:Bool):Option Int:=if c=true then DX a b true else DX a b (decide (a<1))
def CH(d:List (List UInt8×Int))(a:Int)(b:Int)(c:Int)(e:Bool):Option Int:=if e=true then CG b c true else ck (0≤a∧a<(d.length:Int)) (CG b c (decide (((d[a.toNat]!).2:Int)>16)))
def CI(b:List (List UInt8×Int))(a:Int)(c:Int)(d:Int)(e:Bool):Option Int:=if e=true then CH b a c d true else CH b a c d (decide (a≥(b.length:Int)))
def Cd(d:List (List UInt8×Int))(a:Int)(b:Int)(c:Int)(e:Bool):Option Int:=if e=true then CI d a b c true else CI d a b c (decide (a<0))
def BD(N:Nat)(b:List (List UInt8×Int))(f:Int)(g:Int)(e:Int)(c:Int):Nat→Int→Int→Option Int
  |0,_,_=>none
  |i+1,a,d=>if d<(b.length:Int)then ck (0≤d∧d<(b.length:Int)) ((CL N ((b[d.toNat]!).1)).bind fun h=>if h=true then Cc N b a d (BD N b f g e c i) N 0 else some 4)else ck (0≤a∧a≤9223372036854775807) (if(a%8:Int)≠0 then some 9 else if f=0 then if(g:Int)≠0 then Ce c true else Ce c (e !=0)else if f<1 then Cd b g e c true else Cd b g e c (decide (f>64)))
def Gl(N:Nat)(d:List UInt8)(a:List (List UInt8×Int))(e:Int)(f:Int)(b:Int)(c:Int):Option Int:=(CL N d).bind fun g=>if g=true then if(a.length:Int)>16 then some 2 else if(a.length:Int)=0 then some 5 else BD N a e f b c N 0 0 else some 4
theorem PB(N h_0 h_1 h_2 h_3 h_4 h_5 r)(a:Gl N h_0 h_1 h_2 h_3 h_4 h_5=some r)(ro h_1v)(hh_1:Rd Ab2 ro h_1v h_1):Does prog 37 #[vA #[vS h_0,h_1v,vI h_2,vI h_3,vI h_4,vI h_5]] ro [] (pV (vI r)):=by
 unfold Gl at a
 refine Al follows func37 rfl 131 rfl _ fz1 (fun al=> ?_)
 refine Ad<|rA rfl fun g=>rz rfl<|Aa fun K3 am=>Ad<|rm 2 [0] rfl<|kB a fun r5 an a=>rc _ (cF TW) (HL N h_0 _ an)<|rz rfl<|Bf _ rfl (fun A=> ?_) (fun A=> ?_)
 ·replace a:=ifn (Bool.eq_false_iff.1 (Da A)) a
  refine AZ rfl ?_
  cases a
  exact aR eV1
 replace a:=ifp (Db A) a
 refine Ab<|am _ _ ?_
 refine Aa fun K9 ao=>Ad<|rm 2 [0] rfl<|rL (Rd.shp hh_1) rfl<|rz rfl<|aD a rfl (fun C a=> ?_) (fun C a=> ?_)
 ·refine AZ rfl ?_
  cases a
  exact aR eV1
 refine Ab<|ao _ _ ?_
 refine Aa fun az D=>Ad<|rm 2 [0] rfl<|rL (Rd.shp hh_1) rfl<|rz rfl<|aE a rfl (fun E a=> ?_) (fun E a=> ?_)
 ·refine AZ rfl ?_
  cases a
  exact aR eV1
 refine Ab<|D _ _ ?_
 refine AZ rfl<|Aa fun ba F=>AZ rfl<|Ai<|AH (fun tt ll nn=> ∃(e:Nat) (b:Int) (d:Int),(BD N h_1 h_2 h_3 h_4 h_5 e b d=some r)∧Is [(1,vP g 0),(3,vI b),(4,vI d)] (pE g h_0 h_1v h_2 h_3 h_4 h_5) tt ll∧nn=e+1) (N+1) ?_ ?_
 ·exact⟨N,0,0,a,Ah rfl rfl,rfl⟩
 clear a;rintro t l _ ⟨e,b,d,a,⟨⟨T,rfl⟩,rfl⟩,rfl⟩
 rcases e with _|e
 ·exact absurd a (by simp [BD])
 rw [BD] at a
 refine Aa fun bb G=>Ad<|rm 3 [0] rfl<|rL (Rd.shp hh_1) rfl<|rz rfl<|aD a rfl (fun H a=> ?_) (fun H a=> ?_)
 ·refine Ab<|G _ _ ?_
  refine Aa fun bc I=>Ai<|Ad<|rm 3 [0] rfl<|kC a fun m a=>rI (Rd.shp hh_1) m rfl<|rE (Aw hh_1) m 0 rfl<|rA rfl fun B=>ry [0] rfl<|Aa fun bd J=>Ad<|rm 2 [0] rfl<|kB a fun be K a=>rc _ (cF TW) (HL N ((h_1[d.toNat]!).1) _ K)<|rz rfl<|Bf _ rfl (fun h=> ?_) (fun h=> ?_)
  ·replace a:=ifn (Bool.eq_false_iff.1 (Da h)) a
   refine AZ rfl ?_
   cases a
   exact aR eV1
  replace a:=ifp (Db h) a
  refine Ab<|J _ _ ?_
  refine Aa fun bf L=>AZ rfl<|Ai<|AH (fun tt ll nn=> ∃(f:Nat) (i:Int),(Cc N h_1 b d (BD N h_1 h_2 h_3 h_4 h_5 e) f i=some r)∧Is [(1,vP g 0),(3,vI b),(4,vI d),(5,vP B 0),(6,vI i)] [(B,77, #[vS ((h_1[d.toNat]!).1),vI ((h_1[d.toNat]!).2)]),(g,79, #[vS h_0,h_1v,vI h_2,vI h_3,vI h_4,vI h_5])] tt ll∧nn=f+1) (N+1) ?_ ?_
  ·exact⟨N,0,a,Ah rfl rfl,rfl⟩
  clear a;rintro t l _ ⟨f,i,a,⟨⟨T,rfl⟩,rfl⟩,rfl⟩
  rcases f with _|f
  ·exact absurd a (by simp [Cc])
  rw [Cc] at a
  refine Aa fun bg M=>AZ rfl<|aD a rfl (fun O a=> ?_) (fun O a=> ?_)
  ·refine Ab<|M _ _ ?_
   refine Aa fun bh P=>Ai<|Aa fun bi Q=>IE [] (by decide+kernel) (fun hn=>AQ)<|rm 3 [1] rfl<|kC a fun j a=>rI (Rd.shp hh_1) j rfl<|rF (Rd.shp hh_1) (Be j) rfl<|rE (Aw hh_1) j 0 rfl<|rm 2 [0] rfl<|kB a fun bj R a=>rc _ (cF Zp) (Jw N ((h_1[i.toNat]!).1) ((h_1[d.toNat]!).1) _ R)<|Af<|Q _ _ ?_
   refine aB a rfl (fun S a=> ?_) (fun S a=> ?_)
   ·refine AZ rfl ?_
    cases a
    exact aR eV1
   refine Ab<|P _ _ ?_
   refine Ag<|rn 1 rfl<|kC a fun U a=>rX U rfl<|rz rfl<|fg _ (Sub.of (suK _ (suK _ suN))) ?_
   exact⟨f+1,by omega,f,(i+1),a,Ah rfl rfl,rfl⟩
  refine AI<|L _ _ ?_
  refine Aa fun bk V=>Aa fun bl W=>Ag<|rm 4 [0] rfl<|AG 4 56 [(1,vP g 0),(3,vI b),(4,vI d),(5,vP B 0)] vB (fun b_=>Et h_1 b d (BD N h_1 h_2 h_3 h_4 h_5 e) b_=some r) (fun bm a T=> ?_) (fun c=> ?_)
  ·unfold Et at a
   refine Af<|W _ _ ?_
   refine aB a rfl (fun X a=> ?_) (fun X a=> ?_)
   ·refine AZ rfl ?_
    cases a
    exact aR eV1
   refine Ab<|V _ _ ?_
   refine Ag<|rm 3 [0] rfl<|kC a fun Y a=>rX Y rfl<|rz rfl<|I _ _ ?_
   refine Ag<|rn 1 rfl<|kC a fun Z a=>rX Z rfl<|rz rfl<|fg _ (Sub.of (suC _ (suK _ suN))) ?_
   exact⟨e+1,by omega,e,(b+(h_1[d.toNat]!).2),(d+1),a,Ah rfl rfl,rfl⟩
  rcases n:(decide (((h_1[d.toNat]!).2:Int)<1))with _|_
  ·replace a:=iF n a
   refine rn 1 rfl<|r_y rfl<|rm 3 [0] rfl ?_
   exact c _ _ a rfl rfl
  replace a:=iD n a
  refine rn 4 rfl ?_
  exact c _ _ a rfl rfl
 refine AI<|F _ _ ?_
 refine Aa fun bn aa=>Ad<|rn 1 rfl<|kC a fun ab a=>r_X (vI (b%8)) rfl (RA ab.1) rfl<|rz rfl<|aN a rfl (fun ac a=> ?_) (fun ac a=> ?_)
 ·refine AZ rfl ?_
  cases a
  exact aR eV1
 refine Ab<|aa _ _ ?_
 refine Aa fun bo ad=>AY [0] rfl<|aE a rfl (fun ae a=> ?_) (fun ae a=> ?_)
 ·refine Aa fun bp af=>Aa fun bq ag=>Ag<|rm 4 [0] rfl<|AG 4 74 [(1,vP g 0)] vB (fun b_=>Ce h_5 b_=some r) (fun ap a T=> ?_) (fun c=> ?_)
  ·unfold Ce at a
   refine rn 1 rfl<|AG 4 79 [] vB (fun b_=>FN b_=some r) (fun br a T=> ?_) (fun c=> ?_)
   ·unfold FN at a
    refine Af<|ag _ _ ?_
    refine aB a rfl (fun ah a=> ?_) (fun ah a=> ?_)
    ·refine AZ rfl ?_
     cases a
     exact aR eV1
    refine Ab<|af _ _ ?_
    refine AZ rfl ?_
    cases a
    exact aR eV1
   rcases o:ap with _|_
   ·replace a:=iB o a
    refine rn 1 rfl<|r_y rfl<|rm 3 [0] rfl ?_
    exact c _ _ a rfl rfl
   replace a:=ifp o a
   refine rn 4 rfl ?_
   exact c _ _ a rfl rfl
  rcases p:(h_3 !=0)with _|_
  ·replace a:=iM p a
   refine rn 1 rfl<|r_y rfl<|rm 3 [0] rfl ?_
   exact c _ _ a rfl rfl
  replace a:=iN p a
  refine rn 4 rfl ?_
  exact c _ _ a rfl rfl
 refine Ab<|ad _ _ ?_
 refine Aa fun bs ai=>Aa fun bt aj=>Ag<|rm 4 [0] rfl<|AG 4 87 [(1,vP g 0)] vB (fun b_=>Cd h_1 h_3 h_4 h_5 b_=some r) (fun aq a T=> ?_) (fun c=> ?_)
 ·unfold Cd at a
  refine rn 1 rfl<|AG 4 92 [(1,vP g 0)] vB (fun b_=>CI h_1 h_3 h_4 h_5 b_=some r) (fun ar a T=> ?_) (fun c=> ?_)
  ·unfold CI at a
   refine rn 1 rfl<|AG 7 100 [(1,vP g 0)] vB (fun b_=>CH h_1 h_3 h_4 h_5 b_=some r) (fun au a T=> ?_) (fun c=> ?_)
   ·unfold CH at a
    refine rn 1 rfl<|AG 9 110 [(1,vP g 0)] vB (fun b_=>CG h_4 h_5 b_=some r) (fun av a T=> ?_) (fun c=> ?_)
    ·unfold CG at a
     refine rn 1 rfl<|AG 4 115 [(1,vP g 0)] vB (fun b_=>DX h_4 h_5 b_=some r) (fun aw a T=> ?_) (fun c=> ?_)
     ·unfold DX at a
      refine rn 1 rfl<|AG 4 120 [(1,vP g 0)] vB (fun b_=>DW h_5 b_=some r) (fun ax a T=> ?_) (fun c=> ?_)
      ·unfold DW at a
       refine rn 1 rfl<|AG 4 125 [(1,vP g 0)] vB (fun b_=>DV h_5 b_=some r) (fun ay a T=> ?_) (fun c=> ?_)
       ·unfold DV at a
        refine rn 1 rfl<|AG 4 130 [] vB (fun b_=>Fi b_=some r) (fun bu a T=> ?_) (fun c=> ?_)
        ·unfold Fi at a
         refine Af<|aj _ _ ?_
         refine aB a rfl (fun ak a=> ?_) (fun ak a=> ?_)
         ·refine AZ rfl ?_
          cases a
          exact aR eV1
         refine Ab<|ai _ _ ?_
         refine AZ rfl ?_
         cases a
         exact aR eV1
        rcases q:ay with _|_
        ·replace a:=iB q a
         refine rn 1 rfl<|r_y rfl<|rm 3 [0] rfl ?_
         exact c _ _ a rfl rfl
        replace a:=ifp q a
        refine rn 4 rfl ?_
        exact c _ _ a rfl rfl
       rcases s:ax with _|_
       ·replace a:=iB s a
        refine rn 1 rfl<|r_y rfl<|rm 3 [0] rfl ?_
        exact c _ _ a rfl rfl
       replace a:=ifp s a
       refine rn 4 rfl ?_
       exact c _ _ a rfl rfl
      rcases u:aw with _|_
      ·replace a:=iB u a
       refine rn 1 rfl<|r_y rfl<|rm 3 [0] rfl ?_
       exact c _ _ a rfl rfl
      replace a:=ifp u a
      refine rn 4 rfl ?_
      exact c _ _ a rfl rfl
     rcases v:av with _|_
     ·replace a:=iB v a
      refine rn 1 rfl<|r_y rfl<|rm 3 [0] rfl ?_
      exact c _ _ a rfl rfl
     replace a:=ifp v a
     refine rn 4 rfl ?_
     exact c _ _ a rfl rfl
    rcases w:au with _|_
    ·replace a:=iB w a
     refine rn 1 rfl<|r_y rfl<|rm 2 [0] rfl<|r_y rfl<|rm 1 [0] rfl<|r_y rfl<|kC a fun k a=>rI (Rd.shp hh_1) k rfl<|r_y rfl<|rF (Rd.shp hh_1) (Be k) rfl<|r_y rfl<|rE (Aw hh_1) k 1 rfl<|rn 2 rfl ?_
     exact c _ _ a rfl rfl
    replace a:=ifp w a
    refine rn 9 rfl ?_
    exact c _ _ a rfl rfl
   rcases x:ar with _|_
   ·replace a:=iB x a
    refine rn 1 rfl<|r_y rfl<|rm 2 [0] rfl<|r_y rfl<|rm 1 [0] rfl<|r_y rfl<|rL (Rd.shp hh_1) rfl<|rn 2 rfl ?_
    exact c _ _ a rfl rfl
   replace a:=ifp x a
   refine rn 7 rfl ?_
   exact c _ _ a rfl rfl
  rcases y:aq with _|_
  ·replace a:=iB y a
   refine rn 1 rfl<|r_y rfl<|rm 3 [0] rfl ?_
   exact c _ _ a rfl rfl
  replace a:=ifp y a
  refine rn 4 rfl ?_
  exact c _ _ a rfl rfl
 rcases z:(decide (h_2<1))with _|_
 ·replace a:=iF z a
  refine rn 1 rfl<|r_y rfl<|rm 3 [0] rfl ?_
  exact c _ _ a rfl rfl
 replace a:=iD z a
 refine rn 4 rfl ?_
 exact c _ _ a rfl rfl
def Cp(N:Nat)(b:List (List UInt8)):Nat→Int→Option Int
  |0,_=>none
  |c+1,a=>ck ((R64 ((b.length:Int) - 1))) (if a<((b.length:Int) - 1)then ck (0≤a∧a<(b.length:Int)) ((DZ N (b[a.toNat]!) (b[(((b.length:Int) - 1)).toNat]!)).bind fun d=>if d=true then some 6 else ck (R64 (a+1)) ((Cp N b c) (a+1)))else some 0)
def GF(N:Nat)(a:List (List UInt8)):Option Int:=ck ((R64 ((a.length:Int) - 1))) (ck (0≤((a.length:Int) - 1)∧((a.length:Int) - 1)<(a.length:Int)) ((CL N (a[(((a.length:Int) - 1)).toNat]!)).bind fun b=>if b=true then Cp N a N 0 else some 4))
theorem PJ(N l' r)(a:GF N l'=some r)(ro l'v)(hl':Rd Aa3 ro l'v l'):Does prog 38 #[l'v] ro [] (pV (vI r)):=by
 unfold GF at a
 refine Al follows func38 rfl 27 rfl _ fz1 (fun p=> ?_)
 refine AZ rfl<|Ad<|rn 2 rfl<|rL (Rd.shp hl') rfl<|kC a fun q a=>rX q rfl<|kC a fun f a=>rI (Rd.shp hl') f rfl<|rE (Aw hl') f 0 rfl<|rz rfl<|Aa fun z s=>Ad<|rn 1 rfl<|kB a fun A u a=>rc _ (cF TW) (HL N (l'[(((l'.length:Int) - 1)).toNat]!) _ u)<|rz rfl<|Bf _ rfl (fun e=> ?_) (fun e=> ?_)
 ·replace a:=ifn (Bool.eq_false_iff.1 (Da e)) a
  refine AZ rfl ?_
  cases a
  exact aR eV1
 replace a:=ifp (Db e) a
 refine Ab<|s _ _ ?_
 refine Aa fun v g=>AZ rfl<|Ai<|AH (fun tt ll nn=> ∃(b:Nat) (c:Int),(Cp N l' b c=some r)∧Is [(0,l'v),(3,vS (l'[(((l'.length:Int) - 1)).toNat]!)),(4,vI c)] [] tt ll∧nn=b+1) (N+1) ?_ ?_
 ·exact⟨N,0,a,Ah rfl rfl,rfl⟩
 clear a;rintro t l _ ⟨b,c,a,⟨⟨T,rfl⟩,rfl⟩,rfl⟩
 rcases b with _|b
 ·exact absurd a (by simp [Cp])
 rw [Cp] at a
 refine Aa fun w h=>Ad<|rn 2 rfl<|rL (Rd.shp hl') rfl<|kC a fun i a=>rX i rfl<|rz rfl<|aD a rfl (fun j a=> ?_) (fun j a=> ?_)
 ·refine Ab<|h _ _ ?_
  refine Aa fun x k=>Ai<|Ad<|rn 2 rfl<|kC a fun d a=>rI (Rd.shp hl') d rfl<|rE (Aw hl') d 0 rfl<|rn 1 rfl<|kB a fun y m a=>rc _ (cF Zp) (Jw N (l'[c.toNat]!) (l'[(((l'.length:Int) - 1)).toNat]!) _ m)<|Af<|aB a rfl (fun n a=> ?_) (fun n a=> ?_)
  ·refine AZ rfl ?_
   cases a
   exact aR eV1
  refine Ab<|k _ _ ?_
  refine Ag<|rn 1 rfl<|kC a fun o a=>rX o rfl<|rz rfl<|fg _ (Sub.of suN) ?_
  exact⟨b+1,by omega,b,(c+1),a,Ah rfl rfl,rfl⟩
 refine AI<|g _ _ ?_
 refine AZ rfl ?_
 cases a
 exact aR eV1
def FK(a:Bool):Option Int:=if a=true then some 7 else some 0
def EL(N:Nat)(m:Ao)(c:Int)(a:Int):Option Int:=if c=0 then(CK N m.2.2.1).bind fun b=>if a<0 then some 5 else if a≥(b.length:Int)then some 5 else ck (0≤a∧a<(b.length:Int)) (ck (0≤(b[a.toNat]!).1∧(b[a.toNat]!).1<(m.2.2.1.length:Int)) (if(((m.2.2.1)[((b[a.toNat]!).1).toNat]!).2.2:Int)≠0 then some 5 else some 0))else if c=1 then(CT N m a).bind fun d=>if d.2.2=true then some 0 else some 5 else if(c:Int)≠2 then some 10 else if a<1 then FK true else FK (decide (a>64))
theorem PA(N m x_0 x_1 r)(a:EL N m x_0 x_1=some r)(ro)(mv:AD)(hm:Aa1 ro mv m):Does prog 136 #[vA (Ac m mv),vA #[vI x_0,vI x_1]] ro [] (pV (vI r)):=by
 unfold EL at a
 refine Al follows func136 rfl 63 rfl _ fz2 (fun z=> ?_)
 refine Ad<|rA rfl fun F=>rA rfl fun G=>rz rfl<|Aa fun U A=>AY [0] rfl<|aE a rfl (fun B a=> ?_) (fun B a=> ?_)
 ·refine Ad<|rm 2 [1] rfl<|kB a fun H C a=>gS (Ls:=[(aA G x_0 x_1),[(F,35,(Ac m mv))]]) (cF TV) (fun o w z_=>HK N m.2.2.1 _ C z_.view mv.2.1 ((Aw hm.2.1) o w z_)) (fun D E f=> ?_)
  refine rz rfl<|Aa fun J j=>Aa fun K b=>IE [] (by decide+kernel) (fun V=>AQ)<|rm 4 [0] rfl ?_
  rcases g:(decide (x_1<0))with _|_
  ·replace a:=iF g a
   refine rn 1 rfl<|r_y rfl<|rm 2 [0] rfl<|r_y rfl<|rL (Sl.shp f) rfl<|rn 3 rfl ?_
   rcases h:(decide (x_1≥(H.length:Int)))with _|_
   ·replace a:=iF h a
    refine rn 1 rfl<|r_y rfl<|rm 3 [1] rfl<|r_y rfl<|rm 1 [0] rfl<|r_y rfl<|kC a fun c a=>rI (Sl.shp f) c rfl<|r_y rfl<|r_W (elA D (x_1.toNat*2+0)) rfl (Ef (fy 0 rfl rfl rfl rfl (Sl.shp f) (Be c) (by decide)))<|r_y rfl<|rE (Ax f (Ak (Ls:=[(aA G x_0 x_1),[(F,35,(Ac m mv))],E]) (k:=2) rfl rfl)) c 0 rfl<|r_y rfl<|kC a fun d a=>rI (Rd.shp hm.2.1) d rfl<|r_y rfl<|rF (Rd.shp hm.2.1) (Be d) rfl<|r_y rfl<|rE (Aw hm.2.1) d 2 rfl<|rz rfl<|b _ _ ?_
    refine GQ [(38,vB (((((m.2.2.1)[((H[x_1.toNat]!).1).toNat]!).2.2:Int) !=0)))] rfl (fun T=> ?_)
    refine aN a rfl (fun l a=> ?_) (fun l a=> ?_)
    ·refine AZ rfl ?_
     cases a
     exact aR eV1
    refine Ab<|j _ _ ?_
    refine AZ rfl ?_
    cases a
    exact aR eV1
   replace a:=iD h a
   refine rz rfl<|b _ _ ?_
   refine GQ [(38,vB true)] rfl (fun T=> ?_)
   refine MP rfl ?_
   refine AZ rfl ?_
   cases a
   exact aR eV1
  replace a:=iD g a
  refine rz rfl<|b _ _ ?_
  refine GQ [(38,vB true)] rfl (fun T=> ?_)
  refine MP rfl ?_
  refine AZ rfl ?_
  cases a
  exact aR eV1
 refine Ab<|A _ _ ?_
 refine Aa fun L n=>AY [0] rfl<|aE a rfl (fun p a=> ?_) (fun p a=> ?_)
 ·refine Ad<|rm 3 [1,0] rfl<|kB a fun M q a=>gV _ (cF bY) (fun o w z_=>Kp N m x_1 _ q z_.view mv (Aa1.mono z_.ro_cell hm))<|rz rfl<|Aa fun O s=>AZ rfl<|Bf _ rfl (fun e=> ?_) (fun e=> ?_)
  ·replace a:=ifn (Bool.eq_false_iff.1 (Da e)) a
   refine AZ rfl ?_
   cases a
   exact aR eV1
  replace a:=ifp (Db e) a
  refine Ab<|s _ _ ?_
  refine AZ rfl ?_
  cases a
  exact aR eV1
 refine Ab<|n _ _ ?_
 refine Aa fun P t=>AY [0] rfl<|aN a rfl (fun u a=> ?_) (fun u a=> ?_)
 ·refine AZ rfl ?_
  cases a
  exact aR eV1
 refine Ab<|t _ _ ?_
 refine Aa fun Q v=>Aa fun R x=>Ag<|rm 4 [0] rfl<|AG 4 62 [] vB (fun b_=>FK b_=some r) (fun S a T=> ?_) (fun I=> ?_)
 ·unfold FK at a
  refine Af<|x _ _ ?_
  refine aB a rfl (fun y a=> ?_) (fun y a=> ?_)
  ·refine AZ rfl ?_
   cases a
   exact aR eV1
  refine Ab<|v _ _ ?_
  refine AZ rfl ?_
  cases a
  exact aR eV1
 rcases i:(decide (x_1<1))with _|_
 ·replace a:=iF i a
  refine rn 1 rfl<|r_y rfl<|rm 3 [0] rfl ?_
  exact I _ _ a rfl rfl
 replace a:=iD i a
 refine rn 4 rfl ?_
 exact I _ _ a rfl rfl
def Fc(a:Int)(b:Bool):Option (Int×Bool):=if b=true then some (a,true)else some (0,false)
def Fe(a:Int)(b:Bool):Option (Int×Bool):=if b=true then Fc a (decide (a≤64))else Fc a false
def Ff(a:Int)(b:Bool):Option (Int×Bool):=if b=true then Fe a (decide (a≥1))else Fe a false
def Fh(b:Int)(a:Int)(c:Bool):Option (Int×Bool):=if c=true then Ff a (decide (b≤1024))else Ff a false
def CW(N:Nat)(m:Ao)(c:Int)(a:Int)(b:Int):Option (Int×Bool):=if c=0 then(BW N m a b).bind fun e=>some (e.1,e.2)else if c=1 then(Ep N m a).bind fun d=>some (d.1,d.2)else if c=2 then Fh a b (decide (a≥0))else Fh a b false
theorem KY(N m k_0 k_1 k_2 r)(a:CW N m k_0 k_1 k_2=some r)(ro)(mv:AD)(hm:Aa1 ro mv m):Does prog 205 #[vA (Ac m mv),vA #[vI k_0,vI k_1,vI k_2]] ro [] (pV (vT #[vI r.1,vB r.2])):=by
 unfold CW at a
 refine Al follows func205 rfl 51 rfl _ fz2 (fun n=> ?_)
 refine Ad<|rA rfl fun D=>rA rfl fun p=>rz rfl<|Aa fun E q=>AY [0] rfl<|aE a rfl (fun s a=> ?_) (fun s a=> ?_)
 ·refine Ad<|rm 5 [1,0,0] rfl<|kB a fun F t a=>gV _ (cF Zo) (fun o w z_=>Ij N m k_1 k_2 _ t z_.view mv (Aa1.mono z_.ro_cell hm))<|rz rfl ?_
  cases a
  exact aR eV2
 refine Ab<|q _ _ ?_
 refine Aa fun y g=>AY [0] rfl<|aE a rfl (fun h a=> ?_) (fun h a=> ?_)
 ·refine Ad<|rm 3 [1,0] rfl<|kB a fun z i a=>gV _ (cF bU) (fun o w z_=>KZ N m k_1 _ i z_.view mv (Aa1.mono z_.ro_cell hm))<|rz rfl ?_
  cases a
  exact aR eV2
 refine Ab<|g _ _ ?_
 refine Aa fun A j=>Aa fun B k=>Ag<|rm 4 [0] rfl<|AG 4 33 [(3,vP p 0)] vB (fun b_=>Fh k_1 k_2 b_=some r) (fun u a T=> ?_) (fun b=> ?_)
 ·unfold Fh at a
  refine rn 1 rfl<|AG 4 38 [(3,vP p 0)] vB (fun b_=>Ff k_2 b_=some r) (fun v a T=> ?_) (fun b=> ?_)
  ·unfold Ff at a
   refine rn 1 rfl<|AG 4 43 [(3,vP p 0)] vB (fun b_=>Fe k_2 b_=some r) (fun x a T=> ?_) (fun b=> ?_)
   ·unfold Fe at a
    refine rn 1 rfl<|AG 4 48 [(3,vP p 0)] vB (fun b_=>Fc k_2 b_=some r) (fun C a T=> ?_) (fun b=> ?_)
    ·unfold Fc at a
     refine Af<|k _ _ ?_
     refine aB a rfl (fun l a=> ?_) (fun l a=> ?_)
     ·refine AY [0] rfl ?_
      cases a
      exact aR eV2
     refine Ab<|j _ _ ?_
     refine AZ rfl ?_
     cases a
     exact aR eV2
    rcases c:x with _|_
    ·replace a:=iB c a
     refine rn 4 rfl ?_
     exact b _ _ a rfl rfl
    replace a:=ifp c a
    refine rn 1 rfl<|r_y rfl<|rm 3 [0] rfl ?_
    exact b _ _ a rfl rfl
   rcases d:v with _|_
   ·replace a:=iB d a
    refine rn 4 rfl ?_
    exact b _ _ a rfl rfl
   replace a:=ifp d a
   refine rn 1 rfl<|r_y rfl<|rm 3 [0] rfl ?_
   exact b _ _ a rfl rfl
  rcases e:u with _|_
  ·replace a:=iB e a
   refine rn 4 rfl ?_
   exact b _ _ a rfl rfl
  replace a:=ifp e a
  refine rn 1 rfl<|r_y rfl<|rm 3 [0] rfl ?_
  exact b _ _ a rfl rfl
 rcases f:(k_0==2)with _|_
 ·replace a:=iG f a
  refine rn 4 rfl ?_
  exact b _ _ a rfl rfl
 replace a:=iE f a
 refine rn 1 rfl<|r_y rfl<|rm 3 [0] rfl ?_
 exact b _ _ a rfl rfl
def Er(b:Int)(c:Int)(a:Int→Int→Option (Int×Bool))(d:Int×Bool)(e:Bool):Option (Int×Bool):=if e=true then some (0,false)else ck (R64 (b+d.1)) (ck (R64 (c+1)) (a (b+d.1) (c+1)))
def Es(b:Int)(d:Int)(a:Int→Int→Option (Int×Bool))(c:Int×Bool)(e:Bool):Option (Int×Bool):=if e=true then Er b d a c true else ck (R64 (128 - b)) (Er b d a c (decide (c.1>(128 - b))))
def AT(N:Nat)(m:Ao)(b:List (Int×Int×Int)):Nat→Int→Int→Option (Int×Bool)
  |0,_,_=>none
  |e+1,d,a=>if a<(b.length:Int)then ck (0≤a∧a<(b.length:Int)) ((CW N m ((b[a.toNat]!).1) ((b[a.toNat]!).2.1) ((b[a.toNat]!).2.2)).bind fun c=>if c.2=true then Es d a (AT N m b e) c (decide (c.1<1))else Es d a (AT N m b e) c true)else some (d,true)
def Gk(N:Nat)(m:Ao)(a:List (Int×Int×Int)):Option (Int×Bool):=AT N m a N 0 0
theorem LG(N m l' r)(a:Gk N m l'=some r)(ro)(mv:AD)(hm:Aa1 ro mv m)(l'v)(hl':Rd Ac9 ro l'v l'):Does prog 138 #[vA (Ac m mv),l'v] ro [] (pV (vT #[vI r.1,vB r.2])):=by
 unfold Gk at a
 refine Al follows func138 rfl 41 rfl _ fz2 (fun z=> ?_)
 refine Ad<|rA rfl fun A=>rz rfl<|AZ rfl<|Aa fun K B=>AZ rfl<|Ai<|AH (fun tt ll nn=> ∃(e:Nat) (c:Int) (b:Int),(AT N m l' e c b=some r)∧Is [(1,l'v),(2,vP A 0),(6,vI c),(7,vI b)] [(A,35,(Ac m mv))] tt ll∧nn=e+1) (N+1) ?_ ?_
 ·exact⟨N,0,0,a,Ah rfl rfl,rfl⟩
 clear a;rintro t l _ ⟨e,c,b,a,⟨⟨T,rfl⟩,rfl⟩,rfl⟩
 rcases e with _|e
 ·exact absurd a (by simp [AT])
 rw [AT] at a
 refine Aa fun L C=>Ad<|rn 2 rfl<|rL (Rd.shp hl') rfl<|rz rfl<|aD a rfl (fun D a=> ?_) (fun D a=> ?_)
 ·refine Ab<|C _ _ ?_
  refine Aa fun F j=>Ai<|Aa fun G k=>BE [(some 22,false)] (conG prog [(22,cV (CW N m ((l'[b.toNat]!).1) ((l'[b.toNat]!).2.1) ((l'[b.toNat]!).2.2)) fun n=>vT #[vI n.1,vB n.2])]) [] (by decide+kernel) (fun M=>AQ)<|rm 3 [0] rfl<|kC a fun f a=>rI (Rd.shp hl') f rfl<|rE (Aw hl') f 0 rfl<|kB a fun d g a=>rg _ (cF bX) (fun o w z_=>KY N m ((l'[b.toNat]!).1) ((l'[b.toNat]!).2.1) ((l'[b.toNat]!).2.2) _ g z_.view mv (Aa1.mono z_.ro_cell hm)) (Ha g)<|rz rfl<|k _ _ ?_
  refine Aa fun H p=>Aa fun I q=>Ag<|rn 3 rfl<|AG 3 30 [(1,l'v),(2,vP A 0),(6,vI c),(7,vI b),(8,vI d.1)] vB (fun b_=>Es c b (AT N m l' e) d b_=some r) (fun E a T=> ?_) (fun s=> ?_)
  ·unfold Es at a
   refine rn 1 rfl<|AG 5 36 [(1,l'v),(2,vP A 0),(6,vI c),(7,vI b),(8,vI d.1)] vB (fun b_=>Er c b (AT N m l' e) d b_=some r) (fun J a T=> ?_) (fun s=> ?_)
   ·unfold Er at a
    refine Af<|q _ _ ?_
    refine aB a rfl (fun u a=> ?_) (fun u a=> ?_)
    ·refine AZ rfl ?_
     cases a
     exact aR eV2
    refine Ab<|p _ _ ?_
    refine Ag<|rn 2 rfl<|kC a fun v a=>rX v rfl<|rz rfl<|j _ _ ?_
    refine Ag<|rn 1 rfl<|kC a fun x a=>rX x rfl<|rz rfl<|fg _ (Sub.of (suK _ suN)) ?_
    exact⟨e+1,by omega,e,(c+d.1),(b+1),a,Ah rfl rfl,rfl⟩
   rcases h:E with _|_
   ·replace a:=iB h a
    refine rn 2 rfl<|r_y rfl<|kC a fun y a=>rX y rfl<|rn 2 rfl ?_
    exact s _ _ a rfl rfl
   replace a:=ifp h a
   refine rn 5 rfl ?_
   exact s _ _ a rfl rfl
  rcases i:(!(d.2))with _|_
  ·replace a:=ifp (Db i) a
   refine rn 3 rfl ?_
   exact s _ _ a rfl rfl
  replace a:=ifn (Bool.eq_false_iff.1 (Da i)) a
  refine rn 3 rfl ?_
  exact s _ _ a rfl rfl
 refine AI<|B _ _ ?_
 refine AZ rfl ?_
 cases a
 exact aR eV2
def Ek(b:Int)(a:Int→Option Int)(c:Bool):Option Int:=if c=true then some 7 else ck (R64 (b+1)) (a (b+1))
def El(d:List (Int×Int×Int))(b:Int)(a:Int→Option Int)(c:Int×Bool)(e:Bool):Option Int:=if e=true then some 7 else if c.2=true then if((d[b.toNat]!).1:Int)=1 then Ek b a ((((d[b.toNat]!).2.2:Int) !=0))else Ek b a false else some 5
def CU(N:Nat)(m:Ao)(c:List (Int×Int×Int))(b:Int)(a:Int→Option Int)(e:Bool):Option Int:=if e=true then some 10 else(CW N m ((c[b.toNat]!).1) ((c[b.toNat]!).2.1) ((c[b.toNat]!).2.2)).bind fun d=>if d.2=true then El c b a d false else El c b a d ((((c[b.toNat]!).1:Int)==2))
def Em(N:Nat)(m:Ao)(c:List (Int×Int×Int))(d:Bool)(b:Int)(a:Int→Option Int)(e:Bool):Option Int:=if e=true then if((c[b.toNat]!).1:Int)=2 then CU N m c b a (!(d))else CU N m c b a true else CU N m c b a false
def AJ(N:Nat)(m:Ao)(c:List (Int×Int×Int))(a:Bool):Nat→Int→Option Int
  |0,_=>none
  |d+1,b=>if b<(c.length:Int)then ck (0≤b∧b<(c.length:Int)) (if((c[b.toNat]!).1:Int)≠0 then Em N m c a b (AJ N m c a d) ((((c[b.toNat]!).1:Int) !=1))else Em N m c a b (AJ N m c a d) false)else(Gk N m c).bind fun e=>if e.2=true then some 0 else some 9
def EK(N:Nat)(m:Ao)(b:List (Int×Int×Int))(a:Bool):Option Int:=if(b.length:Int)>4 then some 2 else AJ N m b a N 0
theorem LF(N m l' looks r)(a:EK N m l' looks=some r)(ro)(mv:AD)(hm:Aa1 ro mv m)(l'v)(hl':Rd Ac9 ro l'v l'):Does prog 137 #[vA (Ac m mv),l'v,vB looks] ro [] (pV (vI r)):=by
 unfold EK at a
 refine Al follows func137 rfl 74 rfl _ fz3 (fun L=> ?_)
 refine Ad<|rA rfl fun s=>rz rfl<|Aa fun K3 M=>Ad<|rn 1 rfl<|rL (Rd.shp hl') rfl<|rz rfl<|aD a rfl (fun O a=> ?_) (fun O a=> ?_)
 ·refine AZ rfl ?_
  cases a
  exact aR eV1
 refine Ab<|M _ _ ?_
 refine Aa fun K7 P=>AZ rfl<|Ai<|AH (fun tt ll nn=> ∃(d:Nat) (b:Int),(AJ N m l' looks d b=some r)∧Is [(1,l'v),(2,vB looks),(3,vP s 0),(7,vI b)] [(s,35,(Ac m mv))] tt ll∧nn=d+1) (N+1) ?_ ?_
 ·exact⟨N,0,a,Ah rfl rfl,rfl⟩
 clear a;rintro t l _ ⟨d,b,a,⟨⟨T,rfl⟩,rfl⟩,rfl⟩
 rcases d with _|d
 ·exact absurd a (by simp [AJ])
 rw [AJ] at a
 refine Aa fun R u=>Ad<|rn 2 rfl<|rL (Rd.shp hl') rfl<|rz rfl<|aD a rfl (fun v a=> ?_) (fun v a=> ?_)
 ·refine Ab<|u _ _ ?_
  refine Aa fun S x=>Ai<|Ad<|rn 2 rfl<|kC a fun g a=>rI (Rd.shp hl') g rfl<|rE (Aw hl') g 0 rfl<|rA rfl fun p=>ry [0] rfl<|Aa fun U y=>Aa fun V z=>Ag<|rm 4 [0] rfl ?_
  refine AG 4 33 [(1,l'v),(2,vB looks),(3,vP s 0),(7,vI b),(8,vP p 0)] vB (fun b_=>Em N m l' looks b (AJ N m l' looks d) b_=some r) (fun Q a T=> ?_) (fun c=> ?_)
  ·unfold Em at a
   refine rn 1 rfl<|AG 8 42 [(1,l'v),(2,vB looks),(3,vP s 0),(7,vI b),(8,vP p 0)] vB (fun b_=>CU N m l' b (AJ N m l' looks d) b_=some r) (fun W a T=> ?_) (fun c=> ?_)
   ·unfold CU at a
    refine Af<|z _ _ ?_
    refine aB a rfl (fun A a=> ?_) (fun A a=> ?_)
    ·refine AZ rfl ?_
     cases a
     exact aR eV1
    refine Ab<|y _ _ ?_
    refine Ad<|rm 2 [1,0] rfl<|kB a fun q B a=>gV _ (cF bX) (fun o w z_=>KY N m ((l'[b.toNat]!).1) ((l'[b.toNat]!).2.1) ((l'[b.toNat]!).2.2) _ B z_.view mv (Aa1.mono z_.ro_cell hm))<|rz rfl<|Aa fun X C=>Aa fun Y D=>Ag<|rn 3 rfl ?_
    refine AG 4 55 [(1,l'v),(2,vB looks),(3,vP s 0),(7,vI b),(8,vP p 0),(10,vB q.2)] vB (fun b_=>El l' b (AJ N m l' looks d) q b_=some r) (fun Z a T=> ?_) (fun c=> ?_)
    ·unfold El at a
     refine Af<|D _ _ ?_
     refine aB a rfl (fun E a=> ?_) (fun E a=> ?_)
     ·refine AZ rfl ?_
      cases a
      exact aR eV1
     refine Ab<|C _ _ ?_
     refine Aa fun aa F=>AZ rfl<|Bf _ rfl (fun e=> ?_) (fun e=> ?_)
     ·replace a:=ifn (Bool.eq_false_iff.1 (Da e)) a
      refine AZ rfl ?_
      cases a
      exact aR eV1
     replace a:=ifp (Db e) a
     refine Ab<|F _ _ ?_
     refine Aa fun ab G=>Ag<|rm 4 [0] rfl<|AG 4 65 [(1,l'v),(2,vB looks),(3,vP s 0),(7,vI b)] vB (fun b_=>Ek b (AJ N m l' looks d) b_=some r) (fun ac a T=> ?_) (fun c=> ?_)
     ·unfold Ek at a
      refine Af<|G _ _ ?_
      refine aB a rfl (fun H a=> ?_) (fun H a=> ?_)
      ·refine AZ rfl ?_
       cases a
       exact aR eV1
      refine Ab<|x _ _ ?_
      refine Ag<|rn 1 rfl<|kC a fun I a=>rX I rfl<|rz rfl<|fg _ (Sub.of (suC _ (suK _ suN))) ?_
      exact⟨d+1,by omega,d,(b+1),a,Ah rfl rfl,rfl⟩
     rcases h:((((l'[b.toNat]!).1:Int)==1))with _|_
     ·replace a:=iG h a
      refine rn 4 rfl ?_
      exact c _ _ a rfl rfl
     replace a:=iE h a
     refine rn 1 rfl<|r_y rfl<|rm 3 [0] rfl ?_
     exact c _ _ a rfl rfl
    rcases i:(!(q.2))with _|_
    ·replace a:=ifp (Db i) a
     refine rn 4 rfl ?_
     exact c _ _ a rfl rfl
    replace a:=ifn (Bool.eq_false_iff.1 (Da i)) a
    refine rn 1 rfl<|r_y rfl<|rm 3 [0] rfl ?_
    exact c _ _ a rfl rfl
   rcases j:Q with _|_
   ·replace a:=iB j a
    refine rn 4 rfl<|BR rfl rfl<|rn 3 rfl ?_
    exact c _ _ a rfl rfl
   replace a:=ifp j a
   refine rn 1 rfl<|r_y rfl<|rm 3 [0] rfl ?_
   rcases k:((((l'[b.toNat]!).1:Int)==2))with _|_
   ·replace a:=iG k a
    refine rn 4 rfl ?_
    exact c _ _ a rfl rfl
   replace a:=iE k a
   refine rn 4 rfl ?_
   exact c _ _ a rfl rfl
  rcases n:((((l'[b.toNat]!).1:Int) !=0))with _|_
  ·replace a:=iM n a
   refine rn 4 rfl ?_
   exact c _ _ a rfl rfl
  replace a:=iN n a
  refine rn 1 rfl<|r_y rfl<|rm 3 [0] rfl ?_
  exact c _ _ a rfl rfl
 refine AI<|P _ _ ?_
 refine Ad<|rm 2 [0] rfl<|kB a fun ad J a=>gV _ (cF cm) (fun o w z_=>LG N m l' _ J z_.view mv (Aa1.mono z_.ro_cell hm) l'v ((Aw hl') o w z_))<|rz rfl<|Aa fun ae K=>AZ rfl<|Bf _ rfl (fun f=> ?_) (fun f=> ?_)
 ·replace a:=ifn (Bool.eq_false_iff.1 (Da f)) a
  refine AZ rfl ?_
  cases a
  exact aR eV1
 replace a:=ifp (Db f) a
 refine Ab<|K _ _ ?_
 refine AZ rfl ?_
 cases a
 exact aR eV1
def GK(c:BitVec 128)(d:List Bool)(b:Int)(a:List Bool→Int→Option (List Bool))(e:Bool):Option (List Bool):=if e=true then ck (0≤b∧b<128) (ck ((d).length+([((hi c)++(lo c)).getLsbD (b.toNat)]).length≤140737488355328) (ck (R64 (b+1)) (a ((d++([((hi c)++(lo c)).getLsbD (b.toNat)]))) (b+1))))else some d
def BP(c:Int)(a:BitVec 128):Nat→List Bool→Int→Option (List Bool)
  |0,_,_=>none
  |e+1,d,b=>if b<c then GK a d b (BP c a e) (decide (b<128))else GK a d b (BP c a e) false
def EG(N:Nat)(b:Int)(a:BitVec 128):Option (List Bool):=BP b a N ([]) 0
theorem MC(N v_0 v_1 r)(a:EG N v_0 v_1=some r)(ro:Ro):Does prog 208 #[vA #[vI v_0,U (hi v_1),U (lo v_1)]] ro [] (p1 (fun s_=>s_) 4 PE r):=by
 unfold EG at a
 refine Al follows func208 rfl 28 rfl _ fz1 (fun B=> ?_)
 refine Ad<|rA rfl fun h=>rz rfl<|Ad<|rm 4 [0,0] rfl<|rc _ (cF bW) (uT (hi v_1) (lo v_1))<|r_a (314,CJ (BitVec.getLsbD (0#128))) rfl rfl ((ol eu).trans (congrArg (fun x=>some (314,x)) ZT)) (fun g=> ?_) (.inr rfl)
 refine r_s [(g,314,CJ (BitVec.getLsbD ((hi v_1)++(lo v_1)))),(h,51, #[vI v_0,U (hi v_1),U (lo v_1)])] 0 _ _ _ _ _ (CJ (BitVec.getLsbD ((hi v_1)++(lo v_1)))) rfl rfl rfl rfl (WQ rfl rfl _ _) (Tf _ _) rfl<|Af<|AZ rfl<|Aa fun M C=>AZ rfl<|Ai<|Bw _ (Sub.pickE (Ls:=[[(g,314,CJ (BitVec.getLsbD ((hi v_1)++(lo v_1))))],(AN h v_0 (hi v_1) (lo v_1)),[]]) (Ls0:=[[(g,314,CJ (BitVec.getLsbD ((hi v_1)++(lo v_1))))],(AN h v_0 (hi v_1) (lo v_1))]) rfl [0,1,2] rfl) ?_
 refine AH (fun tt ll nn=> ∃(j:Nat) (i:List Bool) (d:Int),(BP v_0 v_1 j i d=some r)∧ ∃(f:Value) (e:List Bl),Sl 4 PE f i e∧Is [(1,vP h 0),(3,vP g 0),(4,f),(5,vI d)] (List.flatten [[(g,314,CJ (BitVec.getLsbD ((hi v_1)++(lo v_1))))],(AN h v_0 (hi v_1) (lo v_1)),e]) tt ll∧nn=j+1) (N+1) ?_ ?_
 ·exact⟨N,[],0,a,nS,[],Sl.nil,Ah rfl rfl,rfl⟩
 clear a;rintro t l _ ⟨j,i,d,a,f,e,m,⟨⟨T,rfl⟩,rfl⟩,rfl⟩
 rcases j with _|j
 ·exact absurd a (by simp [BP])
 rw [BP] at a
 refine Aa fun O D=>Aa fun I u=>Ag<|rm 5 [1] rfl<|AG 3 18 [(1,vP h 0),(3,vP g 0),(4,f),(5,vI d)] vB (fun b_=>GK v_1 i d (BP v_0 v_1 j) b_=some r) (fun J a T=> ?_) (fun H=> ?_)
 ·unfold GK at a
  refine Af<|u _ _ ?_
  refine aB a rfl (fun v a=> ?_) (fun v a=> ?_)
  ·refine Ab<|D _ _ ?_
   refine Aa fun K w=>Ai<|Ag<|rn 2 rfl<|kC a fun y a=> ?_
   have n:=fun c=>Ef (RV (P:=prog) (c:=c) (t:=314) (b:=g) (off:=0) (k:= .i64) rfl rfl rfl y)
   simp only [q6] at n
   have q:d.toNat<128:=by omega
   refine r_W (Value.pointer (some ⟨g,d.toNat,none⟩)) rfl (n _)<|r_l (vB (((hi v_1)++(lo v_1)).getLsbD (d.toNat))) 0 _ _ _ _ rfl rfl rfl rfl (TN rfl _ q)<|gB (Ls:=[[(g,314,CJ (BitVec.getLsbD ((hi v_1)++(lo v_1))))],(AN h v_0 (hi v_1) (lo v_1)),e]) 4 PE [((hi v_1)++(lo v_1)).getLsbD (d.toNat)] (fun L s E=> ?_)
   refine kC a fun o a=>cC 26<|Li (cs0:=[]) (Ls:=[[(g,314,CJ (BitVec.getLsbD ((hi v_1)++(lo v_1))))],(AN h v_0 (hi v_1) (lo v_1)),e,s]) 2 (En:=PE) rfl rfl rfl rfl rfl m rfl (Ax E (Ak (Ls:=[[(g,314,CJ (BitVec.getLsbD ((hi v_1)++(lo v_1))))],(AN h v_0 (hi v_1) (lo v_1)),e,s]) (k:=3) rfl rfl)) rfl rfl rfl rfl rfl (LE o rfl) (LD o rfl) rfl (fun F z G=> ?_)
   refine rz rfl<|w _ _ ?_
   refine Ag<|rn 1 rfl<|kC a fun A a=>rX A rfl<|rz rfl<|fg _ (Sub.pick [[(g,314,CJ (BitVec.getLsbD ((hi v_1)++(lo v_1))))],(AN h v_0 (hi v_1) (lo v_1)),z,s] [0,1,2] rfl) ?_
   exact⟨j+1,by omega,j,(i++([((hi v_1)++(lo v_1)).getLsbD (d.toNat)])),(d+1),a,F,z,G,Ah rfl rfl,rfl⟩
  refine AI<|C _ _ ?_
  refine AZ rfl ?_
  cases a
  refine Bb (fun Q=>Hw (v0:=f) m (EH (Sub.pick [[(g,314,CJ (BitVec.getLsbD ((hi v_1)++(lo v_1))))],(AN h v_0 (hi v_1) (lo v_1)),e] [2] rfl)) rfl (EJ rfl))
 rcases p:(decide (d<v_0))with _|_
 ·replace a:=iF p a
  refine rn 3 rfl ?_
  exact H _ _ a rfl rfl
 replace a:=iD p a
 refine rn 3 rfl ?_
 exact H _ _ a rfl rfl
def Hp(d:List Bool)(b:Int)(c:BitVec 128)(a:Int→BitVec 128→Option (Int×(BitVec 128)))(e:Bool):Option (Int×(BitVec 128)):=if e=true then ck (0≤b∧b<(d.length:Int)) (ck (0≤b∧b<128) (ck (R64 (b+1)) (a (b+1) (ZO c (b.toNat) (d[b.toNat]!)))))else some ((d.length:Int),c)
def Cj(b:List Bool):Nat→Int→BitVec 128→Option (Int×(BitVec 128))
  |0,_,_=>none
  |d+1,a,c=>if a<(b.length:Int)then Hp b a c (Cj b d) (decide (a<128))else Hp b a c (Cj b d) false
def GT(N:Nat)(a:List Bool):Option (Int×(BitVec 128)):=Cj a N 0 (0#128)
theorem Lb(N l' r)(e:GT N l'=some r)(ro l'v)(hl':Rd PE ro l'v l'):Does prog 209 #[l'v] ro [] (pV (vA #[vI r.1,U (hi r.2),U (lo r.2)])):=by
 unfold GT at e
 refine Al follows func209 rfl 33 rfl _ fz1 (fun s=> ?_)
 refine Ad<|rA rfl fun u=>Af<|Ad<|r_a (314,CJ (BitVec.getLsbD (0#128))) rfl rfl ((ol eu).trans (congrArg (fun x=>some (314,x)) ZT)) (fun m=> ?_) (.inr rfl)
 refine Af<|Aa fun D v=>AZ rfl<|Ai<|AH (fun tt ll nn=> ∃(g:Nat) (a:Int) (d:BitVec 128),(Cj l' g a d=some r)∧Is [(0,l'v),(2,vP u 0),(3,vP m 0),(4,vI a)] [(m,314,CJ (BitVec.getLsbD d)),(u,51, #[vI 0,U (0#64),U (0#64)])] tt ll∧nn=g+1) (N+1) ?_ ?_
 ·exact⟨N,0,0#128,e,Ah rfl (by first|rfl|simp only [Bo]),rfl⟩
 clear e;rintro t l _ ⟨g,a,d,e,⟨⟨T,rfl⟩,rfl⟩,rfl⟩
 rcases g with _|g
 ·exact absurd e (by simp [Cj])
 rw [Cj] at e
 refine Aa fun E w=>Aa fun F y=>Ag<|rn 2 rfl<|rL (Rd.shp hl') rfl<|rn 2 rfl<|AG 3 14 [(0,l'v),(2,vP u 0),(3,vP m 0),(4,vI a)] vB (fun b_=>Hp l' a d (Cj l' g) b_=some r) (fun A e T=> ?_) (fun z=> ?_)
 ·unfold Hp at e
  refine Af<|y _ _ ?_
  refine aB e rfl (fun n e=> ?_) (fun n e=> ?_)
  ·refine Ab<|w _ _ ?_
   refine Aa fun B o=>Ai<|Ag<|rn 3 rfl<|kC e fun h e=>rI (Rd.shp hl') h rfl<|rE (Aw hl') h 0 rfl<|kC e fun p e=> ?_
   have i:=fun c=>Ef (RV (P:=prog) (c:=c) (t:=314) (b:=m) (off:=0) (k:= .i64) rfl rfl rfl p)
   simp only [q6] at i
   have f:a.toNat<128:=by omega
   refine r_W (Value.pointer (some ⟨m,a.toNat,none⟩)) rfl (i _)<|r_s [(m,314,CJ (BitVec.getLsbD (ZO d (a.toNat) (l'[a.toNat]!)))),(u,51, #[vI 0,U (0#64),U (0#64)])] 0 _ _ _ _ _ (CJ (BitVec.getLsbD (ZO d (a.toNat) (l'[a.toNat]!)))) rfl rfl rfl rfl (Sr rfl rfl _ _ f) ((PG _ _ _).trans (gj _ _ _ f)) rfl<|Af<|o _ _ ?_
   refine Ag<|rn 1 rfl<|kC e fun q e=>rX q rfl<|rz rfl<|fg _ (Sub.of (suK _ (suK _ suN))) ?_
   exact⟨g+1,by omega,g,(a+1),ZO d (a.toNat) (l'[a.toNat]!),e,Ah rfl (by first|rfl|simp only [Bo]),rfl⟩
  refine AI<|v _ _ ?_
  refine Ad<|r_l (vA (CJ (BitVec.getLsbD d))) 0 _ _ _ _ rfl rfl rfl rfl (Yj rfl rfl rfl _)<|rc _ (cF lG) (kn d)<|rz rfl<|Ad<|rn 1 rfl<|rL (Rd.shp hl') rfl<|r_R [U (hi d),U (lo d)] rfl<|r_W (vA #[vI (l'.length:Int),U (hi d),U (lo d)]) rfl (Ap rfl rfl rfl rfl) ?_
  refine ry [1] rfl ?_
  cases e
  refine Bb (fun C=>fB (v0:=vA #[vI (l'.length:Int),U (hi d),U (lo d)]) rfl (EJ (Bh C 1 rfl rfl rfl)))
 rcases j:(decide (a<(l'.length:Int)))with _|_
 ·replace e:=iF j e
  refine rn 3 rfl ?_
  exact z _ _ e rfl rfl
 replace e:=iD j e
 refine rn 3 rfl ?_
 exact z _ _ e rfl rfl
def Fq(c:List Bool)(d:Int)(a:List Bool→Bool→Int→Option (Int×(BitVec 128)×Int))(e:Int)(b:Bool):Option (Int×(BitVec 128)×Int):=ck ((c).length+([b]).length≤140737488355328) (ck (R64 (d+1)) (a (c++([b])) (decide (e≥2)) (d+1)))
def Eb(h:List UInt8)(g:List Bool)(b:List Bool)(c:Int)(a:List Bool→Bool→Int→Option (Int×(BitVec 128)×Int))(f:Bool)(e:Int)(d:Bool):Option (Int×(BitVec 128)×Int):=if h=([120,111,114]:List UInt8)then Fq b c a e ((g[c.toNat]!) !=f)else Fq b c a e d
def Ec(h:List UInt8)(e:List Bool)(b:List Bool)(f:Int)(a:List Bool→Bool→Int→Option (Int×(BitVec 128)×Int))(c:Bool)(d:Int)(g:Bool):Option (Int×(BitVec 128)×Int):=if h=([111,114]:List UInt8)then if(e[f.toNat]!)=true then Eb h e b f a c d true else Eb h e b f a c d c else Eb h e b f a c d g
def Fr(g:List UInt8)(e:List Bool)(c:List Bool)(f:Int)(a:List Bool→Bool→Int→Option (Int×(BitVec 128)×Int))(d:Bool)(b:Int):Option (Int×(BitVec 128)×Int):=ck (0≤b∧b≤9223372036854775807) (if g=([97,110,100]:List UInt8)then if(e[f.toNat]!)=true then Ec g e c f a d b d else Ec g e c f a d b false else Ec g e c f a d b ((b%2:Int)==1))
def Fs(h:List UInt8)(f:List Bool)(c:List Bool)(d:Bool)(g:Int)(a:List Bool→Bool→Int→Option (Int×(BitVec 128)×Int))(e:Bool)(b:Int):Option (Int×(BitVec 128)×Int):=if d=true then ck (R64 (b+1)) (Fr h f c g a e (b+1))else Fr h f c g a e b
def Fu(h:List UInt8)(f:List Bool)(e:List Bool)(b:Bool)(g:Int)(a:List Bool→Bool→Int→Option (Int×(BitVec 128)×Int))(d:Bool)(c:Int):Option (Int×(BitVec 128)×Int):=if d=true then ck (R64 (c+1)) (Fs h f e b g a d (c+1))else Fs h f e b g a d c
def Fw(g:List UInt8)(d:List Bool)(c:List Bool)(b:Bool)(e:Int)(a:List Bool→Bool→Int→Option (Int×(BitVec 128)×Int))(f:Bool):Option (Int×(BitVec 128)×Int):=if(d[e.toNat]!)=true then Fu g d c b e a f 1 else Fu g d c b e a f 0
def Fp(h:List UInt8)(e:List Bool)(f:List Bool)(d:List Bool)(b:Bool)(c:Int)(a:List Bool→Bool→Int→Option (Int×(BitVec 128)×Int))(g:Bool):Option (Int×(BitVec 128)×Int):=if g=true then Fw h e d b c a (!(f[c.toNat]!))else Fw h e d b c a (f[c.toNat]!)
def Fm(b:Int)(a:List Bool→Int→Option (Int×(BitVec 128)×Int))(c:List Bool)(d:Bool):Option (Int×(BitVec 128)×Int):=if d=true then ck (0≤b∧b<(c.length:Int)) (ck (R64 (b+1)) (a ((c).set (b.toNat) false) (b+1)))else ck (R64 (b+1)) (a c (b+1))
def Fo(e:List UInt8)(d:Bool)(c:Int)(a:List Bool→Int→Option (Int×(BitVec 128)×Int))(b:List Bool):Option (Int×(BitVec 128)×Int):=if e=([115,117,98,115,97,116]:List UInt8)then Fm c a b d else Fm c a b false
def Fl(f:List UInt8)(d:Bool)(b:List Bool)(c:Int)(a:List Bool→Int→Option (Int×(BitVec 128)×Int))(e:Bool):Option (Int×(BitVec 128)×Int):=if e=true then ck (0≤c∧c<(b.length:Int)) (Fo f d c a ((b).set (c.toNat) true))else Fo f d c a b
def AO(N:Nat)(e:List UInt8)(b:Bool)(c:Bool):Nat→List Bool→Int→Option (Int×(BitVec 128)×Int)
  |0,_,_=>none
  |g+1,a,d=>if d<(a.length:Int)then if e=([97,100,100,115,97,116]:List UInt8)then Fl e b a d (AO N e b c g) c else Fl e b a d (AO N e b c g) false else(GT N a).bind fun f=>some (f.1,f.2,0)
def AB(N:Nat)(g:List UInt8)(d:List Bool)(f:List Bool)(c:Bool):Nat→List Bool→Bool→Int→Option (Int×(BitVec 128)×Int)
  |0,_,_,_=>none
  |h+1,e,a,b=>if b<(d.length:Int)then ck (0≤b∧b<(d.length:Int)) (ck (0≤b∧b<(f.length:Int)) (if g=([115,117,98]:List UInt8)then Fp g d f e a b (AB N g d f c h) true else Fp g d f e a b (AB N g d f c h) (g==([115,117,98,115,97,116]:List UInt8))))else AO N g c a N e 0
def He(N:Nat)(e:List UInt8)(b:List Bool)(c:List Bool)(a:Bool)(d:Bool):Option (Int×(BitVec 128)×Int):=AB N e b c a N ([]) d 0
def BB(N:Nat)(e:List UInt8)(d:List Bool)(c:List Bool):Nat→Bool→Bool→Int→Option (Int×(BitVec 128)×Int)
  |0,_,_,_=>none
  |g+1,b,f,a=>if a<(d.length:Int)then ck (0≤a∧a<(d.length:Int)) (ck (0≤a∧a<(c.length:Int)) (if(d[a.toNat]!)≠(c[a.toNat]!)then ck (0≤a∧a<(c.length:Int)) (ck (R64 (a+1)) ((BB N e d c g) (c[a.toNat]!) false (a+1)))else ck (R64 (a+1)) ((BB N e d c g) b f (a+1))))else if e=([101,113]:List UInt8)then(GT N ([f])).bind fun i=>some (i.1,i.2,0)else if e=([108,101,115,115]:List UInt8)then(GT N ([b])).bind fun h=>some (h.1,h.2,0)else if e=([115,117,98]:List UInt8)then He N e d c b true else He N e d c b (e==([115,117,98,115,97,116]:List UInt8))
def Gf(N:Nat)(g:List UInt8)(b:Int)(f:BitVec 128)(a:Int)(c:BitVec 128)(h:Bool):Option (Int×(BitVec 128)×Int):=if h=true then some (0,(0#64)++(0#64),1)else if(b:Int)≠a then some (0,(0#64)++(0#64),9)else(EG N b f).bind fun d=>(EG N a c).bind fun e=>BB N g d e N false true 0
def Ho(N:Nat)(f:List UInt8)(d:Int)(c:BitVec 128)(b:Int)(a:BitVec 128):Option (Int×(BitVec 128)×Int):=(Ck N d c).bind fun g=>if g=true then(Ck N b a).bind fun e=>Gf N f d c b a (!(e))else Gf N f d c b a true
theorem QV(N op a_0 a_1 b_0 b_1 r)(a:Ho N op a_0 a_1 b_0 b_1=some r):Gives prog 140 #[vS op,vA #[vI a_0,U (hi a_1),U (lo a_1)],vA #[vI b_0,U (hi b_1),U (lo b_1)]] (vT #[vA #[vI r.1,U (hi r.2.1),U (lo r.2.1)],vI r.2.2]):=by
 unfold Ho at a
 refine Av follows func140 rfl 156 rfl _ fz3 (fun cw=> ?_)
 refine Ad<|rA rfl fun b2=>rA rfl fun b3=>rA rfl fun h=>rz rfl<|Aa fun K5 cz=>Aa fun K6 da=>Ag<|rm 1 [2] rfl<|kB a fun r7 db a=>rc _ (cF OS) (Gx N a_0 a_1 _ db)<|rn 2 rfl<|AG 4 28 [(0,vS op),(4,vP b2 0),(5,vP b3 0),(6,vP h 0)] vB (fun b_=>Gf N op a_0 a_1 b_0 b_1 b_=some r) (fun b9 a T=> ?_) (fun Q=> ?_)
 ·unfold Gf at a
  refine Af<|da _ _ ?_
  refine aB a rfl (fun bl a=> ?_) (fun bl a=> ?_)
  ·refine Ad<|r_W (vA #[vI 0,U (0#64),U (0#64)]) rfl (Ap rfl rfl rfl rfl)<|ry [0] rfl ?_
   cases a
   refine Bb (fun W=>EC (v0:=vT #[vA #[vI 0,U (0#64),U (0#64)],vI 1]) (by first|rfl|(simp only [Bo];done)|simp only [Bo]) (Lg (Bh W 0 rfl rfl rfl) rfl))
  refine Ab<|cz _ _ ?_
  refine Aa fun dy bm=>AY [2,1] rfl<|aN a rfl (fun bn a=> ?_) (fun bn a=> ?_)
  ·refine Ad<|r_W (vA #[vI 0,U (0#64),U (0#64)]) rfl (Ap rfl rfl rfl rfl)<|ry [0] rfl ?_
   cases a
   refine Bb (fun W=>EC (v0:=vT #[vA #[vI 0,U (0#64),U (0#64)],vI 9]) (by first|rfl|(simp only [Bo];done)|simp only [Bo]) (Lg (Bh W 0 rfl rfl rfl) rfl))
  refine Ab<|bm _ _ ?_
  refine Aa fun dz bo=>BE [(some 37,false),(some 39,false)] (conG prog [(37,fun _ _ v_ L_ U_=> ∀X,EG N a_0 a_1=some X→(p1 (fun s_=>s_) 4 PE X) v_ L_ U_),(39,fun _ _ v_ L_ U_=> ∀X,EG N b_0 b_1=some X→(p1 (fun s_=>s_) 4 PE X) v_ L_ U_)]) [] (by decide+kernel) (fun W=>AQ)<|rm 1 [2] rfl<|kB a fun j ah a=>ZZ (Ls:=[(AN h 0 (0#64) (0#64)),(AN b3 b_0 (hi b_1) (lo b_1)),(AN b2 a_0 (hi a_1) (lo a_1))]) (fun E=>E) 4 PE j 208 _ rfl rfl rfl (cF bV) (fun o w z_=>MC N a_0 a_1 _ ah z_.view) (Ha ah) (fun E f S=> ?_)
  refine rm 1 [1] rfl<|kB a fun A ai a=>ZZ (Ls:=[(AN h 0 (0#64) (0#64)),(AN b3 b_0 (hi b_1) (lo b_1)),(AN b2 a_0 (hi a_1) (lo a_1)),f]) (fun F=>F) 4 PE A 208 _ rfl rfl rfl (cF bV) (fun o w z_=>MC N b_0 b_1 _ ai z_.view) (Ha ai) (fun F g V=> ?_)
  refine rz rfl<|bo _ _ ?_
  refine AZ rfl<|Aa fun ea bp=>AZ rfl<|Ai<|Bw _ (Sub.pick [(AN h 0 (0#64) (0#64)),(AN b3 b_0 (hi b_1) (lo b_1)),(AN b2 a_0 (hi a_1) (lo a_1)),f,g] [0,3,4] rfl)<|AH (fun tt ll nn=> ∃(L:Nat) (b:Bool) (B:Bool) (M:Int),(BB N op j A L b B M=some r)∧Is [(0,vS op),(6,vP h 0),(8,E),(9,F),(10,vB b),(11,vB B),(12,vI M)] (List.flatten [(AN h 0 (0#64) (0#64)),f,g]) tt ll∧nn=L+1) (N+1) ?_ ?_
  ·exact⟨N,false,true,0,a,Ah rfl (by first|rfl|simp only [Bo]),rfl⟩
  clear a;rintro t l _ ⟨L,b,B,M,a,⟨⟨T,rfl⟩,rfl⟩,rfl⟩
  rcases L with _|L
  ·exact absurd a (by simp [BB])
  rw [BB] at a
  refine Aa fun eb bq=>Ad<|rn 2 rfl<|rL (Sl.shp S) rfl<|rz rfl<|aD a rfl (fun br a=> ?_) (fun br a=> ?_)
  ·refine Ab<|bq _ _ ?_
   refine Aa fun ec aj=>Ai<|Aa fun ed bs=>IE [] (by decide+kernel) (fun W=>AQ)<|rn 2 rfl<|kC a fun ak a=>rI (Sl.shp S) ak rfl<|rE (Ax S (Ak (Ls:=[(AN h 0 (0#64) (0#64)),f,g]) (k:=1) rfl rfl)) ak 0 rfl<|rn 2 rfl<|kC a fun al a=>rI (Sl.shp V) al rfl<|rE (Ax V (Ak (Ls:=[(AN h 0 (0#64) (0#64)),f,g]) (k:=2) rfl rfl)) al 0 rfl<|r_W (vB ((j[M.toNat]!) !=(A[M.toNat]!))) rfl (bw rfl rfl rfl)<|Af<|bs _ _ ?_
   refine aN a rfl (fun bt a=> ?_) (fun bt a=> ?_)
   ·refine Ad<|rn 2 rfl<|kC a fun am a=>rI (Sl.shp V) am rfl<|rE (Ax V (Ak (Ls:=[(AN h 0 (0#64) (0#64)),f,g]) (k:=2) rfl rfl)) am 0 rfl<|rz rfl<|Ag<|rz rfl<|aj _ _ ?_
    refine Ag<|rn 1 rfl<|kC a fun bu a=>rX bu rfl<|rz rfl<|fg _ (Sub.pick [(AN h 0 (0#64) (0#64)),f,g] [0,1,2] rfl) ?_
    exact⟨L+1,by omega,L,A[M.toNat]!,false,(M+1),a,Ah rfl (by first|rfl|simp only [Bo]),rfl⟩
   refine Ab<|aj _ _ ?_
   refine Ag<|rn 1 rfl<|kC a fun bv a=>rX bv rfl<|rz rfl<|fg _ (Sub.pick [(AN h 0 (0#64) (0#64)),f,g] [0,1,2] rfl) ?_
   exact⟨L+1,by omega,L,b,B,(M+1),a,Ah rfl (by first|rfl|simp only [Bo]),rfl⟩
  refine AI<|bp _ _ ?_
  refine Aa fun ee bx=>Ad<|rn 1 rfl<|r_W (vB (op==([101,113]:List UInt8))) rfl (EY rfl rfl)<|Af<|aE a rfl (fun bz a=> ?_) (fun bz a=> ?_)
  ·refine Ad<|rn 1 rfl<|gB (Ls:=[(AN h 0 (0#64) (0#64)),f,g]) 4 PE [B] (fun dc dd de=> ?_)
   refine kB a fun au ca a=>gV _ (cF VL) (fun o w z_=>Lb N ([B]) _ ca z_.view dc ((Ax de (Ak (Ls:=[(AN h 0 (0#64) (0#64)),f,g,dd]) (k:=3) rfl rfl)) o w z_))<|ry [0] rfl ?_
   cases a
   refine Bb (fun W=>EC (v0:=vT #[vA #[vI au.1,U (hi au.2),U (lo au.2)],vI 0]) rfl (Lg (Bh W 0 rfl rfl rfl) rfl))
  refine Ab<|bx _ _ ?_
  refine Aa fun ef cb=>Ad<|rn 1 rfl<|r_W (vB (op==([108,101,115,115]:List UInt8))) rfl (EY rfl rfl)<|Af<|aE a rfl (fun cc a=> ?_) (fun cc a=> ?_)
  ·refine Ad<|rn 1 rfl<|gB (Ls:=[(AN h 0 (0#64) (0#64)),f,g]) 4 PE [b] (fun df dg dh=> ?_)
   refine kB a fun av cd a=>gV _ (cF VL) (fun o w z_=>Lb N ([b]) _ cd z_.view df ((Ax dh (Ak (Ls:=[(AN h 0 (0#64) (0#64)),f,g,dg]) (k:=3) rfl rfl)) o w z_))<|ry [0] rfl ?_
   cases a
   refine Bb (fun W=>EC (v0:=vT #[vA #[vI av.1,U (hi av.2),U (lo av.2)],vI 0]) rfl (Lg (Bh W 0 rfl rfl rfl) rfl))
  refine Ab<|cb _ _ ?_
  refine AZ rfl<|Aa fun eg ce=>Ag<|rn 1 rfl<|r_W (vB (op==([115,117,98]:List UInt8))) rfl (EY rfl rfl)<|rn 1 rfl<|AG 3 74 [(0,vS op),(6,vP h 0),(8,E),(9,F),(10,vB b),(13,nS)] vB (fun b_=>He N op j A b b_=some r) (fun di a T=> ?_) (fun Q=> ?_)
  ·unfold He at a
   refine rz rfl<|ce _ _ ?_
   refine Aa fun eh cf=>AZ rfl<|Ai<|Bw _ (Sub.pickE (Ls:=[(AN h 0 (0#64) (0#64)),f,g,[]]) (Ls0:=[(AN h 0 (0#64) (0#64)),f,g]) rfl [0,1,2,3] rfl) ?_
   refine AH (fun tt ll nn=> ∃(C:Nat) (m:List Bool) (d:Bool) (i:Int),(AB N op j A b C m d i=some r)∧ ∃(e:Value) (c:List Bl),Sl 4 PE e m c∧Is [(0,vS op),(6,vP h 0),(8,E),(9,F),(10,vB b),(13,e),(14,vB d),(15,vI i)] (List.flatten [(AN h 0 (0#64) (0#64)),f,g,c]) tt ll∧nn=C+1) (N+1) ?_ ?_
   ·exact⟨N,[],di,0,a,nS,[],Sl.nil,Ah rfl (by first|rfl|simp only [Bo]),rfl⟩
   clear a;rintro t l _ ⟨C,m,d,i,a,e,c,R,⟨⟨T,rfl⟩,rfl⟩,rfl⟩
   rcases C with _|C
   ·exact absurd a (by simp [AB])
   rw [AB] at a
   refine Aa fun ei cg=>Ad<|rn 2 rfl<|rL (Sl.shp S) rfl<|rz rfl<|aD a rfl (fun ch a=> ?_) (fun ch a=> ?_)
   ·refine Ab<|cg _ _ ?_
    refine Aa fun ej ci=>Ai<|Aa fun ek cj=>IE [] (by decide+kernel) (fun W=>AQ)<|rn 2 rfl<|kC a fun an a=>rI (Sl.shp S) an rfl<|rE (Ax S (Ak (Ls:=[(AN h 0 (0#64) (0#64)),f,g,c]) (k:=1) rfl rfl)) an 0 rfl<|rn 2 rfl<|kC a fun ao a=>rI (Sl.shp V) ao rfl<|rE (Ax V (Ak (Ls:=[(AN h 0 (0#64) (0#64)),f,g,c]) (k:=2) rfl rfl)) ao 0 rfl<|rz rfl<|cj _ _ ?_
    refine Cb (fun tt ll=> ∃(p:Bool),(Fw op j m d i (AB N op j A b C) p=some r)∧Is [(0,vS op),(6,vP h 0),(8,E),(9,F),(10,vB b),(13,e),(14,vB d),(15,vI i),(16,vB (j[i.toNat]!)),(17,vB p)] (List.flatten [(AN h 0 (0#64) (0#64)),f,g,c]) tt ll) ?_ ?_
    ·refine Aa fun dm aw=>Ag<|rn 1 rfl<|r_W (vB (op==([115,117,98]:List UInt8))) rfl (EY rfl rfl)<|rn 1 rfl<|AG 3 94 [(0,vS op),(6,vP h 0),(8,E),(9,F),(10,vB b),(13,e),(14,vB d),(15,vI i),(16,vB (j[i.toNat]!)),(17,vB (A[i.toNat]!))] vB (fun b_=>Fp op j A m d i (AB N op j A b C) b_=some r) (fun dn a T=> ?_) (fun Q=> ?_)
     ·unfold Fp at a
      refine Af<|aw _ _ ?_
      refine aB a rfl (fun ax a=> ?_) (fun ax a=> ?_)
      ·refine Ag<|rz rfl<|fg _ (Sub.pick [(AN h 0 (0#64) (0#64)),f,g,c] [0,1,2,3] rfl) ?_
       exact⟨!(A[i.toNat]!),a,Ah rfl (by first|rfl|simp only [Bo])⟩
      refine Ab<|fg _ (Sub.pick [(AN h 0 (0#64) (0#64)),f,g,c] [0,1,2,3] rfl) ?_
      exact⟨A[i.toNat]!,a,Ah rfl (by first|rfl|simp only [Bo])⟩
     rcases Y:(op==([115,117,98]:List UInt8))with _|_
     ·replace a:=iG Y a
      refine rn 1 rfl<|r_y rfl<|r_W (vB (op==([115,117,98,115,97,116]:List UInt8))) rfl (EY rfl rfl)<|rn 1 rfl ?_
      exact Q _ _ a rfl rfl
     replace a:=iE Y a
     refine rn 3 rfl ?_
     exact Q _ _ a rfl rfl
    clear a;rintro t l ⟨p,a,⟨T,rfl⟩,rfl⟩
    unfold Fw at a
    refine AZ rfl<|Cb (fun tt ll=> ∃(O:Int),(Fu op j m d i (AB N op j A b C) p O=some r)∧Is [(0,vS op),(6,vP h 0),(8,E),(9,F),(10,vB b),(13,e),(14,vB d),(15,vI i),(16,vB (j[i.toNat]!)),(17,vB p),(18,vI O)] (List.flatten [(AN h 0 (0#64) (0#64)),f,g,c]) tt ll) ?_ ?_
    ·refine AZ rfl<|aB a rfl (fun ay a=> ?_) (fun ay a=> ?_)
     ·refine Ag<|rn 1 rfl<|r_X (vI 1) rfl (KS rfl (by decide) (by decide)) rfl<|rz rfl<|fg _ (Sub.pick [(AN h 0 (0#64) (0#64)),f,g,c] [0,1,2,3] rfl) ?_
      exact⟨1,a,Ah rfl (by first|rfl|simp only [Bo])⟩
     refine Ab<|fg _ (Sub.pick [(AN h 0 (0#64) (0#64)),f,g,c] [0,1,2,3] rfl) ?_
     exact⟨0,a,Ah rfl (by first|rfl|simp only [Bo])⟩
    clear a;rintro t l ⟨O,a,⟨T,rfl⟩,rfl⟩
    unfold Fu at a
    refine Cb (fun tt ll=> ∃(P:Int),(Fs op j m d i (AB N op j A b C) p P=some r)∧Is [(0,vS op),(6,vP h 0),(8,E),(9,F),(10,vB b),(13,e),(14,vB d),(15,vI i),(16,vB (j[i.toNat]!)),(17,vB p),(18,vI P)] (List.flatten [(AN h 0 (0#64) (0#64)),f,g,c]) tt ll) ?_ ?_
    ·refine AZ rfl<|aB a rfl (fun ck a=> ?_) (fun ck a=> ?_)
     ·refine Ag<|rn 1 rfl<|kC a fun cl a=>rX cl rfl<|rz rfl<|fg _ (Sub.pick [(AN h 0 (0#64) (0#64)),f,g,c] [0,1,2,3] rfl) ?_
      exact⟨(O+1),a,Ah rfl (by first|rfl|simp only [Bo])⟩
     refine Ab<|fg _ (Sub.pick [(AN h 0 (0#64) (0#64)),f,g,c] [0,1,2,3] rfl) ?_
     exact⟨O,a,Ah rfl (by first|rfl|simp only [Bo])⟩
    clear a;rintro t l ⟨P,a,⟨T,rfl⟩,rfl⟩
    unfold Fs at a
    refine Cb (fun tt ll=> ∃(y:Int),(Fr op j m i (AB N op j A b C) p y=some r)∧Is [(0,vS op),(6,vP h 0),(8,E),(9,F),(10,vB b),(13,e),(15,vI i),(16,vB (j[i.toNat]!)),(17,vB p),(18,vI y)] (List.flatten [(AN h 0 (0#64) (0#64)),f,g,c]) tt ll) ?_ ?_
    ·refine AZ rfl<|aB a rfl (fun cm a=> ?_) (fun cm a=> ?_)
     ·refine Ag<|rn 1 rfl<|kC a fun cn a=>rX cn rfl<|rz rfl<|fg _ (Sub.pick [(AN h 0 (0#64) (0#64)),f,g,c] [0,1,2,3] rfl) ?_
      exact⟨(P+1),a,Ah rfl (by first|rfl|simp only [Bo])⟩
     refine Ab<|fg _ (Sub.pick [(AN h 0 (0#64) (0#64)),f,g,c] [0,1,2,3] rfl) ?_
     exact⟨P,a,Ah rfl (by first|rfl|simp only [Bo])⟩
    clear a;rintro t l ⟨y,a,⟨T,rfl⟩,rfl⟩
    unfold Fr at a
    refine Ad<|rn 1 rfl<|kC a fun co a=>r_X (vI (y%2)) rfl (RA co.1) rfl<|rz rfl<|AZ rfl<|Cb (fun tt ll=> ∃(H:Bool),(Ec op j m i (AB N op j A b C) p y H=some r)∧Is [(0,vS op),(6,vP h 0),(8,E),(9,F),(10,vB b),(13,e),(14,vB (decide (y≥2))),(15,vI i),(16,vB (j[i.toNat]!)),(17,vB p),(19,vB H)] (List.flatten [(AN h 0 (0#64) (0#64)),f,g,c]) tt ll) ?_ ?_
    ·refine Ad<|rn 1 rfl<|r_W (vB (op==([97,110,100]:List UInt8))) rfl (EY rfl rfl)<|Af<|aE a rfl (fun cp a=> ?_) (fun cp a=> ?_)
     ·refine Ag<|rn 2 rfl ?_
      rcases J:(j[i.toNat]!)with _|_
      ·replace a:=iB J a
       refine rz rfl<|fg _ (Sub.pick [(AN h 0 (0#64) (0#64)),f,g,c] [0,1,2,3] rfl) ?_
       exact⟨false,a,Ah (by first|rfl|(simp only [J];done)|(simp only [J];rfl)|(simp only [Bo];rfl)) (by first|rfl|simp only [Bo])⟩
      replace a:=ifp J a
      refine rz rfl<|fg _ (Sub.pick [(AN h 0 (0#64) (0#64)),f,g,c] [0,1,2,3] rfl) ?_
      exact⟨p,a,Ah (by first|rfl|(simp only [J];done)|(simp only [J];rfl)|(simp only [Bo];rfl)) (by first|rfl|simp only [Bo])⟩
     refine Ab<|fg _ (Sub.pick [(AN h 0 (0#64) (0#64)),f,g,c] [0,1,2,3] rfl) ?_
     exact⟨((y%2:Int)==1),a,Ah rfl (by first|rfl|simp only [Bo])⟩
    clear a;rintro t l ⟨H,a,⟨T,rfl⟩,rfl⟩
    unfold Ec at a
    refine Cb (fun tt ll=> ∃(I:Bool),(Eb op j m i (AB N op j A b C) p y I=some r)∧Is [(0,vS op),(6,vP h 0),(8,E),(9,F),(10,vB b),(13,e),(14,vB (decide (y≥2))),(15,vI i),(16,vB (j[i.toNat]!)),(17,vB p),(19,vB I)] (List.flatten [(AN h 0 (0#64) (0#64)),f,g,c]) tt ll) ?_ ?_
    ·refine Ad<|rn 1 rfl<|r_W (vB (op==([111,114]:List UInt8))) rfl (EY rfl rfl)<|Af<|aE a rfl (fun cq a=> ?_) (fun cq a=> ?_)
     ·refine Ag<|rn 2 rfl ?_
      rcases K:(j[i.toNat]!)with _|_
      ·replace a:=iB K a
       refine rz rfl<|fg _ (Sub.pick [(AN h 0 (0#64) (0#64)),f,g,c] [0,1,2,3] rfl) ?_
       exact⟨p,a,Ah (by first|rfl|(simp only [K];done)|(simp only [K];rfl)|(simp only [Bo];rfl)) (by first|rfl|simp only [Bo])⟩
      replace a:=ifp K a
      refine rz rfl<|fg _ (Sub.pick [(AN h 0 (0#64) (0#64)),f,g,c] [0,1,2,3] rfl) ?_
      exact⟨true,a,Ah (by first|rfl|(simp only [K];done)|(simp only [K];rfl)|(simp only [Bo];rfl)) (by first|rfl|simp only [Bo])⟩
     refine Ab<|fg _ (Sub.pick [(AN h 0 (0#64) (0#64)),f,g,c] [0,1,2,3] rfl) ?_
     exact⟨H,a,Ah rfl (by first|rfl|simp only [Bo])⟩
    clear a;rintro t l ⟨I,a,⟨T,rfl⟩,rfl⟩
    unfold Eb at a
    refine Cb (fun tt ll=> ∃(D:Bool),(Fq m i (AB N op j A b C) y D=some r)∧Is [(0,vS op),(6,vP h 0),(8,E),(9,F),(10,vB b),(13,e),(14,vB (decide (y≥2))),(15,vI i),(19,vB D)] (List.flatten [(AN h 0 (0#64) (0#64)),f,g,c]) tt ll) ?_ ?_
    ·refine Ad<|rn 1 rfl<|r_W (vB (op==([120,111,114]:List UInt8))) rfl (EY rfl rfl)<|Af<|aE a rfl (fun cr a=> ?_) (fun cr a=> ?_)
     ·refine Ag<|rn 2 rfl<|r_W (vB ((j[i.toNat]!) !=p)) rfl (bw rfl rfl rfl)<|rz rfl<|fg _ (Sub.pick [(AN h 0 (0#64) (0#64)),f,g,c] [0,1,2,3] rfl) ?_
      exact⟨(j[i.toNat]!) !=p,a,Ah rfl (by first|rfl|simp only [Bo])⟩
     refine Ab<|fg _ (Sub.pick [(AN h 0 (0#64) (0#64)),f,g,c] [0,1,2,3] rfl) ?_
     exact⟨I,a,Ah rfl (by first|rfl|simp only [Bo])⟩
    clear a;rintro t l ⟨D,a,⟨T,rfl⟩,rfl⟩
    unfold Fq at a
    refine Ag<|rn 2 rfl<|gB (Ls:=[(AN h 0 (0#64) (0#64)),f,g,c]) 4 PE [D] (fun el az dj=> ?_)
    refine kC a fun ap a=>cC 131<|Li (cs0:=[]) (Ls:=[(AN h 0 (0#64) (0#64)),f,g,c,az]) 3 (En:=PE) rfl rfl rfl rfl rfl R rfl (Ax dj (Ak (Ls:=[(AN h 0 (0#64) (0#64)),f,g,c,az]) (k:=4) rfl rfl)) rfl rfl rfl rfl rfl (LE ap rfl) (LD ap rfl) rfl (fun dk cs dl=> ?_)
    refine rz rfl<|ci _ _ ?_
    refine Ag<|rn 1 rfl<|kC a fun ct a=>rX ct rfl<|rz rfl<|fg _ (Sub.pick [(AN h 0 (0#64) (0#64)),f,g,cs,az] [0,1,2,3] rfl) ?_
    exact⟨C+1,by omega,C,(m++([D])),decide (y≥2),(i+1),a,dk,cs,dl,Ah rfl (by first|rfl|simp only [Bo]),rfl⟩
   refine AI<|cf _ _ ?_
   refine Aa fun dp ba=>AZ rfl<|Ai<|Bw _ (Sub.pick [(AN h 0 (0#64) (0#64)),f,g,c] [0,3] rfl)<|AH (fun tt ll nn=> ∃(z:Nat) (q:List Bool) (s:Int),(AO N op b d z q s=some r)∧ ∃(n:List Bl),Sl 4 PE e q n∧Is [(0,vS op),(6,vP h 0),(10,vB b),(13,e),(14,vB d),(20,vI s)] (List.flatten [(AN h 0 (0#64) (0#64)),n]) tt ll∧nn=z+1) (N+1) ?_ ?_
   ·exact⟨N,m,0,a,c,R,Ah rfl (by first|rfl|simp only [Bo]),rfl⟩
   clear a;rintro t l _ ⟨z,q,s,a,n,x,⟨⟨T,rfl⟩,rfl⟩,rfl⟩
   rcases z with _|z
   ·exact absurd a (by simp [AO])
   rw [AO] at a
   refine Aa fun dq bb=>Ad<|rn 2 rfl<|rL (Sl.shp x) rfl<|rz rfl<|aD a rfl (fun bc a=> ?_) (fun bc a=> ?_)
   ·refine Ab<|bb _ _ ?_
    refine Aa fun dr Z=>Ai<|Cb (fun tt ll=> ∃(v:List Bool),(Fo op b s (AO N op b d z) v=some r)∧ ∃(u:List Bl),Sl 4 PE e v u∧Is [(0,vS op),(6,vP h 0),(10,vB b),(13,e),(14,vB d),(20,vI s)] (List.flatten [(AN h 0 (0#64) (0#64)),u]) tt ll) ?_ ?_
    ·refine Aa fun ds bd=>Ag<|rn 1 rfl<|r_W (vB (op==([97,100,100,115,97,116]:List UInt8))) rfl (EY rfl rfl)<|rn 1 rfl<|AG 2 142 [(0,vS op),(6,vP h 0),(10,vB b),(13,e),(14,vB d),(20,vI s)] vB (fun b_=>Fl op b q s (AO N op b d z) b_=some r) (fun dt a T=> ?_) (fun Q=> ?_)
     ·unfold Fl at a
      refine Af<|bd _ _ ?_
      refine aB a rfl (fun be a=> ?_) (fun be a=> ?_)
      ·refine Ag<|rn 2 rfl<|kC a fun aa a=>rI (Sl.shp x) aa rfl<|Rb (Ls:=[(AN h 0 (0#64) (0#64)),n]) 1 (En:=PE) (q[s.toNat]!) true (s.toNat) 0 rfl rfl rfl x (Dc aa) rfl rfl rfl (IP rfl) rfl (fun aq cu=> ?_)
       refine Af<|fg _ (Sub.pick [(AN h 0 (0#64) (0#64)),aq] [0,1] rfl) ?_
       exact⟨(q).set (s.toNat) true,a,aq,cu,Ah rfl (by first|rfl|simp only [Bo])⟩
      refine Ab<|fg _ (Sub.pick [(AN h 0 (0#64) (0#64)),n] [0,1] rfl) ?_
      exact⟨q,a,n,x,Ah rfl (by first|rfl|simp only [Bo])⟩
     rcases ab:(op==([97,100,100,115,97,116]:List UInt8))with _|_
     ·replace a:=iG ab a
      refine rn 2 rfl ?_
      exact Q _ _ a rfl rfl
     replace a:=iE ab a
     refine rn 2 rfl ?_
     exact Q _ _ a rfl rfl
    clear a;rintro t l ⟨v,a,u,G,⟨T,rfl⟩,rfl⟩
    unfold Fo at a
    refine Aa fun du bf=>Ag<|rn 1 rfl<|r_W (vB (op==([115,117,98,115,97,116]:List UInt8))) rfl (EY rfl rfl)<|rn 1 rfl<|AG 2 150 [(0,vS op),(6,vP h 0),(10,vB b),(13,e),(14,vB d),(20,vI s)] vB (fun b_=>Fm s (AO N op b d z) v b_=some r) (fun dv a T=> ?_) (fun Q=> ?_)
    ·unfold Fm at a
     refine Af<|bf _ _ ?_
     refine aB a rfl (fun bg a=> ?_) (fun bg a=> ?_)
     ·refine Ag<|rn 2 rfl<|kC a fun ac a=>rI (Sl.shp G) ac rfl<|Rb (Ls:=[(AN h 0 (0#64) (0#64)),u]) 1 (En:=PE) (v[s.toNat]!) false (s.toNat) 0 rfl rfl rfl G (Dc ac) rfl rfl rfl (IP rfl) rfl (fun ar cv=> ?_)
      refine Af<|Z _ _ ?_
      refine Ag<|rn 1 rfl<|kC a fun bh a=>rX bh rfl<|rz rfl<|fg _ (Sub.pick [(AN h 0 (0#64) (0#64)),ar] [0,1] rfl) ?_
      exact⟨z+1,by omega,z,(v).set (s.toNat) false,(s+1),a,ar,cv,Ah rfl (by first|rfl|simp only [Bo]),rfl⟩
     refine Ab<|Z _ _ ?_
     refine Ag<|rn 1 rfl<|kC a fun bi a=>rX bi rfl<|rz rfl<|fg _ (Sub.pick [(AN h 0 (0#64) (0#64)),u] [0,1] rfl) ?_
     exact⟨z+1,by omega,z,v,(s+1),a,u,G,Ah rfl (by first|rfl|simp only [Bo]),rfl⟩
    rcases ad:(op==([115,117,98,115,97,116]:List UInt8))with _|_
    ·replace a:=iG ad a
     refine rn 2 rfl ?_
     exact Q _ _ a rfl rfl
    replace a:=iE ad a
    refine rn 2 rfl ?_
    exact Q _ _ a rfl rfl
   refine AI<|ba _ _ ?_
   refine Ad<|rn 1 rfl<|kB a fun ae bj a=>gV _ (cF VL) (fun o w z_=>Lb N q _ bj z_.view e ((Ax x (Ak (Ls:=[(AN h 0 (0#64) (0#64)),n]) (k:=1) rfl rfl)) o w z_))<|ry [0] rfl ?_
   cases a
   refine Bb (fun W=>EC (v0:=vT #[vA #[vI ae.1,U (hi ae.2),U (lo ae.2)],vI 0]) rfl (Lg (Bh W 0 rfl rfl rfl) rfl))
  rcases af:(op==([115,117,98]:List UInt8))with _|_
  ·replace a:=iG af a
   refine rn 1 rfl<|r_y rfl<|r_W (vB (op==([115,117,98,115,97,116]:List UInt8))) rfl (EY rfl rfl)<|rn 1 rfl ?_
   exact Q _ _ a rfl rfl
  replace a:=iE af a
  refine rn 3 rfl ?_
  exact Q _ _ a rfl rfl
 rcases ag:(!(r7))with _|_
 ·replace a:=ifp (Db ag) a
  refine r_y rfl<|rm 1 [1] rfl<|r_y rfl<|kB a fun dw bk a=>rc _ (cF OS) (Gx N b_0 b_1 _ bk)<|rn 2 rfl ?_
  exact Q _ _ a rfl rfl
 replace a:=ifn (Bool.eq_false_iff.1 (Da ag)) a
 refine rn 4 rfl ?_
 exact Q _ _ a rfl rfl
end Go.Proofs.YtoolcgbcfgnipaaGreatDoor
