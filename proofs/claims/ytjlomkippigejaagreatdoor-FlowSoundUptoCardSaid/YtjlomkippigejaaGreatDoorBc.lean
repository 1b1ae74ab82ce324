import Derived.Test.YtjlomkippigejaaGreatDoorBb
namespace Go.Proofs.YtjlomkippigejaaGreatDoor
open Go Go.RowKit Go.Eng _root_.Go.Proofs.Tryz
set_option linter.unusedSimpArgs false
set_option linter.unusedVariables false
set_option maxRecDepth 100000
set_option maxHeartbeats 80000000
abbrev rp(b:Nat)(x0:W2)(x1:Value)(x2:Int)(x3:Int)(x4:Int)(x5:Int):List Bl:=[(b,94, #[vS x0,x1,vI x2,vI x3,vI x4,vI x5])]
abbrev cj(b:Nat)(x0:Int)(x1:Int):List Bl:=[(b,255, #[vI x0,vI x1])]
abbrev Om(b:Nat)(x0:Int)(x1:W4)(x2:W4):List Bl:=[(b,51, #[vI x0,U x1,U x2])]
def Vs(m:Ao)(c:List (W2))(a:Int)(b:List (W2)->Int->Option (List (W2)))(d:Bool):Option (List (W2)):=if d=true then ck (0<=a/\a<(m.2.2.2.2.2.2.2.2.2.2.2.2.2.2.1.length:Int)) (ck ((c).length+([((m.2.2.2.2.2.2.2.2.2.2.2.2.2.2.1)[a.toNat]!).1]).length<=8796093022208) (ck (R64 (a+1)) (b ((c++([((m.2.2.2.2.2.2.2.2.2.2.2.2.2.2.1)[a.toNat]!).1]))) (a+1))))else some c
def Nf(m:Ao)(a:Int):Nat->List (W2)->Int->Option (List (W2))
  |0,_,_=>none
  |c+1,d,b=>if b<(m.2.2.2.2.2.2.2.2.2.2.2.2.2.2.1.length:Int)then Vs m d b (Nf m a c) (a==14)else Vs m d b (Nf m a c) false
def Vt(N:Nat)(m:Ao)(d:Int)(c:List (W2))(a:Int)(b:List (W2)->Int->Option (List (W2)))(e:Bool):Option (List (W2)):=if e=true then ck (0<=a/\a<(m.2.2.2.2.2.2.2.2.2.2.2.2.2.1.length:Int)) (ck ((c).length+([((m.2.2.2.2.2.2.2.2.2.2.2.2.2.1)[a.toNat]!).1]).length<=8796093022208) (ck (R64 (a+1)) (b ((c++([((m.2.2.2.2.2.2.2.2.2.2.2.2.2.1)[a.toNat]!).1]))) (a+1))))else Nf m d N c 0
def Ng(N:Nat)(m:Ao)(a:Int):Nat->List (W2)->Int->Option (List (W2))
  |0,_,_=>none
  |d+1,c,b=>if b<(m.2.2.2.2.2.2.2.2.2.2.2.2.2.1.length:Int)then Vt N m a c b (Ng N m a d) (a==13)else Vt N m a c b (Ng N m a d) false
def Vu(N:Nat)(m:Ao)(d:Int)(c:List (W2))(a:Int)(b:List (W2)->Int->Option (List (W2)))(e:Bool):Option (List (W2)):=if e=true then ck (0<=a/\a<(m.2.2.2.2.2.2.2.2.2.2.2.2.1.length:Int)) (ck ((c).length+([((m.2.2.2.2.2.2.2.2.2.2.2.2.1)[a.toNat]!).1]).length<=8796093022208) (ck (R64 (a+1)) (b ((c++([((m.2.2.2.2.2.2.2.2.2.2.2.2.1)[a.toNat]!).1]))) (a+1))))else Ng N m d N c 0
def Nh(N:Nat)(m:Ao)(a:Int):Nat->List (W2)->Int->Option (List (W2))
  |0,_,_=>none
  |d+1,c,b=>if b<(m.2.2.2.2.2.2.2.2.2.2.2.2.1.length:Int)then Vu N m a c b (Nh N m a d) (a==12)else Vu N m a c b (Nh N m a d) false
def Vv(N:Nat)(m:Ao)(d:Int)(c:List (W2))(a:Int)(b:List (W2)->Int->Option (List (W2)))(e:Bool):Option (List (W2)):=if e=true then ck (0<=a/\a<(m.2.2.2.2.2.2.1.length:Int)) (ck ((c).length+([(m.2.2.2.2.2.2.1)[a.toNat]!.1]).length<=8796093022208) (ck (R64 (a+1)) (b (c++([(m.2.2.2.2.2.2.1)[a.toNat]!.1])) (a+1))))else Nh N m d N c 0
def Ni(N:Nat)(m:Ao)(a:Int):Nat->List (W2)->Int->Option (List (W2))
  |0,_,_=>none
  |d+1,c,b=>if b<(m.2.2.2.2.2.2.1.length:Int)then Vv N m a c b (Ni N m a d) (a==6)else Vv N m a c b (Ni N m a d) false
def Vw(N:Nat)(m:Ao)(d:Int)(c:List (W2))(a:Int)(b:List (W2)->Int->Option (List (W2)))(e:Bool):Option (List (W2)):=if e=true then ck (0<=a/\a<(m.2.2.2.2.2.1.length:Int)) (ck ((c).length+([(m.2.2.2.2.2.1)[a.toNat]!.1]).length<=8796093022208) (ck (R64 (a+1)) (b (c++([(m.2.2.2.2.2.1)[a.toNat]!.1])) (a+1))))else Ni N m d N c 0
def Nj(N:Nat)(m:Ao)(a:Int):Nat->List (W2)->Int->Option (List (W2))
  |0,_,_=>none
  |d+1,c,b=>if b<(m.2.2.2.2.2.1.length:Int)then Vw N m a c b (Nj N m a d) (a==5)else Vw N m a c b (Nj N m a d) false
def Vx(N:Nat)(m:Ao)(d:Int)(c:List (W2))(a:Int)(b:List (W2)->Int->Option (List (W2)))(e:Bool):Option (List (W2)):=if e=true then ck (0<=a/\a<(m.2.2.2.2.1.length:Int)) (ck ((c).length+([(m.2.2.2.2.1)[a.toNat]!.1]).length<=8796093022208) (ck (R64 (a+1)) (b (c++([(m.2.2.2.2.1)[a.toNat]!.1])) (a+1))))else Nj N m d N c 0
def Nk(N:Nat)(m:Ao)(a:Int):Nat->List (W2)->Int->Option (List (W2))
  |0,_,_=>none
  |d+1,c,b=>if b<(m.2.2.2.2.1.length:Int)then Vx N m a c b (Nk N m a d) (a==4)else Vx N m a c b (Nk N m a d) false
def eX(N:Nat)(m:Ao)(d:Int)(c:List (W2))(a:Int)(b:List (W2)->Int->Option (List (W2)))(e:Bool):Option (List (W2)):=if e=true then ck (0<=a/\a<(m.2.2.2.1.length:Int)) (ck ((c).length+([((m.2.2.2.1)[a.toNat]!).1]).length<=8796093022208) (ck (R64 (a+1)) (b ((c++([((m.2.2.2.1)[a.toNat]!).1]))) (a+1))))else Nk N m d N c 0
def Rz(N:Nat)(m:Ao)(a:Int):Nat->List (W2)->Int->Option (List (W2))
  |0,_,_=>none
  |d+1,c,b=>if b<(m.2.2.2.1.length:Int)then eX N m a c b (Rz N m a d) (a==3)else eX N m a c b (Rz N m a d) false
def eY(N:Nat)(m:Ao)(d:Int)(c:List (W2))(a:Int)(b:List (W2)->Int->Option (List (W2)))(e:Bool):Option (List (W2)):=if e=true then ck (0<=a/\a<(m.2.1.length:Int)) (ck ((c).length+([(m.2.1)[a.toNat]!.1]).length<=8796093022208) (ck (R64 (a+1)) (b (c++([(m.2.1)[a.toNat]!.1])) (a+1))))else Rz N m d N c 0
def Ty(N:Nat)(m:Ao)(a:Int):Nat->List (W2)->Int->Option (List (W2))
  |0,_,_=>none
  |d+1,c,b=>if b<(m.2.1.length:Int)then eY N m a c b (Ty N m a d) (a==1)else eY N m a c b (Ty N m a d) false
def rTm(N:Nat)(m:Ao)(a:Int):Option (List (W2)):=Ty N m a N ([]) 0
theorem rTg(N m b r)(a:rTm N m b=some r)(ro)(d:AB)(v:Aa1 ro d m):Does prog 45 #[vA (Ac m d),vI b] ro [] (p1 (λs_=>s_) 9 Aa3 r):=by
 unfold rTm at a
 refine Al follows func45 Z 175 Z _ fz2 (λek=> ?_)
 refine Ad<|rA Z λc=>rz Z<|AZ Z<|Aa λK4 el=>AZ Z<|Ai<|Bs _ (Sub.pickE (Ls:=[[(c,35,(Ac m d))],[]]) (Ls0:=[[(c,35,(Ac m d))]]) Z [0,1] Z)<|AH (λtt ll nn=> ∃(n6:Nat) (ae:List (W2)) (h:Int),(Ty N m b n6 ae h=some r)/\ ∃(R:Value) (y:List Bl),Sl 9 Aa3 R ae y/\Is [(1,vI b),(2,vP c 0),(5,R),(6,vI h)] (List.flatten [[(c,35,(Ac m d))],y]) tt ll/\nn=n6+1) (N+1) ?_ ?_
 ·exact⟨N,[],0,a,nS,[],Sl.nil,Ag Z Z,Z⟩
 clear a;rintro t l _ ⟨n6,ae,h,a,R,y,bk,⟨⟨T,rfl⟩,rfl⟩,rfl⟩
 rcases n6 with _|n6
 ·exact absurd a (by simp [Ty])
 rw [Ty] at a
 refine Aa λK7 em=>Aa λK8 en=>Ah<|rm 3 [0] Z<|rL (RdN.shp v.1) Z<|rn 2 Z<|AF 3 22 [(1,vI b),(2,vP c 0),(5,R),(6,vI h)] vB (λb_=>eY N m b ae h (Ty N m b n6) b_=some r) (λb9 a T=> ?_) (λF=> ?_)
 ·unfold eY at a
  refine Ak<|en _ _ ?_
  refine aB a Z (λct a=> ?_) (λct a=> ?_)
  ·refine Ab<|em _ _ ?_
   refine Aa λgq cu=>Ai<|Ah<|rm 4 [0] Z<|kC a λah a=> ?_
   obtain⟨_,⟨eo,fn,rfl⟩,hat15⟩:=RdN.at (E:=Ad5) v.1 (Dx ah)
   refine rI (RdN.shp v.1) ah Z<|rF (RdN.shp v.1) (Bf ah) Z<|Oe (vS ((m.2.1)[h.toNat]!.1)) (vs:=[vS ((m.2.1)[h.toNat]!.1),eo,vI ((m.2.1)[h.toNat]!.2.2.1),vI ((m.2.1)[h.toNat]!.2.2.2.1),vI ((m.2.1)[h.toNat]!.2.2.2.2.1),vI ((m.2.1)[h.toNat]!.2.2.2.2.2)]) (h.toNat*6) 0 Z Z (λo w z_=>At.mono z_.ro_cell hat15) Z<|cD 32 ?_
   refine Ke (cs0:=[]) (Ls:=[[(c,35,(Ac m d))],y]) 9 Aa3 [(m.2.1)[h.toNat]!.1] [vS ((m.2.1)[h.toNat]!.1)] [Value.string (⟨#[]⟩)] Z Z Z Z Z Z Z (by kernel_rfl) (by kernel_rfl) Z Z Z (λgr bv ep=> ?_)
   refine kC a λbl a=>cC 33<|LK (cs0:=[]) (Ls:=[[(c,35,(Ac m d))],y,bv]) 1 (En:=Aa3) Z Z Z Z Z bk Z (Ax ep (Aj (Ls:=[[(c,35,(Ac m d))],y,bv]) (k:=2) Z Z)) Z Z Z Z Z (Mf bl Z) (Me bl Z) Z (λer cv es=> ?_)
   refine rz Z<|cu _ _ ?_
   refine Ah<|rn 1 Z<|kC a λcw a=>rX cw Z<|rz Z<|fg _ (Sub.pick [[(c,35,(Ac m d))],cv,bv] [0,1] Z) ?_
   exact⟨n6+1,by omega,n6,(ae++([(m.2.1)[h.toNat]!.1])),(h+1),a,er,cv,es,Ag Z Z,Z⟩
  refine AG<|el _ _ ?_
  refine Aa λgs cx=>AZ Z<|Ai<|Bs _ (Sub.pick [[(c,35,(Ac m d))],y] [0,1] Z)<|AH (λtt ll nn=> ∃(S:Nat) (af:List (W2)) (Q:Int),(Rz N m b S af Q=some r)/\ ∃(U:Value) (z:List Bl),Sl 9 Aa3 U af z/\Is [(1,vI b),(2,vP c 0),(5,U),(7,vI Q)] (List.flatten [[(c,35,(Ac m d))],z]) tt ll/\nn=S+1) (N+1) ?_ ?_
  ·exact⟨N,ae,0,a,R,y,bk,Ag Z Z,Z⟩
  clear a;rintro t l _ ⟨S,af,Q,a,U,z,bm,⟨⟨T,rfl⟩,rfl⟩,rfl⟩
  rcases S with _|S
  ·exact absurd a (by simp [Rz])
  rw [Rz] at a
  refine Aa λgu cy=>Aa λgv cz=>Ah<|rm 3 [0] Z<|rL (Rd.shp v.2.2.1) Z<|rn 2 Z<|AF 3 42 [(1,vI b),(2,vP c 0),(5,U),(7,vI Q)] vB (λb_=>eX N m b af Q (Rz N m b S) b_=some r) (λgw a T=> ?_) (λF=> ?_)
  ·unfold eX at a
   refine Ak<|cz _ _ ?_
   refine aB a Z (λda a=> ?_) (λda a=> ?_)
   ·refine Ab<|cy _ _ ?_
    refine Aa λgx db=>Ai<|Ah<|rm 4 [0] Z<|kC a λai a=>rI (Rd.shp v.2.2.1) ai Z<|rF (Rd.shp v.2.2.1) (Bf ai) Z<|rE (Aw v.2.2.1) ai 0 Z<|gB (Ls:=[[(c,35,(Ac m d))],z]) 9 Aa3 [((m.2.2.2.1)[Q.toNat]!).1] (λgy bw et=> ?_)
    refine kC a λbn a=>cC 53<|LK (cs0:=[]) (Ls:=[[(c,35,(Ac m d))],z,bw]) 1 (En:=Aa3) Z Z Z Z Z bm Z (Ax et (Aj (Ls:=[[(c,35,(Ac m d))],z,bw]) (k:=2) Z Z)) Z Z Z Z Z (Mf bn Z) (Me bn Z) Z (λeu dc ev=> ?_)
    refine rz Z<|db _ _ ?_
    refine Ah<|rn 1 Z<|kC a λdd a=>rX dd Z<|rz Z<|fg _ (Sub.pick [[(c,35,(Ac m d))],dc,bw] [0,1] Z) ?_
    exact⟨S+1,by omega,S,(af++([((m.2.2.2.1)[Q.toNat]!).1])),(Q+1),a,eu,dc,ev,Ag Z Z,Z⟩
   refine AG<|cx _ _ ?_
   refine Aa λgz de=>AZ Z<|Ai<|Bs _ (Sub.pick [[(c,35,(Ac m d))],z] [0,1] Z)<|AH (λtt ll nn=> ∃(V:Nat) (ag:List (W2)) (f:Int),(Nk N m b V ag f=some r)/\ ∃(W:Value) (A:List Bl),Sl 9 Aa3 W ag A/\Is [(1,vI b),(2,vP c 0),(5,W),(8,vI f)] (List.flatten [[(c,35,(Ac m d))],A]) tt ll/\nn=V+1) (N+1) ?_ ?_
   ·exact⟨N,af,0,a,U,z,bm,Ag Z Z,Z⟩
   clear a;rintro t l _ ⟨V,ag,f,a,W,A,bo,⟨⟨T,rfl⟩,rfl⟩,rfl⟩
   rcases V with _|V
   ·exact absurd a (by simp [Nk])
   rw [Nk] at a
   refine Aa λha df=>Aa λhb dg=>Ah<|rm 3 [0] Z<|rL (RdN.shp v.2.2.2.1) Z<|rn 2 Z<|AF 3 62 [(1,vI b),(2,vP c 0),(5,W),(8,vI f)] vB (λb_=>Vx N m b ag f (Nk N m b V) b_=some r) (λhc a T=> ?_) (λF=> ?_)
   ·unfold Vx at a
    refine Ak<|dg _ _ ?_
    refine aB a Z (λdh a=> ?_) (λdh a=> ?_)
    ·refine Ab<|df _ _ ?_
     refine Aa λhd di=>Ai<|Ah<|rm 4 [0] Z<|kC a λaj a=> ?_
     obtain⟨_,⟨ew,ex,ey,fo,fp,fq,rfl⟩,hat56⟩:=RdN.at (E:=Ae1) v.2.2.2.1 (Dx aj)
     refine rI (RdN.shp v.2.2.2.1) aj Z<|rF (RdN.shp v.2.2.2.1) (Bf aj) Z<|Oe (vS ((m.2.2.2.2.1)[f.toNat]!.1)) (vs:=[vS ((m.2.2.2.2.1)[f.toNat]!.1),ew,ex,ey,vI ((m.2.2.2.2.1)[f.toNat]!.2.2.2.2)]) (f.toNat*5) 0 Z Z (λo w z_=>At.mono z_.ro_cell hat56) Z<|cD 72 ?_
     refine Ke (cs0:=[]) (Ls:=[[(c,35,(Ac m d))],A]) 9 Aa3 [(m.2.2.2.2.1)[f.toNat]!.1] [vS ((m.2.2.2.2.1)[f.toNat]!.1)] [Value.string (⟨#[]⟩)] Z Z Z Z Z Z Z (by kernel_rfl) (by kernel_rfl) Z Z Z (λhe bx ez=> ?_)
     refine kC a λbp a=>cC 73<|LK (cs0:=[]) (Ls:=[[(c,35,(Ac m d))],A,bx]) 1 (En:=Aa3) Z Z Z Z Z bo Z (Ax ez (Aj (Ls:=[[(c,35,(Ac m d))],A,bx]) (k:=2) Z Z)) Z Z Z Z Z (Mf bp Z) (Me bp Z) Z (λfa dj fb=> ?_)
     refine rz Z<|di _ _ ?_
     refine Ah<|rn 1 Z<|kC a λdk a=>rX dk Z<|rz Z<|fg _ (Sub.pick [[(c,35,(Ac m d))],dj,bx] [0,1] Z) ?_
     exact⟨V+1,by omega,V,(ag++([(m.2.2.2.2.1)[f.toNat]!.1])),(f+1),a,fa,dj,fb,Ag Z Z,Z⟩
    refine AG<|de _ _ ?_
    refine Aa λhf dl=>AZ Z<|Ai<|Bs _ (Sub.pick [[(c,35,(Ac m d))],A] [0,1] Z)<|AH (λtt ll nn=> ∃(X:Nat) (L:List (W2)) (g:Int),(Nj N m b X L g=some r)/\ ∃(G:Value) (i:List Bl),Sl 9 Aa3 G L i/\Is [(1,vI b),(2,vP c 0),(5,G),(9,vI g)] (List.flatten [[(c,35,(Ac m d))],i]) tt ll/\nn=X+1) (N+1) ?_ ?_
    ·exact⟨N,ag,0,a,W,A,bo,Ag Z Z,Z⟩
    clear a;rintro t l _ ⟨X,L,g,a,G,i,ak,⟨⟨T,rfl⟩,rfl⟩,rfl⟩
    rcases X with _|X
    ·exact absurd a (by simp [Nj])
    rw [Nj] at a
    refine Aa λhg dm=>Aa λhh dn=>Ah<|rm 3 [0] Z<|rL (RdN.shp v.2.2.2.2.1) Z<|rn 2 Z<|AF 3 82 [(1,vI b),(2,vP c 0),(5,G),(9,vI g)] vB (λb_=>Vw N m b L g (Nj N m b X) b_=some r) (λhi a T=> ?_) (λF=> ?_)
    ·unfold Vw at a
     refine Ak<|dn _ _ ?_
     refine aB a Z (λdp a=> ?_) (λdp a=> ?_)
     ·refine Ab<|dm _ _ ?_
      refine Aa λhj dq=>Ai<|Ah<|rm 4 [0] Z<|kC a λal a=> ?_
      obtain⟨_,⟨fc,fd,fr,fs,rfl⟩,hat78⟩:=RdN.at (E:=Ad7) v.2.2.2.2.1 (Dx al)
      refine rI (RdN.shp v.2.2.2.2.1) al Z<|rF (RdN.shp v.2.2.2.2.1) (Bf al) Z<|Oe (vS ((m.2.2.2.2.2.1)[g.toNat]!.1)) (vs:=[vS ((m.2.2.2.2.2.1)[g.toNat]!.1),fc,fd]) (g.toNat*3) 0 Z Z (λo w z_=>At.mono z_.ro_cell hat78) Z<|cD 92 ?_
      refine Ke (cs0:=[]) (Ls:=[[(c,35,(Ac m d))],i]) 9 Aa3 [(m.2.2.2.2.2.1)[g.toNat]!.1] [vS ((m.2.2.2.2.2.1)[g.toNat]!.1)] [Value.string (⟨#[]⟩)] Z Z Z Z Z Z Z (by kernel_rfl) (by kernel_rfl) Z Z Z (λhk bz fe=> ?_)
      refine kC a λbq a=>cC 93<|LK (cs0:=[]) (Ls:=[[(c,35,(Ac m d))],i,bz]) 1 (En:=Aa3) Z Z Z Z Z ak Z (Ax fe (Aj (Ls:=[[(c,35,(Ac m d))],i,bz]) (k:=2) Z Z)) Z Z Z Z Z (Mf bq Z) (Me bq Z) Z (λff dr fh=> ?_)
      refine rz Z<|dq _ _ ?_
      refine Ah<|rn 1 Z<|kC a λds a=>rX ds Z<|rz Z<|fg _ (Sub.pick [[(c,35,(Ac m d))],dr,bz] [0,1] Z) ?_
      exact⟨X+1,by omega,X,(L++([(m.2.2.2.2.2.1)[g.toNat]!.1])),(g+1),a,ff,dr,fh,Ag Z Z,Z⟩
     refine AG<|dl _ _ ?_
     refine Aa λhl dt=>AZ Z<|Ai<|Bs _ (Sub.pick [[(c,35,(Ac m d))],i] [0,1] Z)<|AH (λtt ll nn=> ∃(Y:Nat) (M:List (W2)) (e:Int),(Ni N m b Y M e=some r)/\ ∃(H:Value) (j:List Bl),Sl 9 Aa3 H M j/\Is [(1,vI b),(2,vP c 0),(5,H),(10,vI e)] (List.flatten [[(c,35,(Ac m d))],j]) tt ll/\nn=Y+1) (N+1) ?_ ?_
     ·exact⟨N,L,0,a,G,i,ak,Ag Z Z,Z⟩
     clear a;rintro t l _ ⟨Y,M,e,a,H,j,am,⟨⟨T,rfl⟩,rfl⟩,rfl⟩
     rcases Y with _|Y
     ·exact absurd a (by simp [Ni])
     rw [Ni] at a
     refine Aa λho du=>Aa λhp dv=>Ah<|rm 3 [0] Z<|rL (RdN.shp v.2.2.2.2.2.1) Z<|rn 2 Z<|AF 3 102 [(1,vI b),(2,vP c 0),(5,H),(10,vI e)] vB (λb_=>Vv N m b M e (Ni N m b Y) b_=some r) (λhq a T=> ?_) (λF=> ?_)
     ·unfold Vv at a
      refine Ak<|dv _ _ ?_
      refine aB a Z (λdw a=> ?_) (λdw a=> ?_)
      ·refine Ab<|du _ _ ?_
       refine Aa λhr dx=>Ai<|Ah<|rm 4 [0] Z<|kC a λan a=> ?_
       obtain⟨_,⟨fi,fj,fk,ft,fl,fm,rfl⟩,hat102⟩:=RdN.at (E:=Ae2) v.2.2.2.2.2.1 (Dx an)
       refine rI (RdN.shp v.2.2.2.2.2.1) an Z<|rF (RdN.shp v.2.2.2.2.2.1) (Bf an) Z<|Oe (vS ((m.2.2.2.2.2.2.1)[e.toNat]!.1)) (vs:=[vS ((m.2.2.2.2.2.2.1)[e.toNat]!.1),vI ((m.2.2.2.2.2.2.1)[e.toNat]!.2.1),fi,fj,vI ((m.2.2.2.2.2.2.1)[e.toNat]!.2.2.2.2.1),fk,vI ((m.2.2.2.2.2.2.1)[e.toNat]!.2.2.2.2.2.2)]) (e.toNat*7) 0 Z Z (λo w z_=>At.mono z_.ro_cell hat102) Z<|cD 112 ?_
       refine Ke (cs0:=[]) (Ls:=[[(c,35,(Ac m d))],j]) 9 Aa3 [(m.2.2.2.2.2.2.1)[e.toNat]!.1] [vS ((m.2.2.2.2.2.2.1)[e.toNat]!.1)] [Value.string (⟨#[]⟩)] Z Z Z Z Z Z Z (by kernel_rfl) (by kernel_rfl) Z Z Z (λfu ao dy=> ?_)
       refine kC a λap a=>cC 113<|LK (cs0:=[]) (Ls:=[[(c,35,(Ac m d))],j,ao]) 1 (En:=Aa3) Z Z Z Z Z am Z (Ax dy (Aj (Ls:=[[(c,35,(Ac m d))],j,ao]) (k:=2) Z Z)) Z Z Z Z Z (Mf ap Z) (Me ap Z) Z (λdz br ea=> ?_)
       refine rz Z<|dx _ _ ?_
       refine Ah<|rn 1 Z<|kC a λca a=>rX ca Z<|rz Z<|fg _ (Sub.pick [[(c,35,(Ac m d))],br,ao] [0,1] Z) ?_
       exact⟨Y+1,by omega,Y,(M++([(m.2.2.2.2.2.2.1)[e.toNat]!.1])),(e+1),a,dz,br,ea,Ag Z Z,Z⟩
      refine AG<|dt _ _ ?_
      refine Aa λfv cb=>AZ Z<|Ai<|Bs _ (Sub.pick [[(c,35,(Ac m d))],j] [0,1] Z)<|AH (λtt ll nn=> ∃(B:Nat) (O:List (W2)) (q:Int),(Nh N m b B O q=some r)/\ ∃(I:Value) (n:List Bl),Sl 9 Aa3 I O n/\Is [(1,vI b),(2,vP c 0),(5,I),(11,vI q)] (List.flatten [[(c,35,(Ac m d))],n]) tt ll/\nn=B+1) (N+1) ?_ ?_
      ·exact⟨N,M,0,a,H,j,am,Ag Z Z,Z⟩
      clear a;rintro t l _ ⟨B,O,q,a,I,n,aq,⟨⟨T,rfl⟩,rfl⟩,rfl⟩
      rcases B with _|B
      ·exact absurd a (by simp [Nh])
      rw [Nh] at a
      refine Aa λfw cc=>Aa λfx cd=>Ah<|rm 3 [0] Z<|rL (Rd.shp v.2.2.2.2.2.2.2.2.2.2.2.1) Z<|rn 2 Z<|AF 3 122 [(1,vI b),(2,vP c 0),(5,I),(11,vI q)] vB (λb_=>Vu N m b O q (Nh N m b B) b_=some r) (λfy a T=> ?_) (λF=> ?_)
      ·unfold Vu at a
       refine Ak<|cd _ _ ?_
       refine aB a Z (λce a=> ?_) (λce a=> ?_)
       ·refine Ab<|cc _ _ ?_
        refine Aa λfz cf=>Ai<|Ah<|rm 4 [0] Z<|kC a λab a=>rI (Rd.shp v.2.2.2.2.2.2.2.2.2.2.2.1) ab Z<|rF (Rd.shp v.2.2.2.2.2.2.2.2.2.2.2.1) (Bf ab) Z<|rE (Aw v.2.2.2.2.2.2.2.2.2.2.2.1) ab 0 Z<|cD 132 ?_
        refine Ke (cs0:=[]) (Ls:=[[(c,35,(Ac m d))],n]) 9 Aa3 [((m.2.2.2.2.2.2.2.2.2.2.2.2.1)[q.toNat]!).1] [vS (((m.2.2.2.2.2.2.2.2.2.2.2.2.1)[q.toNat]!).1)] [Value.string (⟨#[]⟩)] Z Z Z Z Z Z Z (by kernel_rfl) (by kernel_rfl) Z Z Z (λga ar eb=> ?_)
        refine kC a λau a=>cC 133<|LK (cs0:=[]) (Ls:=[[(c,35,(Ac m d))],n,ar]) 1 (En:=Aa3) Z Z Z Z Z aq Z (Ax eb (Aj (Ls:=[[(c,35,(Ac m d))],n,ar]) (k:=2) Z Z)) Z Z Z Z Z (Mf au Z) (Me au Z) Z (λec bs ed=> ?_)
        refine rz Z<|cf _ _ ?_
        refine Ah<|rn 1 Z<|kC a λcg a=>rX cg Z<|rz Z<|fg _ (Sub.pick [[(c,35,(Ac m d))],bs,ar] [0,1] Z) ?_
        exact⟨B+1,by omega,B,(O++([((m.2.2.2.2.2.2.2.2.2.2.2.2.1)[q.toNat]!).1])),(q+1),a,ec,bs,ed,Ag Z Z,Z⟩
       refine AG<|cb _ _ ?_
       refine Aa λgb ch=>AZ Z<|Ai<|Bs _ (Sub.pick [[(c,35,(Ac m d))],n] [0,1] Z)<|AH (λtt ll nn=> ∃(C:Nat) (P:List (W2)) (s:Int),(Ng N m b C P s=some r)/\ ∃(J:Value) (p:List Bl),Sl 9 Aa3 J P p/\Is [(1,vI b),(2,vP c 0),(5,J),(12,vI s)] (List.flatten [[(c,35,(Ac m d))],p]) tt ll/\nn=C+1) (N+1) ?_ ?_
       ·exact⟨N,O,0,a,I,n,aq,Ag Z Z,Z⟩
       clear a;rintro t l _ ⟨C,P,s,a,J,p,av,⟨⟨T,rfl⟩,rfl⟩,rfl⟩
       rcases C with _|C
       ·exact absurd a (by simp [Ng])
       rw [Ng] at a
       refine Aa λgc ci=>Aa λgd cj=>Ah<|rm 3 [0] Z<|rL (Rd.shp v.2.2.2.2.2.2.2.2.2.2.2.2.1) Z<|rn 2 Z<|AF 3 142 [(1,vI b),(2,vP c 0),(5,J),(12,vI s)] vB (λb_=>Vt N m b P s (Ng N m b C) b_=some r) (λgf a T=> ?_) (λF=> ?_)
       ·unfold Vt at a
        refine Ak<|cj _ _ ?_
        refine aB a Z (λck a=> ?_) (λck a=> ?_)
        ·refine Ab<|ci _ _ ?_
         refine Aa λgg cl=>Ai<|Ah<|rm 4 [0] Z<|kC a λac a=>rI (Rd.shp v.2.2.2.2.2.2.2.2.2.2.2.2.1) ac Z<|rF (Rd.shp v.2.2.2.2.2.2.2.2.2.2.2.2.1) (Bf ac) Z<|rE (Aw v.2.2.2.2.2.2.2.2.2.2.2.2.1) ac 0 Z<|cD 152 ?_
         refine Ke (cs0:=[]) (Ls:=[[(c,35,(Ac m d))],p]) 9 Aa3 [((m.2.2.2.2.2.2.2.2.2.2.2.2.2.1)[s.toNat]!).1] [vS (((m.2.2.2.2.2.2.2.2.2.2.2.2.2.1)[s.toNat]!).1)] [Value.string (⟨#[]⟩)] Z Z Z Z Z Z Z (by kernel_rfl) (by kernel_rfl) Z Z Z (λgh aw ee=> ?_)
         refine kC a λax a=>cC 153<|LK (cs0:=[]) (Ls:=[[(c,35,(Ac m d))],p,aw]) 1 (En:=Aa3) Z Z Z Z Z av Z (Ax ee (Aj (Ls:=[[(c,35,(Ac m d))],p,aw]) (k:=2) Z Z)) Z Z Z Z Z (Mf ax Z) (Me ax Z) Z (λef bt eg=> ?_)
         refine rz Z<|cl _ _ ?_
         refine Ah<|rn 1 Z<|kC a λcm a=>rX cm Z<|rz Z<|fg _ (Sub.pick [[(c,35,(Ac m d))],bt,aw] [0,1] Z) ?_
         exact⟨C+1,by omega,C,(P++([((m.2.2.2.2.2.2.2.2.2.2.2.2.2.1)[s.toNat]!).1])),(s+1),a,ef,bt,eg,Ag Z Z,Z⟩
        refine AG<|ch _ _ ?_
        refine Aa λgi cn=>AZ Z<|Ai<|Bs _ (Sub.pick [[(c,35,(Ac m d))],p] [0,1] Z)<|AH (λtt ll nn=> ∃(D:Nat) (aa:List (W2)) (u:Int),(Nf m b D aa u=some r)/\ ∃(K:Value) (x:List Bl),Sl 9 Aa3 K aa x/\Is [(1,vI b),(2,vP c 0),(5,K),(13,vI u)] (List.flatten [[(c,35,(Ac m d))],x]) tt ll/\nn=D+1) (N+1) ?_ ?_
        ·exact⟨N,P,0,a,J,p,av,Ag Z Z,Z⟩
        clear a;rintro t l _ ⟨D,aa,u,a,K,x,ay,⟨⟨T,rfl⟩,rfl⟩,rfl⟩
        rcases D with _|D
        ·exact absurd a (by simp [Nf])
        rw [Nf] at a
        refine Aa λgj co=>Aa λgk cp=>Ah<|rm 3 [0] Z<|rL (Rd.shp v.2.2.2.2.2.2.2.2.2.2.2.2.2) Z<|rn 2 Z<|AF 3 162 [(1,vI b),(2,vP c 0),(5,K),(13,vI u)] vB (λb_=>Vs m aa u (Nf m b D) b_=some r) (λgl a T=> ?_) (λF=> ?_)
        ·unfold Vs at a
         refine Ak<|cp _ _ ?_
         refine aB a Z (λcq a=> ?_) (λcq a=> ?_)
         ·refine Ab<|co _ _ ?_
          refine Aa λgm cr=>Ai<|Ah<|rm 4 [0] Z<|kC a λad a=>rI (Rd.shp v.2.2.2.2.2.2.2.2.2.2.2.2.2) ad Z<|rF (Rd.shp v.2.2.2.2.2.2.2.2.2.2.2.2.2) (Bf ad) Z<|rE (Aw v.2.2.2.2.2.2.2.2.2.2.2.2.2) ad 0 Z<|cD 172 ?_
          refine Ke (cs0:=[]) (Ls:=[[(c,35,(Ac m d))],x]) 9 Aa3 [((m.2.2.2.2.2.2.2.2.2.2.2.2.2.2.1)[u.toNat]!).1] [vS (((m.2.2.2.2.2.2.2.2.2.2.2.2.2.2.1)[u.toNat]!).1)] [Value.string (⟨#[]⟩)] Z Z Z Z Z Z Z (by kernel_rfl) (by kernel_rfl) Z Z Z (λgn az eh=> ?_)
          refine kC a λba a=>cC 173<|LK (cs0:=[]) (Ls:=[[(c,35,(Ac m d))],x,az]) 1 (En:=Aa3) Z Z Z Z Z ay Z (Ax eh (Aj (Ls:=[[(c,35,(Ac m d))],x,az]) (k:=2) Z Z)) Z Z Z Z Z (Mf ba Z) (Me ba Z) Z (λei bu ej=> ?_)
          refine rz Z<|cr _ _ ?_
          refine Ah<|rn 1 Z<|kC a λcs a=>rX cs Z<|rz Z<|fg _ (Sub.pick [[(c,35,(Ac m d))],bu,az] [0,1] Z) ?_
          exact⟨D+1,by omega,D,(aa++([((m.2.2.2.2.2.2.2.2.2.2.2.2.2.2.1)[u.toNat]!).1])),(u+1),a,ei,bu,ej,Ag Z Z,Z⟩
         refine AG<|cn _ _ ?_
         refine AZ Z ?_
         cases a
         refine Bh (λhn=>GZ (v0:=K) ay (Dy (Sub.pick [[(c,35,(Ac m d))],x] [1] Z)) Z (FZ Z))
        rcases bb:(decide (u<(m.2.2.2.2.2.2.2.2.2.2.2.2.2.2.1.length:Int)))with _|_
        ·replace a:=iF bb a
         refine rn 3 Z ?_
         exact F _ _ a Z Z
        replace a:=iD bb a
        refine rn 3 Z ?_
        exact F _ _ a Z Z
       rcases bc:(decide (s<(m.2.2.2.2.2.2.2.2.2.2.2.2.2.1.length:Int)))with _|_
       ·replace a:=iF bc a
        refine rn 3 Z ?_
        exact F _ _ a Z Z
       replace a:=iD bc a
       refine rn 3 Z ?_
       exact F _ _ a Z Z
      rcases bd:(decide (q<(m.2.2.2.2.2.2.2.2.2.2.2.2.1.length:Int)))with _|_
      ·replace a:=iF bd a
       refine rn 3 Z ?_
       exact F _ _ a Z Z
      replace a:=iD bd a
      refine rn 3 Z ?_
      exact F _ _ a Z Z
     rcases be:(decide (e<(m.2.2.2.2.2.2.1.length:Int)))with _|_
     ·replace a:=iF be a
      refine rn 3 Z ?_
      exact F _ _ a Z Z
     replace a:=iD be a
     refine rn 3 Z ?_
     exact F _ _ a Z Z
    rcases bf:(decide (g<(m.2.2.2.2.2.1.length:Int)))with _|_
    ·replace a:=iF bf a
     refine rn 3 Z ?_
     exact F _ _ a Z Z
    replace a:=iD bf a
    refine rn 3 Z ?_
    exact F _ _ a Z Z
   rcases bg:(decide (f<(m.2.2.2.2.1.length:Int)))with _|_
   ·replace a:=iF bg a
    refine rn 3 Z ?_
    exact F _ _ a Z Z
   replace a:=iD bg a
   refine rn 3 Z ?_
   exact F _ _ a Z Z
  rcases bh:(decide (Q<(m.2.2.2.1.length:Int)))with _|_
  ·replace a:=iF bh a
   refine rn 3 Z ?_
   exact F _ _ a Z Z
  replace a:=iD bh a
  refine rn 3 Z ?_
  exact F _ _ a Z Z
 rcases bi:(decide (h<(m.2.1.length:Int)))with _|_
 ·replace a:=iF bi a
  refine rn 3 Z ?_
  exact F _ _ a Z Z
 replace a:=iD bi a
 refine rn 3 Z ?_
 exact F _ _ a Z Z
def ER(d:List (W2×Int))(c:Int)(b:Int)(a:Int->Int->Option Int)(e:Bool):Option Int:=if e=true then some 9 else ck ((R64 (c+(d[b.toNat]!).2))) (ck (R64 (b+1)) (a (c+(d[b.toNat]!).2) (b+1)))
def Cu(N:Nat)(b:List (W2×Int))(e:Int)(c:Int)(a:Int->Int->Option Int):Nat->Int->Option Int
  |0,_=>none
  |f+1,d=>if d<c then ck (0<=d/\d<(b.length:Int)) ((Ey N ((b[d.toNat]!).1) ((b[c.toNat]!).1)).bind λg=>if g=true then some 6 else ck (R64 (d+1)) ((Cu N b e c a f) (d+1)))else if((b[c.toNat]!).2:Int)<1 then ER b e c a true else ER b e c a (decide (((b[c.toNat]!).2:Int)>128))
def Gi(a:Bool):Option Int:=if a=true then some 7 else some 0
def Cw(b:Int)(a:Bool):Option Int:=if a=true then Gi true else Gi (b !=0)
def FI(a:Bool):Option Int:=if a=true then some 7 else some 0
def Er(b:Int)(a:Bool):Option Int:=if a=true then FI true else FI (decide (b>4096))
def Es(a:Int)(b:Bool):Option Int:=if b=true then Er a true else Er a (decide (a<0))
def Et(c:Int)(a:Int)(b:Bool):Option Int:=if b=true then Es a true else Es a (decide (c>64))
def CY(a:Int)(b:Int)(c:Bool):Option Int:=if c=true then Et a b true else Et a b (decide (a<1))
def CZ(c:List (W2×Int))(a:Int)(b:Int)(d:Int)(e:Bool):Option Int:=if e=true then CY b d true else ck (0<=a/\a<(c.length:Int)) (CY b d (decide (((c[a.toNat]!).2:Int)>16)))
def Da(a:List (W2×Int))(b:Int)(c:Int)(d:Int)(e:Bool):Option Int:=if e=true then CZ a b c d true else CZ a b c d (decide (b>=(a.length:Int)))
def Cv(c:List (W2×Int))(a:Int)(b:Int)(d:Int)(e:Bool):Option Int:=if e=true then Da c a b d true else Da c a b d (decide (a<0))
def BL(N:Nat)(b:List (W2×Int))(g:Int)(f:Int)(e:Int)(d:Int):Nat->Int->Int->Option Int
  |0,_,_=>none
  |i+1,a,c=>if c<(b.length:Int)then ck (0<=c/\c<(b.length:Int)) ((Df N ((b[c.toNat]!).1)).bind λh=>if h=true then Cu N b a c (BL N b g f e d i) N 0 else some 4)else ck (0<=a/\a<=9223372036854775807) (if(a%8:Int)≠0 then some 9 else if g=0 then if(f:Int)≠0 then Cw d true else Cw d (e !=0)else if g<1 then Cv b f e d true else Cv b f e d (decide (g>64)))
def GG(N:Nat)(c:W2)(a:List (W2×Int))(e:Int)(d:Int)(b:Int)(f:Int):Option Int:=(Df N c).bind λg=>if g=true then if(a.length:Int)>16 then some 2 else if(a.length:Int)=0 then some 5 else BL N a e d b f N 0 0 else some 4
theorem Qj(N v d k i h f r)(a:GG N v d k i h f=some r)(ro n)(c:Rd Ab3 ro n d):Does prog 46 #[vA #[vS v,n,vI k,vI i,vI h,vI f]] ro [] (pV (vI r)):=by
 unfold GG at a
 refine Al follows func46 Z 131 Z _ fz1 (λaw=> ?_)
 refine Ad<|rA Z λo=>rz Z<|Aa λK3 ax=>Ad<|rm 2 [0] Z<|kB a λr5 ay a=>rc _ (cF UY) (Ip N v _ ay)<|rz Z<|BI _ Z (λI=> ?_) (λI=> ?_)
 ·replace a:=ifn (Bool.eq_false_iff.1 (Dk I)) a
  refine AZ Z ?_
  cases a
  exact aR eV1
 replace a:=ifp (Dl I) a
 refine Ab<|ax _ _ ?_
 refine Aa λK9 az=>Ad<|rm 2 [0] Z<|rL (Rd.shp c) Z<|rz Z<|aD a Z (λK a=> ?_) (λK a=> ?_)
 ·refine AZ Z ?_
  cases a
  exact aR eV1
 refine Ab<|az _ _ ?_
 refine Aa λbj L=>Ad<|rm 2 [0] Z<|rL (Rd.shp c) Z<|rz Z<|aE a Z (λM a=> ?_) (λM a=> ?_)
 ·refine AZ Z ?_
  cases a
  exact aR eV1
 refine Ab<|L _ _ ?_
 refine AZ Z<|Aa λbk O=>AZ Z<|Ai<|AH (λtt ll nn=> ∃(j:Nat) (b:Int) (g:Int),(BL N d k i h f j b g=some r)/\Is [(1,vP o 0),(3,vI b),(4,vI g)] (rp o v n k i h f) tt ll/\nn=j+1) (N+1) ?_ ?_
 ·exact⟨N,0,0,a,Ag Z Z,Z⟩
 clear a;rintro t l _ ⟨j,b,g,a,⟨⟨T,rfl⟩,rfl⟩,rfl⟩
 rcases j with _|j
 ·exact absurd a (by simp [BL])
 rw [BL] at a
 refine Aa λbl P=>Ad<|rm 3 [0] Z<|rL (Rd.shp c) Z<|rz Z<|aD a Z (λQ a=> ?_) (λQ a=> ?_)
 ·refine Ab<|P _ _ ?_
  refine Aa λbm R=>Ai<|Ad<|rm 3 [0] Z<|kC a λw a=>rI (Rd.shp c) w Z<|rE (Aw c) w 0 Z<|rA Z λJ=>ry [0] Z<|Aa λbn S=>Ad<|rm 2 [0] Z<|kB a λbo U a=>rc _ (cF UY) (Ip N ((d[g.toNat]!).1) _ U)<|rz Z<|BI _ Z (λp=> ?_) (λp=> ?_)
  ·replace a:=ifn (Bool.eq_false_iff.1 (Dk p)) a
   refine AZ Z ?_
   cases a
   exact aR eV1
  replace a:=ifp (Dl p) a
  refine Ab<|S _ _ ?_
  refine Aa λbp V=>AZ Z<|Ai<|AH (λtt ll nn=> ∃(m:Nat) (q:Int),(Cu N d b g (BL N d k i h f j) m q=some r)/\Is [(1,vP o 0),(3,vI b),(4,vI g),(5,vP J 0),(6,vI q)] [(J,92, #[vS ((d[g.toNat]!).1),vI ((d[g.toNat]!).2)]),(o,94, #[vS v,n,vI k,vI i,vI h,vI f])] tt ll/\nn=m+1) (N+1) ?_ ?_
  ·exact⟨N,0,a,Ag Z Z,Z⟩
  clear a;rintro t l _ ⟨m,q,a,⟨⟨T,rfl⟩,rfl⟩,rfl⟩
  rcases m with _|m
  ·exact absurd a (by simp [Cu])
  rw [Cu] at a
  refine Aa λbq W=>AZ Z<|aD a Z (λX a=> ?_) (λX a=> ?_)
  ·refine Ab<|W _ _ ?_
   refine Aa λbr Y=>Ai<|Aa λbs aa=>Ia [] (by decide+kernel) (λhn=>AK)<|rm 3 [1] Z<|kC a λs a=>rI (Rd.shp c) s Z<|rF (Rd.shp c) (Bf s) Z<|rE (Aw c) s 0 Z<|rm 2 [0] Z<|kB a λbt ab a=>rc _ (cF aQ) (JW N ((d[q.toNat]!).1) ((d[g.toNat]!).1) _ ab)<|Ak<|aa _ _ ?_
   refine aB a Z (λac a=> ?_) (λac a=> ?_)
   ·refine AZ Z ?_
    cases a
    exact aR eV1
   refine Ab<|Y _ _ ?_
   refine Ah<|rn 1 Z<|kC a λad a=>rX ad Z<|rz Z<|fg _ (Sub.of (suK _ (suK _ suN))) ?_
   exact⟨m+1,by omega,m,(q+1),a,Ag Z Z,Z⟩
  refine AG<|V _ _ ?_
  refine Aa λbu ae=>Aa λbv af=>Ah<|rm 4 [0] Z<|AF 4 56 [(1,vP o 0),(3,vI b),(4,vI g),(5,vP J 0)] vB (λb_=>ER d b g (BL N d k i h f j) b_=some r) (λbw a T=> ?_) (λe=> ?_)
  ·unfold ER at a
   refine Ak<|af _ _ ?_
   refine aB a Z (λag a=> ?_) (λag a=> ?_)
   ·refine AZ Z ?_
    cases a
    exact aR eV1
   refine Ab<|ae _ _ ?_
   refine Ah<|rm 3 [0] Z<|kC a λah a=>rX ah Z<|rz Z<|R _ _ ?_
   refine Ah<|rn 1 Z<|kC a λai a=>rX ai Z<|rz Z<|fg _ (Sub.of (suC _ (suK _ suN))) ?_
   exact⟨j+1,by omega,j,(b+(d[g.toNat]!).2),(g+1),a,Ag Z Z,Z⟩
  rcases x:(decide (((d[g.toNat]!).2:Int)<1))with _|_
  ·replace a:=iF x a
   refine rn 1 Z<|r_y Z<|rm 3 [0] Z ?_
   exact e _ _ a Z Z
  replace a:=iD x a
  refine rn 4 Z ?_
  exact e _ _ a Z Z
 refine AG<|O _ _ ?_
 refine Aa λbx aj=>Ad<|rn 1 Z<|kC a λak a=>r_X (vI (b%8)) Z (SA ak.1) Z<|rz Z<|aN a Z (λal a=> ?_) (λal a=> ?_)
 ·refine AZ Z ?_
  cases a
  exact aR eV1
 refine Ab<|aj _ _ ?_
 refine Aa λbz am=>AY [0] Z<|aE a Z (λan a=> ?_) (λan a=> ?_)
 ·refine Aa λca ao=>Aa λcb ap=>Ah<|rm 4 [0] Z<|AF 4 74 [(1,vP o 0)] vB (λb_=>Cw f b_=some r) (λba a T=> ?_) (λe=> ?_)
  ·unfold Cw at a
   refine rn 1 Z<|AF 4 79 [] vB (λb_=>Gi b_=some r) (λcc a T=> ?_) (λe=> ?_)
   ·unfold Gi at a
    refine Ak<|ap _ _ ?_
    refine aB a Z (λaq a=> ?_) (λaq a=> ?_)
    ·refine AZ Z ?_
     cases a
     exact aR eV1
    refine Ab<|ao _ _ ?_
    refine AZ Z ?_
    cases a
    exact aR eV1
   rcases y:ba with _|_
   ·replace a:=iB y a
    refine rn 1 Z<|r_y Z<|rm 3 [0] Z ?_
    exact e _ _ a Z Z
   replace a:=ifp y a
   refine rn 4 Z ?_
   exact e _ _ a Z Z
  rcases z:(i !=0)with _|_
  ·replace a:=iM z a
   refine rn 1 Z<|r_y Z<|rm 3 [0] Z ?_
   exact e _ _ a Z Z
  replace a:=iN z a
  refine rn 4 Z ?_
  exact e _ _ a Z Z
 refine Ab<|am _ _ ?_
 refine Aa λcd ar=>Aa λce au=>Ah<|rm 4 [0] Z<|AF 4 87 [(1,vP o 0)] vB (λb_=>Cv d i h f b_=some r) (λbb a T=> ?_) (λe=> ?_)
 ·unfold Cv at a
  refine rn 1 Z<|AF 4 92 [(1,vP o 0)] vB (λb_=>Da d i h f b_=some r) (λbc a T=> ?_) (λe=> ?_)
  ·unfold Da at a
   refine rn 1 Z<|AF 7 100 [(1,vP o 0)] vB (λb_=>CZ d i h f b_=some r) (λbd a T=> ?_) (λe=> ?_)
   ·unfold CZ at a
    refine rn 1 Z<|AF 9 110 [(1,vP o 0)] vB (λb_=>CY h f b_=some r) (λbe a T=> ?_) (λe=> ?_)
    ·unfold CY at a
     refine rn 1 Z<|AF 4 115 [(1,vP o 0)] vB (λb_=>Et h f b_=some r) (λbf a T=> ?_) (λe=> ?_)
     ·unfold Et at a
      refine rn 1 Z<|AF 4 120 [(1,vP o 0)] vB (λb_=>Es f b_=some r) (λbg a T=> ?_) (λe=> ?_)
      ·unfold Es at a
       refine rn 1 Z<|AF 4 125 [(1,vP o 0)] vB (λb_=>Er f b_=some r) (λbh a T=> ?_) (λe=> ?_)
       ·unfold Er at a
        refine rn 1 Z<|AF 4 130 [] vB (λb_=>FI b_=some r) (λcf a T=> ?_) (λe=> ?_)
        ·unfold FI at a
         refine Ak<|au _ _ ?_
         refine aB a Z (λav a=> ?_) (λav a=> ?_)
         ·refine AZ Z ?_
          cases a
          exact aR eV1
         refine Ab<|ar _ _ ?_
         refine AZ Z ?_
         cases a
         exact aR eV1
        rcases A:bh with _|_
        ·replace a:=iB A a
         refine rn 1 Z<|r_y Z<|rm 3 [0] Z ?_
         exact e _ _ a Z Z
        replace a:=ifp A a
        refine rn 4 Z ?_
        exact e _ _ a Z Z
       rcases B:bg with _|_
       ·replace a:=iB B a
        refine rn 1 Z<|r_y Z<|rm 3 [0] Z ?_
        exact e _ _ a Z Z
       replace a:=ifp B a
       refine rn 4 Z ?_
       exact e _ _ a Z Z
      rcases C:bf with _|_
      ·replace a:=iB C a
       refine rn 1 Z<|r_y Z<|rm 3 [0] Z ?_
       exact e _ _ a Z Z
      replace a:=ifp C a
      refine rn 4 Z ?_
      exact e _ _ a Z Z
     rcases D:be with _|_
     ·replace a:=iB D a
      refine rn 1 Z<|r_y Z<|rm 3 [0] Z ?_
      exact e _ _ a Z Z
     replace a:=ifp D a
     refine rn 4 Z ?_
     exact e _ _ a Z Z
    rcases E:bd with _|_
    ·replace a:=iB E a
     refine rn 1 Z<|r_y Z<|rm 2 [0] Z<|r_y Z<|rm 1 [0] Z<|r_y Z<|kC a λu a=>rI (Rd.shp c) u Z<|r_y Z<|rF (Rd.shp c) (Bf u) Z<|r_y Z<|rE (Aw c) u 1 Z<|rn 2 Z ?_
     exact e _ _ a Z Z
    replace a:=ifp E a
    refine rn 9 Z ?_
    exact e _ _ a Z Z
   rcases F:bc with _|_
   ·replace a:=iB F a
    refine rn 1 Z<|r_y Z<|rm 2 [0] Z<|r_y Z<|rm 1 [0] Z<|r_y Z<|rL (Rd.shp c) Z<|rn 2 Z ?_
    exact e _ _ a Z Z
   replace a:=ifp F a
   refine rn 7 Z ?_
   exact e _ _ a Z Z
  rcases G:bb with _|_
  ·replace a:=iB G a
   refine rn 1 Z<|r_y Z<|rm 3 [0] Z ?_
   exact e _ _ a Z Z
  replace a:=ifp G a
  refine rn 4 Z ?_
  exact e _ _ a Z Z
 rcases H:(decide (k<1))with _|_
 ·replace a:=iF H a
  refine rn 1 Z<|r_y Z<|rm 3 [0] Z ?_
  exact e _ _ a Z Z
 replace a:=iD H a
 refine rn 4 Z ?_
 exact e _ _ a Z Z
def CF(N:Nat)(b:List (W2)):Nat->Int->Option Int
  |0,_=>none
  |c+1,a=>ck ((R64 ((b.length:Int) - 1))) (if a<((b.length:Int) - 1)then ck (0<=a/\a<(b.length:Int)) ((Ey N (b[a.toNat]!) (b[(((b.length:Int) - 1)).toNat]!)).bind λd=>if d=true then some 6 else ck (R64 (a+1)) ((CF N b c) (a+1)))else some 0)
def He(N:Nat)(a:List (W2)):Option Int:=ck ((R64 ((a.length:Int) - 1))) (ck (0<=((a.length:Int) - 1)/\((a.length:Int) - 1)<(a.length:Int)) ((Df N (a[(((a.length:Int) - 1)).toNat]!)).bind λb=>if b=true then CF N a N 0 else some 4))
theorem Qu(N e r)(a:He N e=some r)(y h)(c:Rd Aa3 y h e):Does prog 47 #[h] y [] (pV (vI r)):=by
 unfold He at a
 refine Al follows func47 Z 27 Z _ fz1 (λu=> ?_)
 refine AZ Z<|Ad<|rn 2 Z<|rL (Rd.shp c) Z<|kC a λv a=>rX v Z<|kC a λi a=>rI (Rd.shp c) i Z<|rE (Aw c) i 0 Z<|rz Z<|Aa λD w=>Ad<|rn 1 Z<|kB a λE x a=>rc _ (cF UY) (Ip N (e[(((e.length:Int) - 1)).toNat]!) _ x)<|rz Z<|BI _ Z (λg=> ?_) (λg=> ?_)
 ·replace a:=ifn (Bool.eq_false_iff.1 (Dk g)) a
  refine AZ Z ?_
  cases a
  exact aR eV1
 replace a:=ifp (Dl g) a
 refine Ab<|w _ _ ?_
 refine Aa λz j=>AZ Z<|Ai<|AH (λtt ll nn=> ∃(b:Nat) (d:Int),(CF N e b d=some r)/\Is [(0,h),(3,vS (e[(((e.length:Int) - 1)).toNat]!)),(4,vI d)] [] tt ll/\nn=b+1) (N+1) ?_ ?_
 ·exact⟨N,0,a,Ag Z Z,Z⟩
 clear a;rintro t l _ ⟨b,d,a,⟨⟨T,rfl⟩,rfl⟩,rfl⟩
 rcases b with _|b
 ·exact absurd a (by simp [CF])
 rw [CF] at a
 refine Aa λA k=>Ad<|rn 2 Z<|rL (Rd.shp c) Z<|kC a λm a=>rX m Z<|rz Z<|aD a Z (λn a=> ?_) (λn a=> ?_)
 ·refine Ab<|k _ _ ?_
  refine Aa λB o=>Ai<|Ad<|rn 2 Z<|kC a λf a=>rI (Rd.shp c) f Z<|rE (Aw c) f 0 Z<|rn 1 Z<|kB a λC p a=>rc _ (cF aQ) (JW N (e[d.toNat]!) (e[(((e.length:Int) - 1)).toNat]!) _ p)<|Ak<|aB a Z (λq a=> ?_) (λq a=> ?_)
  ·refine AZ Z ?_
   cases a
   exact aR eV1
  refine Ab<|o _ _ ?_
  refine Ah<|rn 1 Z<|kC a λs a=>rX s Z<|rz Z<|fg _ (Sub.of suN) ?_
  exact⟨b+1,by omega,b,(d+1),a,Ag Z Z,Z⟩
 refine AG<|j _ _ ?_
 refine AZ Z ?_
 cases a
 exact aR eV1
def Gg(a:Bool):Option Int:=if a=true then some 7 else some 0
def Fj(N:Nat)(m:Ao)(c:Int)(a:Int):Option Int:=if c=0 then(De N m.2.2.1).bind λb=>if a<0 then some 5 else if a>=(b.length:Int)then some 5 else ck (0<=a/\a<(b.length:Int)) (ck (0<=(b[a.toNat]!).1/\(b[a.toNat]!).1<(m.2.2.1.length:Int)) (if(((m.2.2.1)[((b[a.toNat]!).1).toNat]!).2.2:Int)≠0 then some 5 else some 0))else if c=1 then(Cq N m a).bind λd=>if d.2.2=true then some 0 else some 5 else if(c:Int)≠2 then some 10 else if a<1 then Gg true else Gg (decide (a>64))
theorem Qi(N m h b r)(a:Fj N m h b=some r)(O)(n:AB)(C:Aa1 O n m):Does prog 144 #[vA (Ac m n),vA #[vI h,vI b]] O [] (pV (vI r)):=by
 unfold Fj at a
 refine Al follows func144 Z 63 Z _ fz2 (λD=> ?_)
 refine Ad<|rA Z λJ=>rA Z λK=>rz Z<|Aa λK4 E=>AY [0] Z<|aE a Z (λF a=> ?_) (λF a=> ?_)
 ·refine Ad<|rm 2 [1] Z<|kB a λL G a=>gS (Ls:=[(cj K h b),[(J,35,(Ac m n))]]) (cF UZ) (λo w z_=>In N m.2.2.1 _ G z_.view n.2.1 ((Aw C.2.1) o w z_)) (λH I g=> ?_)
  refine rz Z<|Aa λP p=>Aa λQ c=>Ia [] (by decide+kernel) (λhn=>AK)<|rm 4 [0] Z ?_
  rcases i:(decide (b<0))with _|_
  ·replace a:=iF i a
   refine rn 1 Z<|r_y Z<|rm 2 [0] Z<|r_y Z<|rL (Sl.shp g) Z<|rn 3 Z ?_
   rcases j:(decide (b>=(L.length:Int)))with _|_
   ·replace a:=iF j a
    refine rn 1 Z<|r_y Z<|rm 3 [1] Z<|r_y Z<|rm 1 [0] Z<|r_y Z<|kC a λd a=>rI (Sl.shp g) d Z<|r_y Z<|r_W (elA H (b.toNat*2+0)) Z (Fc (gU 0 Z Z Z Z (Sl.shp g) (Bf d) (by decide)))<|r_y Z<|rE (Ax g (Aj (Ls:=[(cj K h b),[(J,35,(Ac m n))],I]) (k:=2) Z Z)) d 0 Z<|r_y Z<|kC a λe a=>rI (Rd.shp C.2.1) e Z<|r_y Z<|rF (Rd.shp C.2.1) (Bf e) Z<|r_y Z<|rE (Aw C.2.1) e 2 Z<|rz Z<|c _ _ ?_
    refine GS [(38,vB (((((m.2.2.1)[((L[b.toNat]!).1).toNat]!).2.2:Int) !=0)))] Z (λT=> ?_)
    refine aN a Z (λq a=> ?_) (λq a=> ?_)
    ·refine AZ Z ?_
     cases a
     exact aR eV1
    refine Ab<|p _ _ ?_
    refine AZ Z ?_
    cases a
    exact aR eV1
   replace a:=iD j a
   refine rz Z<|c _ _ ?_
   refine GS [(38,vB true)] Z (λT=> ?_)
   refine Nt Z ?_
   refine AZ Z ?_
   cases a
   exact aR eV1
  replace a:=iD i a
  refine rz Z<|c _ _ ?_
  refine GS [(38,vB true)] Z (λT=> ?_)
  refine Nt Z ?_
  refine AZ Z ?_
  cases a
  exact aR eV1
 refine Ab<|E _ _ ?_
 refine Aa λR s=>AY [0] Z<|aE a Z (λt a=> ?_) (λt a=> ?_)
 ·refine Ad<|rm 3 [1,0] Z<|kB a λS u a=>gV _ (cF aV) (λo w z_=>HY N m b _ u z_.view n (Aa1.mono z_.ro_cell C))<|rz Z<|Aa λU v=>AZ Z<|BI _ Z (λf=> ?_) (λf=> ?_)
  ·replace a:=ifn (Bool.eq_false_iff.1 (Dk f)) a
   refine AZ Z ?_
   cases a
   exact aR eV1
  replace a:=ifp (Dl f) a
  refine Ab<|v _ _ ?_
  refine AZ Z ?_
  cases a
  exact aR eV1
 refine Ab<|s _ _ ?_
 refine Aa λV x=>AY [0] Z<|aN a Z (λy a=> ?_) (λy a=> ?_)
 ·refine AZ Z ?_
  cases a
  exact aR eV1
 refine Ab<|x _ _ ?_
 refine Aa λW z=>Aa λX A=>Ah<|rm 4 [0] Z<|AF 4 62 [] vB (λb_=>Gg b_=some r) (λY a T=> ?_) (λM=> ?_)
 ·unfold Gg at a
  refine Ak<|A _ _ ?_
  refine aB a Z (λB a=> ?_) (λB a=> ?_)
  ·refine AZ Z ?_
   cases a
   exact aR eV1
  refine Ab<|z _ _ ?_
  refine AZ Z ?_
  cases a
  exact aR eV1
 rcases l:(decide (b<1))with _|_
 ·replace a:=iF l a
  refine rn 1 Z<|r_y Z<|rm 3 [0] Z ?_
  exact M _ _ a Z Z
 replace a:=iD l a
 refine rn 4 Z ?_
 exact M _ _ a Z Z
def FE(a:Int)(b:Bool):Option (Int×Bool):=if b=true then some (a,true)else some (0,false)
def FF(a:Int)(b:Bool):Option (Int×Bool):=if b=true then FE a (decide (a<=64))else FE a false
def FG(a:Int)(b:Bool):Option (Int×Bool):=if b=true then FF a (decide (a>=1))else FF a false
def FH(b:Int)(a:Int)(c:Bool):Option (Int×Bool):=if c=true then FG a (decide (b<=1024))else FG a false
def Ds(N:Nat)(m:Ao)(b:Int)(a:Int)(c:Int):Option (Int×Bool):=if b=0 then(Cj N m a c).bind λe=>some (e.1,e.2)else if b=1 then(EO N m a).bind λd=>some (d.1,d.2)else if b=2 then FH a c (decide (a>=0))else FH a c false
theorem LB(N m i d b r)(a:Ds N m i d b=some r)(C)(u:AB)(D:Aa1 C u m):Does prog 211 #[vA (Ac m u),vA #[vI i,vI d,vI b]] C [] (pV (vT #[vI r.1,vB r.2])):=by
 unfold Ds at a
 refine Al follows func211 Z 51 Z _ fz2 (λs=> ?_)
 refine Ad<|rA Z λJ=>rA Z λt=>rz Z<|Aa λK v=>AY [0] Z<|aE a Z (λx a=> ?_) (λx a=> ?_)
 ·refine Ad<|rm 5 [1,0,0] Z<|kB a λL y a=>gV _ (cF aP) (λo w z_=>IM N m d b _ y z_.view u (Aa1.mono z_.ro_cell D))<|rz Z ?_
  cases a
  exact aR eV2
 refine Ab<|v _ _ ?_
 refine Aa λE j=>AY [0] Z<|aE a Z (λk a=> ?_) (λk a=> ?_)
 ·refine Ad<|rm 3 [1,0] Z<|kB a λF l a=>gV _ (cF dC) (λo w z_=>LC N m d _ l z_.view u (Aa1.mono z_.ro_cell D))<|rz Z ?_
  cases a
  exact aR eV2
 refine Ab<|j _ _ ?_
 refine Aa λG n=>Aa λH p=>Ah<|rm 4 [0] Z<|AF 4 33 [(3,vP t 0)] vB (λb_=>FH d b b_=some r) (λz a T=> ?_) (λc=> ?_)
 ·unfold FH at a
  refine rn 1 Z<|AF 4 38 [(3,vP t 0)] vB (λb_=>FG b b_=some r) (λA a T=> ?_) (λc=> ?_)
  ·unfold FG at a
   refine rn 1 Z<|AF 4 43 [(3,vP t 0)] vB (λb_=>FF b b_=some r) (λB a T=> ?_) (λc=> ?_)
   ·unfold FF at a
    refine rn 1 Z<|AF 4 48 [(3,vP t 0)] vB (λb_=>FE b b_=some r) (λI a T=> ?_) (λc=> ?_)
    ·unfold FE at a
     refine Ak<|p _ _ ?_
     refine aB a Z (λq a=> ?_) (λq a=> ?_)
     ·refine AY [0] Z ?_
      cases a
      exact aR eV2
     refine Ab<|n _ _ ?_
     refine AZ Z ?_
     cases a
     exact aR eV2
    rcases e:B with _|_
    ·replace a:=iB e a
     refine rn 4 Z ?_
     exact c _ _ a Z Z
    replace a:=ifp e a
    refine rn 1 Z<|r_y Z<|rm 3 [0] Z ?_
    exact c _ _ a Z Z
   rcases f:A with _|_
   ·replace a:=iB f a
    refine rn 4 Z ?_
    exact c _ _ a Z Z
   replace a:=ifp f a
   refine rn 1 Z<|r_y Z<|rm 3 [0] Z ?_
   exact c _ _ a Z Z
  rcases g:z with _|_
  ·replace a:=iB g a
   refine rn 4 Z ?_
   exact c _ _ a Z Z
  replace a:=ifp g a
  refine rn 1 Z<|r_y Z<|rm 3 [0] Z ?_
  exact c _ _ a Z Z
 rcases h:(i==2)with _|_
 ·replace a:=iG h a
  refine rn 4 Z ?_
  exact c _ _ a Z Z
 replace a:=iE h a
 refine rn 1 Z<|r_y Z<|rm 3 [0] Z ?_
 exact c _ _ a Z Z
def EP(d:Int)(b:Int)(a:Int->Int->Option (Int×Bool))(c:Int×Bool)(e:Bool):Option (Int×Bool):=if e=true then some (0,false)else ck (R64 (d+c.1)) (ck (R64 (b+1)) (a (d+c.1) (b+1)))
def EQ(b:Int)(d:Int)(a:Int->Int->Option (Int×Bool))(c:Int×Bool)(e:Bool):Option (Int×Bool):=if e=true then EP b d a c true else ck (R64 (128 - b)) (EP b d a c (decide (c.1>(128 - b))))
def AU(N:Nat)(m:Ao)(b:List (Int×Int×Int)):Nat->Int->Int->Option (Int×Bool)
  |0,_,_=>none
  |e+1,d,a=>if a<(b.length:Int)then ck (0<=a/\a<(b.length:Int)) ((Ds N m ((b[a.toNat]!).1) ((b[a.toNat]!).2.1) ((b[a.toNat]!).2.2)).bind λc=>if c.2=true then EQ d a (AU N m b e) c (decide (c.1<1))else EQ d a (AU N m b e) c true)else some (d,true)
def GF(N:Nat)(m:Ao)(a:List (Int×Int×Int)):Option (Int×Bool):=AU N m a N 0 0
theorem Mh(N m e r)(a:GF N m e=some r)(J)(E:AB)(Q:Aa1 J E m)(f)(n:Rd Ad1 J f e):Does prog 146 #[vA (Ac m E),f] J [] (pV (vT #[vI r.1,vB r.2])):=by
 unfold GF at a
 refine Al follows func146 Z 41 Z _ fz2 (λC=> ?_)
 refine Ad<|rA Z λD=>rz Z<|AZ Z<|Aa λR F=>AZ Z<|Ai<|AH (λtt ll nn=> ∃(g:Nat) (c:Int) (b:Int),(AU N m e g c b=some r)/\Is [(1,f),(2,vP D 0),(6,vI c),(7,vI b)] [(D,35,(Ac m E))] tt ll/\nn=g+1) (N+1) ?_ ?_
 ·exact⟨N,0,0,a,Ag Z Z,Z⟩
 clear a;rintro t l _ ⟨g,c,b,a,⟨⟨T,rfl⟩,rfl⟩,rfl⟩
 rcases g with _|g
 ·exact absurd a (by simp [AU])
 rw [AU] at a
 refine Aa λS G=>Ad<|rn 2 Z<|rL (Rd.shp n) Z<|rz Z<|aD a Z (λH a=> ?_) (λH a=> ?_)
 ·refine Ab<|G _ _ ?_
  refine Aa λK p=>Ai<|Aa λL q=>BB [(some 22,false)] (conG prog [(22,cV (Ds N m ((e[b.toNat]!).1) ((e[b.toNat]!).2.1) ((e[b.toNat]!).2.2)) λs=>vT #[vI s.1,vB s.2])]) [] (by decide+kernel) (λU=>AK)<|rm 3 [0] Z<|kC a λh a=>rI (Rd.shp n) h Z<|rE (Aw n) h 0 Z<|kB a λd i a=>rg _ (cF dG) (λo w z_=>LB N m ((e[b.toNat]!).1) ((e[b.toNat]!).2.1) ((e[b.toNat]!).2.2) _ i z_.view E (Aa1.mono z_.ro_cell Q)) (GQ i)<|rz Z<|q _ _ ?_
  refine Aa λM u=>Aa λO v=>Ah<|rn 3 Z<|AF 3 30 [(1,f),(2,vP D 0),(6,vI c),(7,vI b),(8,vI d.1)] vB (λb_=>EQ c b (AU N m e g) d b_=some r) (λI a T=> ?_) (λx=> ?_)
  ·unfold EQ at a
   refine rn 1 Z<|AF 5 36 [(1,f),(2,vP D 0),(6,vI c),(7,vI b),(8,vI d.1)] vB (λb_=>EP c b (AU N m e g) d b_=some r) (λP a T=> ?_) (λx=> ?_)
   ·unfold EP at a
    refine Ak<|v _ _ ?_
    refine aB a Z (λy a=> ?_) (λy a=> ?_)
    ·refine AZ Z ?_
     cases a
     exact aR eV2
    refine Ab<|u _ _ ?_
    refine Ah<|rn 2 Z<|kC a λz a=>rX z Z<|rz Z<|p _ _ ?_
    refine Ah<|rn 1 Z<|kC a λA a=>rX A Z<|rz Z<|fg _ (Sub.of (suK _ suN)) ?_
    exact⟨g+1,by omega,g,(c+d.1),(b+1),a,Ag Z Z,Z⟩
   rcases j:I with _|_
   ·replace a:=iB j a
    refine rn 2 Z<|r_y Z<|kC a λB a=>rX B Z<|rn 2 Z ?_
    exact x _ _ a Z Z
   replace a:=ifp j a
   refine rn 5 Z ?_
   exact x _ _ a Z Z
  rcases k:(!(d.2))with _|_
  ·replace a:=ifp (Dl k) a
   refine rn 3 Z ?_
   exact x _ _ a Z Z
  replace a:=ifn (Bool.eq_false_iff.1 (Dk k)) a
  refine rn 3 Z ?_
  exact x _ _ a Z Z
 refine AG<|F _ _ ?_
 refine AZ Z ?_
 cases a
 exact aR eV2
def EK(b:Int)(a:Int->Option Int)(c:Bool):Option Int:=if c=true then some 7 else ck (R64 (b+1)) (a (b+1))
def EL(d:List (Int×Int×Int))(b:Int)(a:Int->Option Int)(e:Int×Bool)(c:Bool):Option Int:=if c=true then some 7 else if e.2=true then if((d[b.toNat]!).1:Int)=1 then EK b a ((((d[b.toNat]!).2.2:Int) !=0))else EK b a false else some 5
def Dq(N:Nat)(m:Ao)(c:List (Int×Int×Int))(b:Int)(a:Int->Option Int)(e:Bool):Option Int:=if e=true then some 10 else(Ds N m ((c[b.toNat]!).1) ((c[b.toNat]!).2.1) ((c[b.toNat]!).2.2)).bind λd=>if d.2=true then EL c b a d false else EL c b a d ((((c[b.toNat]!).1:Int)==2))
def EM(N:Nat)(m:Ao)(c:List (Int×Int×Int))(d:Bool)(b:Int)(a:Int->Option Int)(e:Bool):Option Int:=if e=true then if((c[b.toNat]!).1:Int)=2 then Dq N m c b a (!(d))else Dq N m c b a true else Dq N m c b a false
def AM(N:Nat)(m:Ao)(c:List (Int×Int×Int))(a:Bool):Nat->Int->Option Int
  |0,_=>none
  |e+1,b=>if b<(c.length:Int)then ck (0<=b/\b<(c.length:Int)) (if((c[b.toNat]!).1:Int)≠0 then EM N m c a b (AM N m c a e) ((((c[b.toNat]!).1:Int) !=1))else EM N m c a b (AM N m c a e) false)else(GF N m c).bind λd=>if d.2=true then some 0 else some 9
def Fi(N:Nat)(m:Ao)(b:List (Int×Int×Int))(a:Bool):Option Int:=if(b.length:Int)>4 then some 2 else AM N m b a N 0
theorem Mg(N m d b r)(a:Fi N m d b=some r)(X)(Q:AB)(Y:Aa1 X Q m)(e)(j:Rd Ad1 X e d):Does prog 145 #[vA (Ac m Q),e,vB b] X [] (pV (vI r)):=by
 unfold Fi at a
 refine Al follows func145 Z 74 Z _ fz3 (λR=> ?_)
 refine Ad<|rA Z λy=>rz Z<|Aa λK3 S=>Ad<|rn 1 Z<|rL (Rd.shp j) Z<|rz Z<|aD a Z (λU a=> ?_) (λU a=> ?_)
 ·refine AZ Z ?_
  cases a
  exact aR eV1
 refine Ab<|S _ _ ?_
 refine Aa λK7 V=>AZ Z<|Ai<|AH (λtt ll nn=> ∃(g:Nat) (c:Int),(AM N m d b g c=some r)/\Is [(1,e),(2,vB b),(3,vP y 0),(7,vI c)] [(y,35,(Ac m Q))] tt ll/\nn=g+1) (N+1) ?_ ?_
 ·exact⟨N,0,a,Ag Z Z,Z⟩
 clear a;rintro t l _ ⟨g,c,a,⟨⟨T,rfl⟩,rfl⟩,rfl⟩
 rcases g with _|g
 ·exact absurd a (by simp [AM])
 rw [AM] at a
 refine Aa λaa z=>Ad<|rn 2 Z<|rL (Rd.shp j) Z<|rz Z<|aD a Z (λA a=> ?_) (λA a=> ?_)
 ·refine Ab<|z _ _ ?_
  refine Aa λab B=>Ai<|Ad<|rn 2 Z<|kC a λk a=>rI (Rd.shp j) k Z<|rE (Aw j) k 0 Z<|rA Z λv=>ry [0] Z<|Aa λac C=>Aa λad D=>Ah<|rm 4 [0] Z ?_
  refine AF 4 33 [(1,e),(2,vB b),(3,vP y 0),(7,vI c),(8,vP v 0)] vB (λb_=>EM N m d b c (AM N m d b g) b_=some r) (λW a T=> ?_) (λf=> ?_)
  ·unfold EM at a
   refine rn 1 Z<|AF 8 42 [(1,e),(2,vB b),(3,vP y 0),(7,vI c),(8,vP v 0)] vB (λb_=>Dq N m d c (AM N m d b g) b_=some r) (λae a T=> ?_) (λf=> ?_)
   ·unfold Dq at a
    refine Ak<|D _ _ ?_
    refine aB a Z (λE a=> ?_) (λE a=> ?_)
    ·refine AZ Z ?_
     cases a
     exact aR eV1
    refine Ab<|C _ _ ?_
    refine Ad<|rm 2 [1,0] Z<|kB a λx F a=>gV _ (cF dG) (λo w z_=>LB N m ((d[c.toNat]!).1) ((d[c.toNat]!).2.1) ((d[c.toNat]!).2.2) _ F z_.view Q (Aa1.mono z_.ro_cell Y))<|rz Z<|Aa λaf G=>Aa λag H=>Ah<|rn 3 Z ?_
    refine AF 4 55 [(1,e),(2,vB b),(3,vP y 0),(7,vI c),(8,vP v 0),(10,vB x.2)] vB (λb_=>EL d c (AM N m d b g) x b_=some r) (λah a T=> ?_) (λf=> ?_)
    ·unfold EL at a
     refine Ak<|H _ _ ?_
     refine aB a Z (λI a=> ?_) (λI a=> ?_)
     ·refine AZ Z ?_
      cases a
      exact aR eV1
     refine Ab<|G _ _ ?_
     refine Aa λai J=>AZ Z<|BI _ Z (λh=> ?_) (λh=> ?_)
     ·replace a:=ifn (Bool.eq_false_iff.1 (Dk h)) a
      refine AZ Z ?_
      cases a
      exact aR eV1
     replace a:=ifp (Dl h) a
     refine Ab<|J _ _ ?_
     refine Aa λaj K=>Ah<|rm 4 [0] Z<|AF 4 65 [(1,e),(2,vB b),(3,vP y 0),(7,vI c)] vB (λb_=>EK c (AM N m d b g) b_=some r) (λak a T=> ?_) (λf=> ?_)
     ·unfold EK at a
      refine Ak<|K _ _ ?_
      refine aB a Z (λL a=> ?_) (λL a=> ?_)
      ·refine AZ Z ?_
       cases a
       exact aR eV1
      refine Ab<|B _ _ ?_
      refine Ah<|rn 1 Z<|kC a λM a=>rX M Z<|rz Z<|fg _ (Sub.of (suC _ (suK _ suN))) ?_
      exact⟨g+1,by omega,g,(c+1),a,Ag Z Z,Z⟩
     rcases n:((((d[c.toNat]!).1:Int)==1))with _|_
     ·replace a:=iG n a
      refine rn 4 Z ?_
      exact f _ _ a Z Z
     replace a:=iE n a
     refine rn 1 Z<|r_y Z<|rm 3 [0] Z ?_
     exact f _ _ a Z Z
    rcases p:(!(x.2))with _|_
    ·replace a:=ifp (Dl p) a
     refine rn 4 Z ?_
     exact f _ _ a Z Z
    replace a:=ifn (Bool.eq_false_iff.1 (Dk p)) a
    refine rn 1 Z<|r_y Z<|rm 3 [0] Z ?_
    exact f _ _ a Z Z
   rcases q:W with _|_
   ·replace a:=iB q a
    refine rn 4 Z<|Cd Z Z<|rn 3 Z ?_
    exact f _ _ a Z Z
   replace a:=ifp q a
   refine rn 1 Z<|r_y Z<|rm 3 [0] Z ?_
   rcases s:((((d[c.toNat]!).1:Int)==2))with _|_
   ·replace a:=iG s a
    refine rn 4 Z ?_
    exact f _ _ a Z Z
   replace a:=iE s a
   refine rn 4 Z ?_
   exact f _ _ a Z Z
  rcases u:((((d[c.toNat]!).1:Int) !=0))with _|_
  ·replace a:=iM u a
   refine rn 4 Z ?_
   exact f _ _ a Z Z
  replace a:=iN u a
  refine rn 1 Z<|r_y Z<|rm 3 [0] Z ?_
  exact f _ _ a Z Z
 refine AG<|V _ _ ?_
 refine Ad<|rm 2 [0] Z<|kB a λal O a=>gV _ (cF dR) (λo w z_=>Mh N m d _ O z_.view Q (Aa1.mono z_.ro_cell Y) e ((Aw j) o w z_))<|rz Z<|Aa λam P=>AZ Z<|BI _ Z (λi=> ?_) (λi=> ?_)
 ·replace a:=ifn (Bool.eq_false_iff.1 (Dk i)) a
  refine AZ Z ?_
  cases a
  exact aR eV1
 replace a:=ifp (Dl i) a
 refine Ab<|P _ _ ?_
 refine AZ Z ?_
 cases a
 exact aR eV1
def Hj(c:W3)(d:List Bool)(b:Int)(a:List Bool->Int->Option (List Bool))(e:Bool):Option (List Bool):=if e=true then ck (0<=b/\b<128) (ck ((d).length+([((hi c)++(lo c)).getLsbD (b.toNat)]).length<=140737488355328) (ck (R64 (b+1)) (a ((d++([((hi c)++(lo c)).getLsbD (b.toNat)]))) (b+1))))else some d
def Ca(c:Int)(b:W3):Nat->List Bool->Int->Option (List Bool)
  |0,_,_=>none
  |e+1,d,a=>if a<c then Hj b d a (Ca c b e) (decide (a<128))else Hj b d a (Ca c b e) false
def Fh(N:Nat)(b:Int)(a:W3):Option (List Bool):=Ca b a N ([]) 0
theorem Nd(N d a r)(e:Fh N d a=some r)(Q:Ro):Does prog 214 #[vA #[vI d,U (hi a),U (lo a)]] Q [] (p1 (λs_=>s_) 4 Qn r):=by
 unfold Fh at e
 refine Al follows func214 Z 28 Z _ fz1 (λD=> ?_)
 refine Ad<|rA Z λj=>rz Z<|Ad<|rm 4 [0,0] Z<|rc _ (cF dE) (wT (hi a) (lo a))<|r_a (323,Dc (BitVec.getLsbD (0#128))) Z Z ((qf fU).trans (congrArg (λx=>some (323,x)) bG)) (λi=> ?_) (.inr Z)
 refine r_s [(i,323,Dc (BitVec.getLsbD ((hi a)++(lo a)))),(j,51, #[vI d,U (hi a),U (lo a)])] 0 _ _ _ _ _ (Dc (BitVec.getLsbD ((hi a)++(lo a)))) Z Z Z Z (Yr Z Z _ _) (Ue _ _) Z<|Ak<|AZ Z<|Aa λR E=>AZ Z<|Ai<|Bs _ (Sub.pickE (Ls:=[[(i,323,Dc (BitVec.getLsbD ((hi a)++(lo a))))],(Om j d (hi a) (lo a)),[]]) (Ls0:=[[(i,323,Dc (BitVec.getLsbD ((hi a)++(lo a))))],(Om j d (hi a) (lo a))]) Z [0,1,2] Z) ?_
 refine AH (λtt ll nn=> ∃(n:Nat) (m:List Bool) (f:Int),(Ca d a n m f=some r)/\ ∃(h:Value) (g:List Bl),Sl 4 Qn h m g/\Is [(1,vP j 0),(3,vP i 0),(4,h),(5,vI f)] (List.flatten [[(i,323,Dc (BitVec.getLsbD ((hi a)++(lo a))))],(Om j d (hi a) (lo a)),g]) tt ll/\nn=n+1) (N+1) ?_ ?_
 ·exact⟨N,[],0,e,nS,[],Sl.nil,Ag Z Z,Z⟩
 clear e;rintro t l _ ⟨n,m,f,e,h,g,o,⟨⟨T,rfl⟩,rfl⟩,rfl⟩
 rcases n with _|n
 ·exact absurd e (by simp [Ca])
 rw [Ca] at e
 refine Aa λS F=>Aa λK w=>Ah<|rm 5 [1] Z<|AF 3 18 [(1,vP j 0),(3,vP i 0),(4,h),(5,vI f)] vB (λb_=>Hj a m f (Ca d a n) b_=some r) (λL e T=> ?_) (λJ=> ?_)
 ·unfold Hj at e
  refine Ak<|w _ _ ?_
  refine aB e Z (λy e=> ?_) (λy e=> ?_)
  ·refine Ab<|F _ _ ?_
   refine Aa λM z=>Ai<|Ah<|rn 2 Z<|kC e λA e=> ?_
   have p:=λc=>Fc (IJ (P:=prog) (c:=c) (t:=323) (b:=i) (off:=0) (k:= .i64) Z Z Z A)
   simp only [q6] at p
   have u:f.toNat<128:=by omega
   refine r_W (Value.pointer (some ⟨i,f.toNat,none⟩)) Z (p _)<|r_l (vB (((hi a)++(lo a)).getLsbD (f.toNat))) 0 _ _ _ _ Z Z Z Z (UR Z _ u)<|gB (Ls:=[[(i,323,Dc (BitVec.getLsbD ((hi a)++(lo a))))],(Om j d (hi a) (lo a)),g]) 4 Qn [((hi a)++(lo a)).getLsbD (f.toNat)] (λO v G=> ?_)
   refine kC e λq e=>cC 26<|LK (cs0:=[]) (Ls:=[[(i,323,Dc (BitVec.getLsbD ((hi a)++(lo a))))],(Om j d (hi a) (lo a)),g,v]) 2 (En:=Qn) Z Z Z Z Z o Z (Ax G (Aj (Ls:=[[(i,323,Dc (BitVec.getLsbD ((hi a)++(lo a))))],(Om j d (hi a) (lo a)),g,v]) (k:=3) Z Z)) Z Z Z Z Z (Mf q Z) (Me q Z) Z (λH B I=> ?_)
   refine rz Z<|z _ _ ?_
   refine Ah<|rn 1 Z<|kC e λC e=>rX C Z<|rz Z<|fg _ (Sub.pick [[(i,323,Dc (BitVec.getLsbD ((hi a)++(lo a))))],(Om j d (hi a) (lo a)),B,v] [0,1,2] Z) ?_
   exact⟨n+1,by omega,n,(m++([((hi a)++(lo a)).getLsbD (f.toNat)])),(f+1),e,H,B,I,Ag Z Z,Z⟩
  refine AG<|E _ _ ?_
  refine AZ Z ?_
  cases e
  refine Bh (λV=>GZ (v0:=h) o (Dy (Sub.pick [[(i,323,Dc (BitVec.getLsbD ((hi a)++(lo a))))],(Om j d (hi a) (lo a)),g] [2] Z)) Z (FZ Z))
 rcases s:(decide (f<d))with _|_
 ·replace e:=iF s e
  refine rn 3 Z ?_
  exact J _ _ e Z Z
 replace e:=iD s e
 refine rn 3 Z ?_
 exact J _ _ e Z Z
def HL(d:List Bool)(b:Int)(c:W3)(a:Int->W3->Option (Int×(W3)))(e:Bool):Option (Int×(W3)):=if e=true then ck (0<=b/\b<(d.length:Int)) (ck (0<=b/\b<128) (ck (R64 (b+1)) (a (b+1) (bx c (b.toNat) (d[b.toNat]!)))))else some ((d.length:Int),c)
def CB(b:List Bool):Nat->Int->W3->Option (Int×(W3))
  |0,_,_=>none
  |d+1,a,c=>if a<(b.length:Int)then HL b a c (CB b d) (decide (a<128))else HL b a c (CB b d) false
def Hs(N:Nat)(a:List Bool):Option (Int×(W3)):=CB a N 0 (0#128)
theorem LE(N g r)(e:Hs N g=some r)(D h)(i:Rd Qn D h g):Does prog 215 #[h] D [] (pV (vA #[vI r.1,U (hi r.2),U (lo r.2)])):=by
 unfold Hs at e
 refine Al follows func215 Z 33 Z _ fz1 (λw=> ?_)
 refine Ad<|rA Z λy=>Ak<|Ad<|r_a (323,Dc (BitVec.getLsbD (0#128))) Z Z ((qf fU).trans (congrArg (λx=>some (323,x)) bG)) (λp=> ?_) (.inr Z)
 refine Ak<|Aa λH z=>AZ Z<|Ai<|AH (λtt ll nn=> ∃(j:Nat) (a:Int) (d:W3),(CB g j a d=some r)/\Is [(0,h),(2,vP y 0),(3,vP p 0),(4,vI a)] [(p,323,Dc (BitVec.getLsbD d)),(y,51, #[vI 0,U (0#64),U (0#64)])] tt ll/\nn=j+1) (N+1) ?_ ?_
 ·exact⟨N,0,0#128,e,Ag Z (by first|rfl|simp only [Br]),Z⟩
 clear e;rintro t l _ ⟨j,a,d,e,⟨⟨T,rfl⟩,rfl⟩,rfl⟩
 rcases j with _|j
 ·exact absurd e (by simp [CB])
 rw [CB] at e
 refine Aa λI A=>Aa λJ B=>Ah<|rn 2 Z<|rL (Rd.shp i) Z<|rn 2 Z<|AF 3 14 [(0,h),(2,vP y 0),(3,vP p 0),(4,vI a)] vB (λb_=>HL g a d (CB g j) b_=some r) (λE e T=> ?_) (λC=> ?_)
 ·unfold HL at e
  refine Ak<|B _ _ ?_
  refine aB e Z (λq e=> ?_) (λq e=> ?_)
  ·refine Ab<|A _ _ ?_
   refine Aa λF s=>Ai<|Ah<|rn 3 Z<|kC e λm e=>rI (Rd.shp i) m Z<|rE (Aw i) m 0 Z<|kC e λu e=> ?_
   have n:=λc=>Fc (IJ (P:=prog) (c:=c) (t:=323) (b:=p) (off:=0) (k:= .i64) Z Z Z u)
   simp only [q6] at n
   have f:a.toNat<128:=by omega
   refine r_W (Value.pointer (some ⟨p,a.toNat,none⟩)) Z (n _)<|r_s [(p,323,Dc (BitVec.getLsbD (bx d (a.toNat) (g[a.toNat]!)))),(y,51, #[vI 0,U (0#64),U (0#64)])] 0 _ _ _ _ _ (Dc (BitVec.getLsbD (bx d (a.toNat) (g[a.toNat]!)))) Z Z Z Z (Tm Z Z _ _ f) ((Qq _ _ _).trans (iS _ _ _ f)) Z<|Ak<|s _ _ ?_
   refine Ah<|rn 1 Z<|kC e λv e=>rX v Z<|rz Z<|fg _ (Sub.of (suK _ (suK _ suN))) ?_
   exact⟨j+1,by omega,j,(a+1),bx d (a.toNat) (g[a.toNat]!),e,Ag Z (by first|rfl|simp only [Br]),Z⟩
  refine AG<|z _ _ ?_
  refine Ad<|r_l (vA (Dc (BitVec.getLsbD d))) 0 _ _ _ _ Z Z Z Z (ZM Z Z Z _)<|rc _ (cF ng) (lR d)<|rz Z<|Ad<|rn 1 Z<|rL (Rd.shp i) Z<|r_R [U (hi d),U (lo d)] Z<|r_W (vA #[vI (g.length:Int),U (hi d),U (lo d)]) Z (Ar Z Z Z Z) ?_
  refine ry [1] Z ?_
  cases e
  refine Bh (λG=>Ur (v0:=vA #[vI (g.length:Int),U (hi d),U (lo d)]) Z (FZ (AW G 1 Z Z Z)))
 rcases o:(decide (a<(g.length:Int)))with _|_
 ·replace e:=iF o e
  refine rn 3 Z ?_
  exact C _ _ e Z Z
 replace e:=iD o e
 refine rn 3 Z ?_
 exact C _ _ e Z Z
end Go.Proofs.YtjlomkippigejaaGreatDoor
