import Derived.Test.YtjnanfkpdhmnpaaGreatDoorBb
namespace Go.Proofs.YtjnanfkpdhmnpaaGreatDoor
open Go Go.RowKit Go.Eng _root_.Go.Proofs.Tryz
set_option linter.unusedSimpArgs false
set_option linter.unusedVariables false
set_option maxRecDepth 100000
set_option maxHeartbeats 80000000
abbrev sK(b:Nat)(x0:W2)(x1:Y2)(x2 x3 x4 x5:Int):Y0 Bl:=[(b,97, #[vS x0,x1,vI x2,vI x3,vI x4,vI x5])]
abbrev cT(b:Nat)(x0 x1:Int):Y0 Bl:=[(b,196, #[vI x0,vI x1])]
abbrev Nk(b:Nat)(x0:Int)(x1 x2:W4):Y0 Bl:=[(b,200, #[vI x0,U x1,U x2])]
def VR(m:Ao)(c:Y0 (W2))(a:Int)(b:Y0 (W2)->Int->Y1 (Y0 (W2)))(d:Y3):Y1 (Y0 (W2)):=if d=true then ck (0<=a/\a<(m.2.2.2.2.2.2.2.2.2.2.2.2.2.2.1.length:Int)) (ck ((c).length+([((m.2.2.2.2.2.2.2.2.2.2.2.2.2.2.1)[a.toNat]!).1]).length<=8796093022208) (ck (R64 (a+1)) (b ((c++([((m.2.2.2.2.2.2.2.2.2.2.2.2.2.2.1)[a.toNat]!).1]))) (a+1))))else some c
def NA(m:Ao)(b:Int):Nat->Y0 (W2)->Int->Y1 (Y0 (W2))
  |0,_,_=>none
  |c+1,d,a=>if a<(m.2.2.2.2.2.2.2.2.2.2.2.2.2.2.1.length:Int)then VR m d a (NA m b c) (b==14)else VR m d a (NA m b c) false
def VS(N:Nat)(m:Ao)(e:Int)(c:Y0 (W2))(a:Int)(b:Y0 (W2)->Int->Y1 (Y0 (W2)))(d:Y3):Y1 (Y0 (W2)):=if d=true then ck (0<=a/\a<(m.2.2.2.2.2.2.2.2.2.2.2.2.2.1.length:Int)) (ck ((c).length+([((m.2.2.2.2.2.2.2.2.2.2.2.2.2.1)[a.toNat]!).1]).length<=8796093022208) (ck (R64 (a+1)) (b ((c++([((m.2.2.2.2.2.2.2.2.2.2.2.2.2.1)[a.toNat]!).1]))) (a+1))))else NA m e N c 0
def NB(N:Nat)(m:Ao)(a:Int):Nat->Y0 (W2)->Int->Y1 (Y0 (W2))
  |0,_,_=>none
  |c+1,d,b=>if b<(m.2.2.2.2.2.2.2.2.2.2.2.2.2.1.length:Int)then VS N m a d b (NB N m a c) (a==13)else VS N m a d b (NB N m a c) false
def VT(N:Nat)(m:Ao)(e:Int)(c:Y0 (W2))(a:Int)(b:Y0 (W2)->Int->Y1 (Y0 (W2)))(d:Y3):Y1 (Y0 (W2)):=if d=true then ck (0<=a/\a<(m.2.2.2.2.2.2.2.2.2.2.2.2.1.length:Int)) (ck ((c).length+([((m.2.2.2.2.2.2.2.2.2.2.2.2.1)[a.toNat]!).1]).length<=8796093022208) (ck (R64 (a+1)) (b ((c++([((m.2.2.2.2.2.2.2.2.2.2.2.2.1)[a.toNat]!).1]))) (a+1))))else NB N m e N c 0
def NC(N:Nat)(m:Ao)(a:Int):Nat->Y0 (W2)->Int->Y1 (Y0 (W2))
  |0,_,_=>none
  |c+1,d,b=>if b<(m.2.2.2.2.2.2.2.2.2.2.2.2.1.length:Int)then VT N m a d b (NC N m a c) (a==12)else VT N m a d b (NC N m a c) false
def VU(N:Nat)(m:Ao)(d:Int)(c:Y0 (W2))(a:Int)(b:Y0 (W2)->Int->Y1 (Y0 (W2)))(e:Y3):Y1 (Y0 (W2)):=if e=true then ck (0<=a/\a<(m.2.2.2.2.2.2.1.length:Int)) (ck ((c).length+([(m.2.2.2.2.2.2.1)[a.toNat]!.1]).length<=8796093022208) (ck (R64 (a+1)) (b (c++([(m.2.2.2.2.2.2.1)[a.toNat]!.1])) (a+1))))else NC N m d N c 0
def ND(N:Nat)(m:Ao)(a:Int):Nat->Y0 (W2)->Int->Y1 (Y0 (W2))
  |0,_,_=>none
  |d+1,c,b=>if b<(m.2.2.2.2.2.2.1.length:Int)then VU N m a c b (ND N m a d) (a==6)else VU N m a c b (ND N m a d) false
def VV(N:Nat)(m:Ao)(d:Int)(c:Y0 (W2))(a:Int)(b:Y0 (W2)->Int->Y1 (Y0 (W2)))(e:Y3):Y1 (Y0 (W2)):=if e=true then ck (0<=a/\a<(m.2.2.2.2.2.1.length:Int)) (ck ((c).length+([(m.2.2.2.2.2.1)[a.toNat]!.1]).length<=8796093022208) (ck (R64 (a+1)) (b (c++([(m.2.2.2.2.2.1)[a.toNat]!.1])) (a+1))))else ND N m d N c 0
def NE(N:Nat)(m:Ao)(a:Int):Nat->Y0 (W2)->Int->Y1 (Y0 (W2))
  |0,_,_=>none
  |d+1,c,b=>if b<(m.2.2.2.2.2.1.length:Int)then VV N m a c b (NE N m a d) (a==5)else VV N m a c b (NE N m a d) false
def VW(N:Nat)(m:Ao)(d:Int)(c:Y0 (W2))(a:Int)(b:Y0 (W2)->Int->Y1 (Y0 (W2)))(e:Y3):Y1 (Y0 (W2)):=if e=true then ck (0<=a/\a<(m.2.2.2.2.1.length:Int)) (ck ((c).length+([(m.2.2.2.2.1)[a.toNat]!.1]).length<=8796093022208) (ck (R64 (a+1)) (b (c++([(m.2.2.2.2.1)[a.toNat]!.1])) (a+1))))else NE N m d N c 0
def NF(N:Nat)(m:Ao)(a:Int):Nat->Y0 (W2)->Int->Y1 (Y0 (W2))
  |0,_,_=>none
  |d+1,c,b=>if b<(m.2.2.2.2.1.length:Int)then VW N m a c b (NF N m a d) (a==4)else VW N m a c b (NF N m a d) false
def fF(N:Nat)(m:Ao)(d:Int)(c:Y0 (W2))(a:Int)(b:Y0 (W2)->Int->Y1 (Y0 (W2)))(e:Y3):Y1 (Y0 (W2)):=if e=true then ck (0<=a/\a<(m.2.2.2.1.length:Int)) (ck ((c).length+([((m.2.2.2.1)[a.toNat]!).1]).length<=8796093022208) (ck (R64 (a+1)) (b ((c++([((m.2.2.2.1)[a.toNat]!).1]))) (a+1))))else NF N m d N c 0
def RY(N:Nat)(m:Ao)(a:Int):Nat->Y0 (W2)->Int->Y1 (Y0 (W2))
  |0,_,_=>none
  |d+1,c,b=>if b<(m.2.2.2.1.length:Int)then fF N m a c b (RY N m a d) (a==3)else fF N m a c b (RY N m a d) false
def fG(N:Nat)(m:Ao)(d:Int)(c:Y0 (W2))(a:Int)(b:Y0 (W2)->Int->Y1 (Y0 (W2)))(e:Y3):Y1 (Y0 (W2)):=if e=true then ck (0<=a/\a<(m.2.1.length:Int)) (ck ((c).length+([(m.2.1)[a.toNat]!.1]).length<=8796093022208) (ck (R64 (a+1)) (b (c++([(m.2.1)[a.toNat]!.1])) (a+1))))else RY N m d N c 0
def TY(N:Nat)(m:Ao)(a:Int):Nat->Y0 (W2)->Int->Y1 (Y0 (W2))
  |0,_,_=>none
  |d+1,c,b=>if b<(m.2.1.length:Int)then fG N m a c b (TY N m a d) (a==1)else fG N m a c b (TY N m a d) false
def rTm(N:Nat)(m:Ao)(a:Int):Y1 (Y0 (W2)):=TY N m a N ([]) 0
theorem rTg(N m b r)(a:rTm N m b=some r)(ro)(d:AC)(v:Aa2 ro d m):Does prog 26 #[vA (Ab m d),vI b] ro [] (p1 (λs_=>s_) 9 Aa4 r):=by
 unfold rTm at a
 refine Ak follows func26 Z 175 Z _ fz2 (λek=> ?_)
 refine Ad<|rA Z λc=>rz Z<|AZ Z<|Aa λK4 el=>AZ Z<|Ai<|BF _ (W6 (Ls:=[[(c,35,(Ab m d))],[]]) (Ls0:=[[(c,35,(Ab m d))]]) Z [0,1] Z)<|AL (λtt ll nn=> ∃(n6:Nat) (ae:Y0 (W2)) (h:Int),(TY N m b n6 ae h=some r)/\ ∃(R:Y2) (y:Y0 Bl),Sl 9 Aa4 R ae y/\Is [(1,vI b),(2,vP c 0),(5,R),(6,vI h)] (V2 [[(c,35,(Ab m d))],y]) tt ll/\nn=n6+1) (N+1) ?_ ?_
 ·exact⟨N,[],0,a,nS,[],Sl.nil,Ag Z Z,Z⟩
 clear a;rintro t l _ ⟨n6,ae,h,a,R,y,bk,⟨⟨T,rfl⟩,rfl⟩,rfl⟩
 rcases n6 with _|n6
 ·exact absurd a (by simp [TY])
 rw [TY] at a
 refine Aa λK7 em=>Aa λK8 en=>Ah<|rm 3 [0] Z<|rL (W9 v.1) Z<|rn 2 Z<|AS 3 22 [(1,vI b),(2,vP c 0),(5,R),(6,vI h)] vB (λb_=>fG N m b ae h (TY N m b n6) b_=some r) (λb9 a T=> ?_) (λF=> ?_)
 ·unfold fG at a
  refine Aj<|en _ _ ?_
  refine aB a Z (λct a=> ?_) (λct a=> ?_)
  ·refine Ac<|em _ _ ?_
   refine Aa λgq cu=>Ai<|Ah<|rm 4 [0] Z<|kC a λah a=> ?_
   obtain⟨_,⟨eo,fn,rfl⟩,hat15⟩:=RdN.at (E:=Ad1) v.1 (Cp ah)
   refine rI (W9 v.1) ah Z<|rF (W9 v.1) (Bp ah) Z<|Mk (vS ((m.2.1)[h.toNat]!.1)) (vs:=[vS ((m.2.1)[h.toNat]!.1),eo,vI ((m.2.1)[h.toNat]!.2.2.1),vI ((m.2.1)[h.toNat]!.2.2.2.1),vI ((m.2.1)[h.toNat]!.2.2.2.2.1),vI ((m.2.1)[h.toNat]!.2.2.2.2.2)]) (h.toNat*6) 0 Z Z (λo w z_=>At.mono z_.ro_cell hat15) Z<|cD 32 ?_
   refine KP (cs0:=[]) (Ls:=[[(c,35,(Ab m d))],y]) 9 Aa4 [(m.2.1)[h.toNat]!.1] [vS ((m.2.1)[h.toNat]!.1)] [V4 (⟨#[]⟩)] Z Z Z Z Z Z Z (by kernel_rfl) (by kernel_rfl) Z Z Z (λgr bv ep=> ?_)
   refine kC a λbl a=>cC 33<|Ln (cs0:=[]) (Ls:=[[(c,35,(Ab m d))],y,bv]) 1 (En:=Aa4) Z Z Z Z Z bk Z (AB ep (Al (Ls:=[[(c,35,(Ab m d))],y,bv]) (k:=2) Z Z)) Z Z Z Z Z (LB bl Z) (LA bl Z) Z (λer cv es=> ?_)
   refine rz Z<|cu _ _ ?_
   refine Ah<|rn 1 Z<|kC a λcw a=>rX cw Z<|rz Z<|fg _ (W5 [[(c,35,(Ab m d))],cv,bv] [0,1] Z) ?_
   exact⟨n6+1,by omega,n6,(ae++([(m.2.1)[h.toNat]!.1])),(h+1),a,er,cv,es,Ag Z Z,Z⟩
  refine AM<|el _ _ ?_
  refine Aa λgs cx=>AZ Z<|Ai<|BF _ (W5 [[(c,35,(Ab m d))],y] [0,1] Z)<|AL (λtt ll nn=> ∃(S:Nat) (af:Y0 (W2)) (Q:Int),(RY N m b S af Q=some r)/\ ∃(U:Y2) (z:Y0 Bl),Sl 9 Aa4 U af z/\Is [(1,vI b),(2,vP c 0),(5,U),(7,vI Q)] (V2 [[(c,35,(Ab m d))],z]) tt ll/\nn=S+1) (N+1) ?_ ?_
  ·exact⟨N,ae,0,a,R,y,bk,Ag Z Z,Z⟩
  clear a;rintro t l _ ⟨S,af,Q,a,U,z,bm,⟨⟨T,rfl⟩,rfl⟩,rfl⟩
  rcases S with _|S
  ·exact absurd a (by simp [RY])
  rw [RY] at a
  refine Aa λgu cy=>Aa λgv cz=>Ah<|rm 3 [0] Z<|rL (W8 v.2.2.1) Z<|rn 2 Z<|AS 3 42 [(1,vI b),(2,vP c 0),(5,U),(7,vI Q)] vB (λb_=>fF N m b af Q (RY N m b S) b_=some r) (λgw a T=> ?_) (λF=> ?_)
  ·unfold fF at a
   refine Aj<|cz _ _ ?_
   refine aB a Z (λda a=> ?_) (λda a=> ?_)
   ·refine Ac<|cy _ _ ?_
    refine Aa λgx db=>Ai<|Ah<|rm 4 [0] Z<|kC a λai a=>rI (W8 v.2.2.1) ai Z<|rF (W8 v.2.2.1) (Bp ai) Z<|rE (Ay v.2.2.1) ai 0 Z<|gB (Ls:=[[(c,35,(Ab m d))],z]) 9 Aa4 [((m.2.2.2.1)[Q.toNat]!).1] (λgy bw et=> ?_)
    refine kC a λbn a=>cC 53<|Ln (cs0:=[]) (Ls:=[[(c,35,(Ab m d))],z,bw]) 1 (En:=Aa4) Z Z Z Z Z bm Z (AB et (Al (Ls:=[[(c,35,(Ab m d))],z,bw]) (k:=2) Z Z)) Z Z Z Z Z (LB bn Z) (LA bn Z) Z (λeu dc ev=> ?_)
    refine rz Z<|db _ _ ?_
    refine Ah<|rn 1 Z<|kC a λdd a=>rX dd Z<|rz Z<|fg _ (W5 [[(c,35,(Ab m d))],dc,bw] [0,1] Z) ?_
    exact⟨S+1,by omega,S,(af++([((m.2.2.2.1)[Q.toNat]!).1])),(Q+1),a,eu,dc,ev,Ag Z Z,Z⟩
   refine AM<|cx _ _ ?_
   refine Aa λgz de=>AZ Z<|Ai<|BF _ (W5 [[(c,35,(Ab m d))],z] [0,1] Z)<|AL (λtt ll nn=> ∃(V:Nat) (ag:Y0 (W2)) (f:Int),(NF N m b V ag f=some r)/\ ∃(W:Y2) (A:Y0 Bl),Sl 9 Aa4 W ag A/\Is [(1,vI b),(2,vP c 0),(5,W),(8,vI f)] (V2 [[(c,35,(Ab m d))],A]) tt ll/\nn=V+1) (N+1) ?_ ?_
   ·exact⟨N,af,0,a,U,z,bm,Ag Z Z,Z⟩
   clear a;rintro t l _ ⟨V,ag,f,a,W,A,bo,⟨⟨T,rfl⟩,rfl⟩,rfl⟩
   rcases V with _|V
   ·exact absurd a (by simp [NF])
   rw [NF] at a
   refine Aa λha df=>Aa λhb dg=>Ah<|rm 3 [0] Z<|rL (W9 v.2.2.2.1) Z<|rn 2 Z<|AS 3 62 [(1,vI b),(2,vP c 0),(5,W),(8,vI f)] vB (λb_=>VW N m b ag f (NF N m b V) b_=some r) (λhc a T=> ?_) (λF=> ?_)
   ·unfold VW at a
    refine Aj<|dg _ _ ?_
    refine aB a Z (λdh a=> ?_) (λdh a=> ?_)
    ·refine Ac<|df _ _ ?_
     refine Aa λhd di=>Ai<|Ah<|rm 4 [0] Z<|kC a λaj a=> ?_
     obtain⟨_,⟨ew,ex,ey,fo,fp,fq,rfl⟩,hat56⟩:=RdN.at (E:=Ad8) v.2.2.2.1 (Cp aj)
     refine rI (W9 v.2.2.2.1) aj Z<|rF (W9 v.2.2.2.1) (Bp aj) Z<|Mk (vS ((m.2.2.2.2.1)[f.toNat]!.1)) (vs:=[vS ((m.2.2.2.2.1)[f.toNat]!.1),ew,ex,ey,vI ((m.2.2.2.2.1)[f.toNat]!.2.2.2.2)]) (f.toNat*5) 0 Z Z (λo w z_=>At.mono z_.ro_cell hat56) Z<|cD 72 ?_
     refine KP (cs0:=[]) (Ls:=[[(c,35,(Ab m d))],A]) 9 Aa4 [(m.2.2.2.2.1)[f.toNat]!.1] [vS ((m.2.2.2.2.1)[f.toNat]!.1)] [V4 (⟨#[]⟩)] Z Z Z Z Z Z Z (by kernel_rfl) (by kernel_rfl) Z Z Z (λhe bx ez=> ?_)
     refine kC a λbp a=>cC 73<|Ln (cs0:=[]) (Ls:=[[(c,35,(Ab m d))],A,bx]) 1 (En:=Aa4) Z Z Z Z Z bo Z (AB ez (Al (Ls:=[[(c,35,(Ab m d))],A,bx]) (k:=2) Z Z)) Z Z Z Z Z (LB bp Z) (LA bp Z) Z (λfa dj fb=> ?_)
     refine rz Z<|di _ _ ?_
     refine Ah<|rn 1 Z<|kC a λdk a=>rX dk Z<|rz Z<|fg _ (W5 [[(c,35,(Ab m d))],dj,bx] [0,1] Z) ?_
     exact⟨V+1,by omega,V,(ag++([(m.2.2.2.2.1)[f.toNat]!.1])),(f+1),a,fa,dj,fb,Ag Z Z,Z⟩
    refine AM<|de _ _ ?_
    refine Aa λhf dl=>AZ Z<|Ai<|BF _ (W5 [[(c,35,(Ab m d))],A] [0,1] Z)<|AL (λtt ll nn=> ∃(X:Nat) (L:Y0 (W2)) (g:Int),(NE N m b X L g=some r)/\ ∃(G:Y2) (i:Y0 Bl),Sl 9 Aa4 G L i/\Is [(1,vI b),(2,vP c 0),(5,G),(9,vI g)] (V2 [[(c,35,(Ab m d))],i]) tt ll/\nn=X+1) (N+1) ?_ ?_
    ·exact⟨N,ag,0,a,W,A,bo,Ag Z Z,Z⟩
    clear a;rintro t l _ ⟨X,L,g,a,G,i,ak,⟨⟨T,rfl⟩,rfl⟩,rfl⟩
    rcases X with _|X
    ·exact absurd a (by simp [NE])
    rw [NE] at a
    refine Aa λhg dm=>Aa λhh dn=>Ah<|rm 3 [0] Z<|rL (W9 v.2.2.2.2.1) Z<|rn 2 Z<|AS 3 82 [(1,vI b),(2,vP c 0),(5,G),(9,vI g)] vB (λb_=>VV N m b L g (NE N m b X) b_=some r) (λhi a T=> ?_) (λF=> ?_)
    ·unfold VV at a
     refine Aj<|dn _ _ ?_
     refine aB a Z (λdp a=> ?_) (λdp a=> ?_)
     ·refine Ac<|dm _ _ ?_
      refine Aa λhj dq=>Ai<|Ah<|rm 4 [0] Z<|kC a λal a=> ?_
      obtain⟨_,⟨fc,fd,fr,fs,rfl⟩,hat78⟩:=RdN.at (E:=Ac7) v.2.2.2.2.1 (Cp al)
      refine rI (W9 v.2.2.2.2.1) al Z<|rF (W9 v.2.2.2.2.1) (Bp al) Z<|Mk (vS ((m.2.2.2.2.2.1)[g.toNat]!.1)) (vs:=[vS ((m.2.2.2.2.2.1)[g.toNat]!.1),fc,fd]) (g.toNat*3) 0 Z Z (λo w z_=>At.mono z_.ro_cell hat78) Z<|cD 92 ?_
      refine KP (cs0:=[]) (Ls:=[[(c,35,(Ab m d))],i]) 9 Aa4 [(m.2.2.2.2.2.1)[g.toNat]!.1] [vS ((m.2.2.2.2.2.1)[g.toNat]!.1)] [V4 (⟨#[]⟩)] Z Z Z Z Z Z Z (by kernel_rfl) (by kernel_rfl) Z Z Z (λhk bz fe=> ?_)
      refine kC a λbq a=>cC 93<|Ln (cs0:=[]) (Ls:=[[(c,35,(Ab m d))],i,bz]) 1 (En:=Aa4) Z Z Z Z Z ak Z (AB fe (Al (Ls:=[[(c,35,(Ab m d))],i,bz]) (k:=2) Z Z)) Z Z Z Z Z (LB bq Z) (LA bq Z) Z (λff dr fh=> ?_)
      refine rz Z<|dq _ _ ?_
      refine Ah<|rn 1 Z<|kC a λds a=>rX ds Z<|rz Z<|fg _ (W5 [[(c,35,(Ab m d))],dr,bz] [0,1] Z) ?_
      exact⟨X+1,by omega,X,(L++([(m.2.2.2.2.2.1)[g.toNat]!.1])),(g+1),a,ff,dr,fh,Ag Z Z,Z⟩
     refine AM<|dl _ _ ?_
     refine Aa λhl dt=>AZ Z<|Ai<|BF _ (W5 [[(c,35,(Ab m d))],i] [0,1] Z)<|AL (λtt ll nn=> ∃(Y:Nat) (M:Y0 (W2)) (e:Int),(ND N m b Y M e=some r)/\ ∃(H:Y2) (j:Y0 Bl),Sl 9 Aa4 H M j/\Is [(1,vI b),(2,vP c 0),(5,H),(10,vI e)] (V2 [[(c,35,(Ab m d))],j]) tt ll/\nn=Y+1) (N+1) ?_ ?_
     ·exact⟨N,L,0,a,G,i,ak,Ag Z Z,Z⟩
     clear a;rintro t l _ ⟨Y,M,e,a,H,j,am,⟨⟨T,rfl⟩,rfl⟩,rfl⟩
     rcases Y with _|Y
     ·exact absurd a (by simp [ND])
     rw [ND] at a
     refine Aa λho du=>Aa λhp dv=>Ah<|rm 3 [0] Z<|rL (W9 v.2.2.2.2.2.1) Z<|rn 2 Z<|AS 3 102 [(1,vI b),(2,vP c 0),(5,H),(10,vI e)] vB (λb_=>VU N m b M e (ND N m b Y) b_=some r) (λhq a T=> ?_) (λF=> ?_)
     ·unfold VU at a
      refine Aj<|dv _ _ ?_
      refine aB a Z (λdw a=> ?_) (λdw a=> ?_)
      ·refine Ac<|du _ _ ?_
       refine Aa λhr dx=>Ai<|Ah<|rm 4 [0] Z<|kC a λan a=> ?_
       obtain⟨_,⟨fi,fj,fk,ft,fl,fm,rfl⟩,hat102⟩:=RdN.at (E:=Ad4) v.2.2.2.2.2.1 (Cp an)
       refine rI (W9 v.2.2.2.2.2.1) an Z<|rF (W9 v.2.2.2.2.2.1) (Bp an) Z<|Mk (vS ((m.2.2.2.2.2.2.1)[e.toNat]!.1)) (vs:=[vS ((m.2.2.2.2.2.2.1)[e.toNat]!.1),vI ((m.2.2.2.2.2.2.1)[e.toNat]!.2.1),fi,fj,vI ((m.2.2.2.2.2.2.1)[e.toNat]!.2.2.2.2.1),fk,vI ((m.2.2.2.2.2.2.1)[e.toNat]!.2.2.2.2.2.2)]) (e.toNat*7) 0 Z Z (λo w z_=>At.mono z_.ro_cell hat102) Z<|cD 112 ?_
       refine KP (cs0:=[]) (Ls:=[[(c,35,(Ab m d))],j]) 9 Aa4 [(m.2.2.2.2.2.2.1)[e.toNat]!.1] [vS ((m.2.2.2.2.2.2.1)[e.toNat]!.1)] [V4 (⟨#[]⟩)] Z Z Z Z Z Z Z (by kernel_rfl) (by kernel_rfl) Z Z Z (λfu ao dy=> ?_)
       refine kC a λap a=>cC 113<|Ln (cs0:=[]) (Ls:=[[(c,35,(Ab m d))],j,ao]) 1 (En:=Aa4) Z Z Z Z Z am Z (AB dy (Al (Ls:=[[(c,35,(Ab m d))],j,ao]) (k:=2) Z Z)) Z Z Z Z Z (LB ap Z) (LA ap Z) Z (λdz br ea=> ?_)
       refine rz Z<|dx _ _ ?_
       refine Ah<|rn 1 Z<|kC a λca a=>rX ca Z<|rz Z<|fg _ (W5 [[(c,35,(Ab m d))],br,ao] [0,1] Z) ?_
       exact⟨Y+1,by omega,Y,(M++([(m.2.2.2.2.2.2.1)[e.toNat]!.1])),(e+1),a,dz,br,ea,Ag Z Z,Z⟩
      refine AM<|dt _ _ ?_
      refine Aa λfv cb=>AZ Z<|Ai<|BF _ (W5 [[(c,35,(Ab m d))],j] [0,1] Z)<|AL (λtt ll nn=> ∃(B:Nat) (O:Y0 (W2)) (q:Int),(NC N m b B O q=some r)/\ ∃(I:Y2) (n:Y0 Bl),Sl 9 Aa4 I O n/\Is [(1,vI b),(2,vP c 0),(5,I),(11,vI q)] (V2 [[(c,35,(Ab m d))],n]) tt ll/\nn=B+1) (N+1) ?_ ?_
      ·exact⟨N,M,0,a,H,j,am,Ag Z Z,Z⟩
      clear a;rintro t l _ ⟨B,O,q,a,I,n,aq,⟨⟨T,rfl⟩,rfl⟩,rfl⟩
      rcases B with _|B
      ·exact absurd a (by simp [NC])
      rw [NC] at a
      refine Aa λfw cc=>Aa λfx cd=>Ah<|rm 3 [0] Z<|rL (W8 v.2.2.2.2.2.2.2.2.2.2.2.1) Z<|rn 2 Z<|AS 3 122 [(1,vI b),(2,vP c 0),(5,I),(11,vI q)] vB (λb_=>VT N m b O q (NC N m b B) b_=some r) (λfy a T=> ?_) (λF=> ?_)
      ·unfold VT at a
       refine Aj<|cd _ _ ?_
       refine aB a Z (λce a=> ?_) (λce a=> ?_)
       ·refine Ac<|cc _ _ ?_
        refine Aa λfz cf=>Ai<|Ah<|rm 4 [0] Z<|kC a λab a=>rI (W8 v.2.2.2.2.2.2.2.2.2.2.2.1) ab Z<|rF (W8 v.2.2.2.2.2.2.2.2.2.2.2.1) (Bp ab) Z<|rE (Ay v.2.2.2.2.2.2.2.2.2.2.2.1) ab 0 Z<|cD 132 ?_
        refine KP (cs0:=[]) (Ls:=[[(c,35,(Ab m d))],n]) 9 Aa4 [(((D8 m).2.2.2.2.1)[q.toNat]!).1] [vS ((((D8 m).2.2.2.2.1)[q.toNat]!).1)] [V4 (⟨#[]⟩)] Z Z Z Z Z Z Z (by kernel_rfl) (by kernel_rfl) Z Z Z (λga ar eb=> ?_)
        refine kC a λau a=>cC 133<|Ln (cs0:=[]) (Ls:=[[(c,35,(Ab m d))],n,ar]) 1 (En:=Aa4) Z Z Z Z Z aq Z (AB eb (Al (Ls:=[[(c,35,(Ab m d))],n,ar]) (k:=2) Z Z)) Z Z Z Z Z (LB au Z) (LA au Z) Z (λec bs ed=> ?_)
        refine rz Z<|cf _ _ ?_
        refine Ah<|rn 1 Z<|kC a λcg a=>rX cg Z<|rz Z<|fg _ (W5 [[(c,35,(Ab m d))],bs,ar] [0,1] Z) ?_
        exact⟨B+1,by omega,B,(O++([(((D8 m).2.2.2.2.1)[q.toNat]!).1])),(q+1),a,ec,bs,ed,Ag Z Z,Z⟩
       refine AM<|cb _ _ ?_
       refine Aa λgb ch=>AZ Z<|Ai<|BF _ (W5 [[(c,35,(Ab m d))],n] [0,1] Z)<|AL (λtt ll nn=> ∃(C:Nat) (P:Y0 (W2)) (s:Int),(NB N m b C P s=some r)/\ ∃(J:Y2) (p:Y0 Bl),Sl 9 Aa4 J P p/\Is [(1,vI b),(2,vP c 0),(5,J),(12,vI s)] (V2 [[(c,35,(Ab m d))],p]) tt ll/\nn=C+1) (N+1) ?_ ?_
       ·exact⟨N,O,0,a,I,n,aq,Ag Z Z,Z⟩
       clear a;rintro t l _ ⟨C,P,s,a,J,p,av,⟨⟨T,rfl⟩,rfl⟩,rfl⟩
       rcases C with _|C
       ·exact absurd a (by simp [NB])
       rw [NB] at a
       refine Aa λgc ci=>Aa λgd cj=>Ah<|rm 3 [0] Z<|rL (W8 v.2.2.2.2.2.2.2.2.2.2.2.2.1) Z<|rn 2 Z<|AS 3 142 [(1,vI b),(2,vP c 0),(5,J),(12,vI s)] vB (λb_=>VS N m b P s (NB N m b C) b_=some r) (λgf a T=> ?_) (λF=> ?_)
       ·unfold VS at a
        refine Aj<|cj _ _ ?_
        refine aB a Z (λck a=> ?_) (λck a=> ?_)
        ·refine Ac<|ci _ _ ?_
         refine Aa λgg cl=>Ai<|Ah<|rm 4 [0] Z<|kC a λac a=>rI (W8 v.2.2.2.2.2.2.2.2.2.2.2.2.1) ac Z<|rF (W8 v.2.2.2.2.2.2.2.2.2.2.2.2.1) (Bp ac) Z<|rE (Ay v.2.2.2.2.2.2.2.2.2.2.2.2.1) ac 0 Z<|cD 152 ?_
         refine KP (cs0:=[]) (Ls:=[[(c,35,(Ab m d))],p]) 9 Aa4 [(((D8 m).2.2.2.2.2.1)[s.toNat]!).1] [vS ((((D8 m).2.2.2.2.2.1)[s.toNat]!).1)] [V4 (⟨#[]⟩)] Z Z Z Z Z Z Z (by kernel_rfl) (by kernel_rfl) Z Z Z (λgh aw ee=> ?_)
         refine kC a λax a=>cC 153<|Ln (cs0:=[]) (Ls:=[[(c,35,(Ab m d))],p,aw]) 1 (En:=Aa4) Z Z Z Z Z av Z (AB ee (Al (Ls:=[[(c,35,(Ab m d))],p,aw]) (k:=2) Z Z)) Z Z Z Z Z (LB ax Z) (LA ax Z) Z (λef bt eg=> ?_)
         refine rz Z<|cl _ _ ?_
         refine Ah<|rn 1 Z<|kC a λcm a=>rX cm Z<|rz Z<|fg _ (W5 [[(c,35,(Ab m d))],bt,aw] [0,1] Z) ?_
         exact⟨C+1,by omega,C,(P++([(((D8 m).2.2.2.2.2.1)[s.toNat]!).1])),(s+1),a,ef,bt,eg,Ag Z Z,Z⟩
        refine AM<|ch _ _ ?_
        refine Aa λgi cn=>AZ Z<|Ai<|BF _ (W5 [[(c,35,(Ab m d))],p] [0,1] Z)<|AL (λtt ll nn=> ∃(D:Nat) (aa:Y0 (W2)) (u:Int),(NA m b D aa u=some r)/\ ∃(K:Y2) (x:Y0 Bl),Sl 9 Aa4 K aa x/\Is [(1,vI b),(2,vP c 0),(5,K),(13,vI u)] (V2 [[(c,35,(Ab m d))],x]) tt ll/\nn=D+1) (N+1) ?_ ?_
        ·exact⟨N,P,0,a,J,p,av,Ag Z Z,Z⟩
        clear a;rintro t l _ ⟨D,aa,u,a,K,x,ay,⟨⟨T,rfl⟩,rfl⟩,rfl⟩
        rcases D with _|D
        ·exact absurd a (by simp [NA])
        rw [NA] at a
        refine Aa λgj co=>Aa λgk cp=>Ah<|rm 3 [0] Z<|rL (W8 v.2.2.2.2.2.2.2.2.2.2.2.2.2) Z<|rn 2 Z<|AS 3 162 [(1,vI b),(2,vP c 0),(5,K),(13,vI u)] vB (λb_=>VR m aa u (NA m b D) b_=some r) (λgl a T=> ?_) (λF=> ?_)
        ·unfold VR at a
         refine Aj<|cp _ _ ?_
         refine aB a Z (λcq a=> ?_) (λcq a=> ?_)
         ·refine Ac<|co _ _ ?_
          refine Aa λgm cr=>Ai<|Ah<|rm 4 [0] Z<|kC a λad a=>rI (W8 v.2.2.2.2.2.2.2.2.2.2.2.2.2) ad Z<|rF (W8 v.2.2.2.2.2.2.2.2.2.2.2.2.2) (Bp ad) Z<|rE (Ay v.2.2.2.2.2.2.2.2.2.2.2.2.2) ad 0 Z<|cD 172 ?_
          refine KP (cs0:=[]) (Ls:=[[(c,35,(Ab m d))],x]) 9 Aa4 [(((D8 m).2.2.2.2.2.2.1)[u.toNat]!).1] [vS ((((D8 m).2.2.2.2.2.2.1)[u.toNat]!).1)] [V4 (⟨#[]⟩)] Z Z Z Z Z Z Z (by kernel_rfl) (by kernel_rfl) Z Z Z (λgn az eh=> ?_)
          refine kC a λba a=>cC 173<|Ln (cs0:=[]) (Ls:=[[(c,35,(Ab m d))],x,az]) 1 (En:=Aa4) Z Z Z Z Z ay Z (AB eh (Al (Ls:=[[(c,35,(Ab m d))],x,az]) (k:=2) Z Z)) Z Z Z Z Z (LB ba Z) (LA ba Z) Z (λei bu ej=> ?_)
          refine rz Z<|cr _ _ ?_
          refine Ah<|rn 1 Z<|kC a λcs a=>rX cs Z<|rz Z<|fg _ (W5 [[(c,35,(Ab m d))],bu,az] [0,1] Z) ?_
          exact⟨D+1,by omega,D,(aa++([(((D8 m).2.2.2.2.2.2.1)[u.toNat]!).1])),(u+1),a,ei,bu,ej,Ag Z Z,Z⟩
         refine AM<|cn _ _ ?_
         refine AZ Z ?_
         cases a
         refine AU (λhn=>Iq (v0:=K) ay (Fu (W5 [[(c,35,(Ab m d))],x] [1] Z)) Z (Gl Z))
        rcases bb:(decide (u<((D8 m).2.2.2.2.2.2.1.length:Int)))with _|_
        ·replace a:=iF bb a
         refine rn 3 Z ?_
         exact F _ _ a Z Z
        replace a:=iD bb a
        refine rn 3 Z ?_
        exact F _ _ a Z Z
       rcases bc:(decide (s<((D8 m).2.2.2.2.2.1.length:Int)))with _|_
       ·replace a:=iF bc a
        refine rn 3 Z ?_
        exact F _ _ a Z Z
       replace a:=iD bc a
       refine rn 3 Z ?_
       exact F _ _ a Z Z
      rcases bd:(decide (q<((D8 m).2.2.2.2.1.length:Int)))with _|_
      ·replace a:=iF bd a
       refine rn 3 Z ?_
       exact F _ _ a Z Z
      replace a:=iD bd a
      refine rn 3 Z ?_
      exact F _ _ a Z Z
     rcases be:(decide (e<(m.2.2.2.2.2.2.1.length:Int)))with _|_
     ·replace a:=iF be a
      refine rn 3 Z ?_
      exact F _ _ a Z Z
     replace a:=iD be a
     refine rn 3 Z ?_
     exact F _ _ a Z Z
    rcases bf:(decide (g<(m.2.2.2.2.2.1.length:Int)))with _|_
    ·replace a:=iF bf a
     refine rn 3 Z ?_
     exact F _ _ a Z Z
    replace a:=iD bf a
    refine rn 3 Z ?_
    exact F _ _ a Z Z
   rcases bg:(decide (f<(m.2.2.2.2.1.length:Int)))with _|_
   ·replace a:=iF bg a
    refine rn 3 Z ?_
    exact F _ _ a Z Z
   replace a:=iD bg a
   refine rn 3 Z ?_
   exact F _ _ a Z Z
  rcases bh:(decide (Q<(m.2.2.2.1.length:Int)))with _|_
  ·replace a:=iF bh a
   refine rn 3 Z ?_
   exact F _ _ a Z Z
  replace a:=iD bh a
  refine rn 3 Z ?_
  exact F _ _ a Z Z
 rcases bi:(decide (h<(m.2.1.length:Int)))with _|_
 ·replace a:=iF bi a
  refine rn 3 Z ?_
  exact F _ _ a Z Z
 replace a:=iD bi a
 refine rn 3 Z ?_
 exact F _ _ a Z Z
def Fb(d:Y0 (W2×Int))(c b:Int)(a:Int->Int->Y1 Int)(e:Y3):Y1 Int:=if e=true then some 9 else ck ((R64 (c+(d[b.toNat]!).2))) (ck (R64 (b+1)) (a (c+(d[b.toNat]!).2) (b+1)))
def CD(N:Nat)(b:Y0 (W2×Int))(e c:Int)(a:Int->Int->Y1 Int):Nat->Int->Y1 Int
  |0,_=>none
  |g+1,d=>if d<c then ck (0<=d/\d<(b.length:Int)) ((EK N ((b[d.toNat]!).1) ((b[c.toNat]!).1)).bind λf=>if f=true then some 6 else ck (R64 (d+1)) ((CD N b e c a g) (d+1)))else if((b[c.toNat]!).2:Int)<1 then Fb b e c a true else Fb b e c a (decide (((b[c.toNat]!).2:Int)>128))
def GA(a:Y3):Y1 Int:=if a=true then some 7 else some 0
def CF(a:Int)(b:Y3):Y1 Int:=if b=true then GA true else GA (a !=0)
def FY(a:Y3):Y1 Int:=if a=true then some 7 else some 0
def ED(a:Int)(b:Y3):Y1 Int:=if b=true then FY true else FY (decide (a>4096))
def EE(a:Int)(b:Y3):Y1 Int:=if b=true then ED a true else ED a (decide (a<0))
def EF(c a:Int)(b:Y3):Y1 Int:=if b=true then EE a true else EE a (decide (c>64))
def Dj(a b:Int)(c:Y3):Y1 Int:=if c=true then EF a b true else EF a b (decide (a<1))
def Dk(b:Y0 (W2×Int))(a d c:Int)(e:Y3):Y1 Int:=if e=true then Dj d c true else ck (0<=a/\a<(b.length:Int)) (Dj d c (decide (((b[a.toNat]!).2:Int)>16)))
def Dl(a:Y0 (W2×Int))(b d c:Int)(e:Y3):Y1 Int:=if e=true then Dk a b d c true else Dk a b d c (decide (b>=(a.length:Int)))
def CE(b:Y0 (W2×Int))(a d c:Int)(e:Y3):Y1 Int:=if e=true then Dl b a d c true else Dl b a d c (decide (a<0))
def BW(N:Nat)(b:Y0 (W2×Int))(f e g d:Int):Nat->Int->Int->Y1 Int
  |0,_,_=>none
  |h+1,a,c=>if c<(b.length:Int)then ck (0<=c/\c<(b.length:Int)) ((Dq N ((b[c.toNat]!).1)).bind λi=>if i=true then CD N b a c (BW N b f e g d h) N 0 else some 4)else ck (0<=a/\a<=9223372036854775807) (if(a%8:Int)≠0 then some 9 else if f=0 then if(e:Int)≠0 then CF d true else CF d (g !=0)else if f<1 then CE b e g d true else CE b e g d (decide (f>64)))
def GZ(N:Nat)(b:W2)(a:Y0 (W2×Int))(d c f e:Int):Y1 Int:=(Dq N b).bind λg=>if g=true then if(a.length:Int)>16 then some 2 else if(a.length:Int)=0 then some 5 else BW N a d c f e N 0 0 else some 4
theorem QO(N u f k i h e r)(a:GZ N u f k i h e=some r)(ro n)(c:Rd Ab3 ro n f):Does prog 27 #[vA #[vS u,n,vI k,vI i,vI h,vI e]] ro [] (pV (vI r)):=by
 unfold GZ at a
 refine Ak follows func27 Z 131 Z _ fz1 (λaw=> ?_)
 refine Ad<|rA Z λo=>rz Z<|Aa λK3 ax=>Ad<|rm 2 [0] Z<|kB a λr5 ay a=>rc _ (cF Vv) (IG N u _ ay)<|rz Z<|BS _ Z (λI=> ?_) (λI=> ?_)
 ·replace a:=ifn (Bool.eq_false_iff.1 (DG I)) a
  refine AZ Z ?_
  cases a
  exact aR eV1
 replace a:=ifp (DH I) a
 refine Ac<|ax _ _ ?_
 refine Aa λK9 az=>Ad<|rm 2 [0] Z<|rL (W8 c) Z<|rz Z<|aD a Z (λK a=> ?_) (λK a=> ?_)
 ·refine AZ Z ?_
  cases a
  exact aR eV1
 refine Ac<|az _ _ ?_
 refine Aa λbj L=>Ad<|rm 2 [0] Z<|rL (W8 c) Z<|rz Z<|aE a Z (λM a=> ?_) (λM a=> ?_)
 ·refine AZ Z ?_
  cases a
  exact aR eV1
 refine Ac<|L _ _ ?_
 refine AZ Z<|Aa λbk O=>AZ Z<|Ai<|AL (λtt ll nn=> ∃(j:Nat) (b:Int) (g:Int),(BW N f k i h e j b g=some r)/\Is [(1,vP o 0),(3,vI b),(4,vI g)] (sK o u n k i h e) tt ll/\nn=j+1) (N+1) ?_ ?_
 ·exact⟨N,0,0,a,Ag Z Z,Z⟩
 clear a;rintro t l _ ⟨j,b,g,a,⟨⟨T,rfl⟩,rfl⟩,rfl⟩
 rcases j with _|j
 ·exact absurd a (by simp [BW])
 rw [BW] at a
 refine Aa λbl P=>Ad<|rm 3 [0] Z<|rL (W8 c) Z<|rz Z<|aD a Z (λQ a=> ?_) (λQ a=> ?_)
 ·refine Ac<|P _ _ ?_
  refine Aa λbm R=>Ai<|Ad<|rm 3 [0] Z<|kC a λw a=>rI (W8 c) w Z<|rE (Ay c) w 0 Z<|rA Z λJ=>ry [0] Z<|Aa λbn S=>Ad<|rm 2 [0] Z<|kB a λbo U a=>rc _ (cF Vv) (IG N _ _ U)<|rz Z<|BS _ Z (λp=> ?_) (λp=> ?_)
  ·replace a:=ifn (Bool.eq_false_iff.1 (DG p)) a
   refine AZ Z ?_
   cases a
   exact aR eV1
  replace a:=ifp (DH p) a
  refine Ac<|S _ _ ?_
  refine Aa λbp V=>AZ Z<|Ai<|AL (λtt ll nn=> ∃(m:Nat) (v:Int),(CD N f b g (BW N f k i h e j) m v=some r)/\Is [(1,vP o 0),(3,vI b),(4,vI g),(5,vP J 0),(6,vI v)] [(J,136, #[vS ((f[g.toNat]!).1),vI ((f[g.toNat]!).2)]),(o,97, #[vS u,n,vI k,vI i,vI h,vI e])] tt ll/\nn=m+1) (N+1) ?_ ?_
  ·exact⟨N,0,a,Ag Z Z,Z⟩
  clear a;rintro t l _ ⟨m,v,a,⟨⟨T,rfl⟩,rfl⟩,rfl⟩
  rcases m with _|m
  ·exact absurd a (by simp [CD])
  rw [CD] at a
  refine Aa λbq W=>AZ Z<|aD a Z (λX a=> ?_) (λX a=> ?_)
  ·refine Ac<|W _ _ ?_
   refine Aa λbr Y=>Ai<|Aa λbs aa=>HS [] (by decide+kernel) (λhn=>AN)<|rm 3 [1] Z<|kC a λq a=>rI (W8 c) q Z<|rF (W8 c) (Bp q) Z<|rE (Ay c) q 0 Z<|rm 2 [0] Z<|kB a λbt ab a=>rc _ (cF bB) (Kr N _ _ _ ab)<|Aj<|aa _ _ ?_
   refine aB a Z (λac a=> ?_) (λac a=> ?_)
   ·refine AZ Z ?_
    cases a
    exact aR eV1
   refine Ac<|Y _ _ ?_
   refine Ah<|rn 1 Z<|kC a λad a=>rX ad Z<|rz Z<|fg _ (Sub.of (suK _ (suK _ suN))) ?_
   exact⟨m+1,by omega,m,(v+1),a,Ag Z Z,Z⟩
  refine AM<|V _ _ ?_
  refine Aa λbu ae=>Aa λbv af=>Ah<|rm 4 [0] Z<|AS 4 56 [(1,vP o 0),(3,vI b),(4,vI g),(5,vP J 0)] vB (λb_=>Fb f b g (BW N f k i h e j) b_=some r) (λbw a T=> ?_) (λd=> ?_)
  ·unfold Fb at a
   refine Aj<|af _ _ ?_
   refine aB a Z (λag a=> ?_) (λag a=> ?_)
   ·refine AZ Z ?_
    cases a
    exact aR eV1
   refine Ac<|ae _ _ ?_
   refine Ah<|rm 3 [0] Z<|kC a λah a=>rX ah Z<|rz Z<|R _ _ ?_
   refine Ah<|rn 1 Z<|kC a λai a=>rX ai Z<|rz Z<|fg _ (Sub.of (suC _ (suK _ suN))) ?_
   exact⟨j+1,by omega,j,(b+(f[g.toNat]!).2),(g+1),a,Ag Z Z,Z⟩
  rcases x:(decide (((f[g.toNat]!).2:Int)<1))with _|_
  ·replace a:=iF x a
   refine rn 1 Z<|r_y Z<|rm 3 [0] Z ?_
   exact d _ _ a Z Z
  replace a:=iD x a
  refine rn 4 Z ?_
  exact d _ _ a Z Z
 refine AM<|O _ _ ?_
 refine Aa λbx aj=>Ad<|rn 1 Z<|kC a λak a=>r_X (vI (b%8)) Z (SY ak.1) Z<|rz Z<|aN a Z (λal a=> ?_) (λal a=> ?_)
 ·refine AZ Z ?_
  cases a
  exact aR eV1
 refine Ac<|aj _ _ ?_
 refine Aa λbz am=>AY [0] Z<|aE a Z (λan a=> ?_) (λan a=> ?_)
 ·refine Aa λca ao=>Aa λcb ap=>Ah<|rm 4 [0] Z<|AS 4 74 [(1,vP o 0)] vB (λb_=>CF e b_=some r) (λba a T=> ?_) (λd=> ?_)
  ·unfold CF at a
   refine rn 1 Z<|AS 4 79 [] vB (λb_=>GA b_=some r) (λcc a T=> ?_) (λd=> ?_)
   ·unfold GA at a
    refine Aj<|ap _ _ ?_
    refine aB a Z (λaq a=> ?_) (λaq a=> ?_)
    ·refine AZ Z ?_
     cases a
     exact aR eV1
    refine Ac<|ao _ _ ?_
    refine AZ Z ?_
    cases a
    exact aR eV1
   rcases y:ba with _|_
   ·replace a:=iB y a
    refine rn 1 Z<|r_y Z<|rm 3 [0] Z ?_
    exact d _ _ a Z Z
   replace a:=ifp y a
   refine rn 4 Z ?_
   exact d _ _ a Z Z
  rcases z:(i !=0)with _|_
  ·replace a:=iM z a
   refine rn 1 Z<|r_y Z<|rm 3 [0] Z ?_
   exact d _ _ a Z Z
  replace a:=iN z a
  refine rn 4 Z ?_
  exact d _ _ a Z Z
 refine Ac<|am _ _ ?_
 refine Aa λcd ar=>Aa λce au=>Ah<|rm 4 [0] Z<|AS 4 87 [(1,vP o 0)] vB (λb_=>CE f i h e b_=some r) (λbb a T=> ?_) (λd=> ?_)
 ·unfold CE at a
  refine rn 1 Z<|AS 4 92 [(1,vP o 0)] vB (λb_=>Dl f i h e b_=some r) (λbc a T=> ?_) (λd=> ?_)
  ·unfold Dl at a
   refine rn 1 Z<|AS 7 100 [(1,vP o 0)] vB (λb_=>Dk f i h e b_=some r) (λbd a T=> ?_) (λd=> ?_)
   ·unfold Dk at a
    refine rn 1 Z<|AS 9 110 [(1,vP o 0)] vB (λb_=>Dj h e b_=some r) (λbe a T=> ?_) (λd=> ?_)
    ·unfold Dj at a
     refine rn 1 Z<|AS 4 115 [(1,vP o 0)] vB (λb_=>EF h e b_=some r) (λbf a T=> ?_) (λd=> ?_)
     ·unfold EF at a
      refine rn 1 Z<|AS 4 120 [(1,vP o 0)] vB (λb_=>EE e b_=some r) (λbg a T=> ?_) (λd=> ?_)
      ·unfold EE at a
       refine rn 1 Z<|AS 4 125 [(1,vP o 0)] vB (λb_=>ED e b_=some r) (λbh a T=> ?_) (λd=> ?_)
       ·unfold ED at a
        refine rn 1 Z<|AS 4 130 [] vB (λb_=>FY b_=some r) (λcf a T=> ?_) (λd=> ?_)
        ·unfold FY at a
         refine Aj<|au _ _ ?_
         refine aB a Z (λav a=> ?_) (λav a=> ?_)
         ·refine AZ Z ?_
          cases a
          exact aR eV1
         refine Ac<|ar _ _ ?_
         refine AZ Z ?_
         cases a
         exact aR eV1
        rcases A:bh with _|_
        ·replace a:=iB A a
         refine rn 1 Z<|r_y Z<|rm 3 [0] Z ?_
         exact d _ _ a Z Z
        replace a:=ifp A a
        refine rn 4 Z ?_
        exact d _ _ a Z Z
       rcases B:bg with _|_
       ·replace a:=iB B a
        refine rn 1 Z<|r_y Z<|rm 3 [0] Z ?_
        exact d _ _ a Z Z
       replace a:=ifp B a
       refine rn 4 Z ?_
       exact d _ _ a Z Z
      rcases C:bf with _|_
      ·replace a:=iB C a
       refine rn 1 Z<|r_y Z<|rm 3 [0] Z ?_
       exact d _ _ a Z Z
      replace a:=ifp C a
      refine rn 4 Z ?_
      exact d _ _ a Z Z
     rcases D:be with _|_
     ·replace a:=iB D a
      refine rn 1 Z<|r_y Z<|rm 3 [0] Z ?_
      exact d _ _ a Z Z
     replace a:=ifp D a
     refine rn 4 Z ?_
     exact d _ _ a Z Z
    rcases E:bd with _|_
    ·replace a:=iB E a
     refine rn 1 Z<|r_y Z<|rm 2 [0] Z<|r_y Z<|rm 1 [0] Z<|r_y Z<|kC a λs a=>rI (W8 c) s Z<|r_y Z<|rF (W8 c) (Bp s) Z<|r_y Z<|rE (Ay c) s 1 Z<|rn 2 Z ?_
     exact d _ _ a Z Z
    replace a:=ifp E a
    refine rn 9 Z ?_
    exact d _ _ a Z Z
   rcases F:bc with _|_
   ·replace a:=iB F a
    refine rn 1 Z<|r_y Z<|rm 2 [0] Z<|r_y Z<|rm 1 [0] Z<|r_y Z<|rL (W8 c) Z<|rn 2 Z ?_
    exact d _ _ a Z Z
   replace a:=ifp F a
   refine rn 7 Z ?_
   exact d _ _ a Z Z
  rcases G:bb with _|_
  ·replace a:=iB G a
   refine rn 1 Z<|r_y Z<|rm 3 [0] Z ?_
   exact d _ _ a Z Z
  replace a:=ifp G a
  refine rn 4 Z ?_
  exact d _ _ a Z Z
 rcases H:(decide (k<1))with _|_
 ·replace a:=iF H a
  refine rn 1 Z<|r_y Z<|rm 3 [0] Z ?_
  exact d _ _ a Z Z
 replace a:=iD H a
 refine rn 4 Z ?_
 exact d _ _ a Z Z
def CT(N:Nat)(b:Y0 (W2)):Nat->Int->Y1 Int
  |0,_=>none
  |d+1,a=>ck ((R64 ((b.length:Int) - 1))) (if a<((b.length:Int) - 1)then ck (0<=a/\a<(b.length:Int)) ((EK N (b[a.toNat]!) (b[(((b.length:Int) - 1)).toNat]!)).bind λc=>if c=true then some 6 else ck (R64 (a+1)) ((CT N b d) (a+1)))else some 0)
def Hv(N:Nat)(a:Y0 (W2)):Y1 Int:=ck ((R64 ((a.length:Int) - 1))) (ck (0<=((a.length:Int) - 1)/\((a.length:Int) - 1)<(a.length:Int)) ((Dq N (a[(((a.length:Int) - 1)).toNat]!)).bind λb=>if b=true then CT N a N 0 else some 4))
theorem QY(N s r)(a:Hv N s=some r)(y g)(c:Rd Aa4 y g s):Does prog 28 #[g] y [] (pV (vI r)):=by
 unfold Hv at a
 refine Ak follows func28 Z 27 Z _ fz1 (λu=> ?_)
 refine AZ Z<|Ad<|rn 2 Z<|rL (W8 c) Z<|kC a λv a=>rX v Z<|kC a λh a=>rI (W8 c) h Z<|rE (Ay c) h 0 Z<|rz Z<|Aa λD w=>Ad<|rn 1 Z<|kB a λE x a=>rc _ (cF Vv) (IG N _ _ x)<|rz Z<|BS _ Z (λf=> ?_) (λf=> ?_)
 ·replace a:=ifn (Bool.eq_false_iff.1 (DG f)) a
  refine AZ Z ?_
  cases a
  exact aR eV1
 replace a:=ifp (DH f) a
 refine Ac<|w _ _ ?_
 refine Aa λz i=>AZ Z<|Ai<|AL (λtt ll nn=> ∃(b:Nat) (d:Int),(CT N s b d=some r)/\Is [(0,g),(3,vS (s[(((s.length:Int) - 1)).toNat]!)),(4,vI d)] [] tt ll/\nn=b+1) (N+1) ?_ ?_
 ·exact⟨N,0,a,Ag Z Z,Z⟩
 clear a;rintro t l _ ⟨b,d,a,⟨⟨T,rfl⟩,rfl⟩,rfl⟩
 rcases b with _|b
 ·exact absurd a (by simp [CT])
 rw [CT] at a
 refine Aa λA j=>Ad<|rn 2 Z<|rL (W8 c) Z<|kC a λk a=>rX k Z<|rz Z<|aD a Z (λm a=> ?_) (λm a=> ?_)
 ·refine Ac<|j _ _ ?_
  refine Aa λB n=>Ai<|Ad<|rn 2 Z<|kC a λe a=>rI (W8 c) e Z<|rE (Ay c) e 0 Z<|rn 1 Z<|kB a λC o a=>rc _ (cF bB) (Kr N _ _ _ o)<|Aj<|aB a Z (λp a=> ?_) (λp a=> ?_)
  ·refine AZ Z ?_
   cases a
   exact aR eV1
  refine Ac<|n _ _ ?_
  refine Ah<|rn 1 Z<|kC a λq a=>rX q Z<|rz Z<|fg _ (Sub.of suN) ?_
  exact⟨b+1,by omega,b,(d+1),a,Ag Z Z,Z⟩
 refine AM<|i _ _ ?_
 refine AZ Z ?_
 cases a
 exact aR eV1
def Gy(a:Y3):Y1 Int:=if a=true then some 7 else some 0
def FA(N:Nat)(m:Ao)(b a:Int):Y1 Int:=if b=0 then(Dp N m.2.2.1).bind λc=>if a<0 then some 5 else if a>=(c.length:Int)then some 5 else ck (0<=a/\a<(c.length:Int)) (ck (0<=(c[a.toNat]!).1/\(c[a.toNat]!).1<(m.2.2.1.length:Int)) (if(((m.2.2.1)[((c[a.toNat]!).1).toNat]!).2.2:Int)≠0 then some 5 else some 0))else if b=1 then(Dz N m a).bind λd=>if d.2.2=true then some 0 else some 5 else if(b:Int)≠2 then some 10 else if a<1 then Gy true else Gy (decide (a>64))
theorem QN(N m h b r)(a:FA N m h b=some r)(O)(n:AC)(C:Aa2 O n m):Does prog 114 #[vA (Ab m n),vA #[vI h,vI b]] O [] (pV (vI r)):=by
 unfold FA at a
 refine Ak follows func114 Z 63 Z _ fz2 (λD=> ?_)
 refine Ad<|rA Z λJ=>rA Z λK=>rz Z<|Aa λK4 E=>AY [0] Z<|aE a Z (λF a=> ?_) (λF a=> ?_)
 ·refine Ad<|rm 2 [1] Z<|kB a λL G a=>gS (Ls:=[(cT K h b),[(J,35,(Ab m n))]]) (cF Vu) (λo w z_=>IF N m.2.2.1 _ G z_.view n.2.1 ((Ay C.2.1) o w z_)) (λH I g=> ?_)
  refine rz Z<|Aa λP p=>Aa λQ c=>HS [] (by decide+kernel) (λhn=>AN)<|rm 4 [0] Z ?_
  rcases i:(decide (b<0))with _|_
  ·replace a:=iF i a
   refine rn 1 Z<|r_y Z<|rm 2 [0] Z<|r_y Z<|rL (W7 g) Z<|rn 3 Z ?_
   rcases j:(decide (b>=(L.length:Int)))with _|_
   ·replace a:=iF j a
    refine rn 1 Z<|r_y Z<|rm 3 [1] Z<|r_y Z<|rm 1 [0] Z<|r_y Z<|kC a λd a=>rI (W7 g) d Z<|r_y Z<|r_W (elA H (b.toNat*2+0)) Z (GV (iS 0 Z Z Z Z (W7 g) (Bp d) (by decide)))<|r_y Z<|rE (AB g (Al (Ls:=[(cT K h b),[(J,35,(Ab m n))],I]) (k:=2) Z Z)) d 0 Z<|r_y Z<|kC a λe a=>rI (W8 C.2.1) e Z<|r_y Z<|rF (W8 C.2.1) (Bp e) Z<|r_y Z<|rE (Ay C.2.1) e 2 Z<|rz Z<|c _ _ ?_
    refine CJ [(38,vB (((((m.2.2.1)[((L[b.toNat]!).1).toNat]!).2.2:Int) !=0)))] Z (λT=> ?_)
    refine aN a Z (λq a=> ?_) (λq a=> ?_)
    ·refine AZ Z ?_
     cases a
     exact aR eV1
    refine Ac<|p _ _ ?_
    refine AZ Z ?_
    cases a
    exact aR eV1
   replace a:=iD j a
   refine rz Z<|c _ _ ?_
   refine CJ [(38,vB true)] Z (λT=> ?_)
   refine JO Z ?_
   refine AZ Z ?_
   cases a
   exact aR eV1
  replace a:=iD i a
  refine rz Z<|c _ _ ?_
  refine CJ [(38,vB true)] Z (λT=> ?_)
  refine JO Z ?_
  refine AZ Z ?_
  cases a
  exact aR eV1
 refine Ac<|E _ _ ?_
 refine Aa λR s=>AY [0] Z<|aE a Z (λt a=> ?_) (λt a=> ?_)
 ·refine Ad<|rm 3 [1,0] Z<|kB a λS u a=>gV _ (cF ew) (λo w z_=>Lk N m b _ u z_.view n (Aa2.mono z_.ro_cell C))<|rz Z<|Aa λU v=>AZ Z<|BS _ Z (λf=> ?_) (λf=> ?_)
  ·replace a:=ifn (Bool.eq_false_iff.1 (DG f)) a
   refine AZ Z ?_
   cases a
   exact aR eV1
  replace a:=ifp (DH f) a
  refine Ac<|v _ _ ?_
  refine AZ Z ?_
  cases a
  exact aR eV1
 refine Ac<|s _ _ ?_
 refine Aa λV x=>AY [0] Z<|aN a Z (λy a=> ?_) (λy a=> ?_)
 ·refine AZ Z ?_
  cases a
  exact aR eV1
 refine Ac<|x _ _ ?_
 refine Aa λW z=>Aa λX A=>Ah<|rm 4 [0] Z<|AS 4 62 [] vB (λb_=>Gy b_=some r) (λY a T=> ?_) (λM=> ?_)
 ·unfold Gy at a
  refine Aj<|A _ _ ?_
  refine aB a Z (λB a=> ?_) (λB a=> ?_)
  ·refine AZ Z ?_
   cases a
   exact aR eV1
  refine Ac<|z _ _ ?_
  refine AZ Z ?_
  cases a
  exact aR eV1
 rcases l:(decide (b<1))with _|_
 ·replace a:=iF l a
  refine rn 1 Z<|r_y Z<|rm 3 [0] Z ?_
  exact M _ _ a Z Z
 replace a:=iD l a
 refine rn 4 Z ?_
 exact M _ _ a Z Z
def FU(a:Int)(b:Y3):Y1 (Int×Y3):=if b=true then some (a,true)else some (0,false)
def FV(a:Int)(b:Y3):Y1 (Int×Y3):=if b=true then FU a (decide (a<=64))else FU a false
def FW(a:Int)(b:Y3):Y1 (Int×Y3):=if b=true then FV a (decide (a>=1))else FV a false
def FX(b a:Int)(c:Y3):Y1 (Int×Y3):=if c=true then FW a (decide (b<=1024))else FW a false
def DC(N:Nat)(m:Ao)(c a b:Int):Y1 (Int×Y3):=if c=0 then(Cy N m a b).bind λe=>some (e.1,e.2)else if c=1 then(EY N m a).bind λd=>some (d.1,d.2)else if c=2 then FX a b (decide (a>=0))else FX a b false
theorem Md(N m i d b r)(a:DC N m i d b=some r)(C)(u:AC)(D:Aa2 C u m):Does prog 189 #[vA (Ab m u),vA #[vI i,vI d,vI b]] C [] (pV (vT #[vI r.1,vB r.2])):=by
 unfold DC at a
 refine Ak follows func189 Z 51 Z _ fz2 (λs=> ?_)
 refine Ad<|rA Z λJ=>rA Z λt=>rz Z<|Aa λK v=>AY [0] Z<|aE a Z (λx a=> ?_) (λx a=> ?_)
 ·refine Ad<|rm 5 [1,0,0] Z<|kB a λL y a=>gV _ (cF bA) (λo w z_=>Je N m d b _ y z_.view u (Aa2.mono z_.ro_cell D))<|rz Z ?_
  cases a
  exact aR eV2
 refine Ac<|v _ _ ?_
 refine Aa λE j=>AY [0] Z<|aE a Z (λk a=> ?_) (λk a=> ?_)
 ·refine Ad<|rm 3 [1,0] Z<|kB a λF l a=>gV _ (cF eo) (λo w z_=>Me N m d _ l z_.view u (Aa2.mono z_.ro_cell D))<|rz Z ?_
  cases a
  exact aR eV2
 refine Ac<|j _ _ ?_
 refine Aa λG n=>Aa λH p=>Ah<|rm 4 [0] Z<|AS 4 33 [(3,vP t 0)] vB (λb_=>FX d b b_=some r) (λz a T=> ?_) (λc=> ?_)
 ·unfold FX at a
  refine rn 1 Z<|AS 4 38 [(3,vP t 0)] vB (λb_=>FW b b_=some r) (λA a T=> ?_) (λc=> ?_)
  ·unfold FW at a
   refine rn 1 Z<|AS 4 43 [(3,vP t 0)] vB (λb_=>FV b b_=some r) (λB a T=> ?_) (λc=> ?_)
   ·unfold FV at a
    refine rn 1 Z<|AS 4 48 [(3,vP t 0)] vB (λb_=>FU b b_=some r) (λI a T=> ?_) (λc=> ?_)
    ·unfold FU at a
     refine Aj<|p _ _ ?_
     refine aB a Z (λq a=> ?_) (λq a=> ?_)
     ·refine AY [0] Z ?_
      cases a
      exact aR eV2
     refine Ac<|n _ _ ?_
     refine AZ Z ?_
     cases a
     exact aR eV2
    rcases e:B with _|_
    ·replace a:=iB e a
     refine rn 4 Z ?_
     exact c _ _ a Z Z
    replace a:=ifp e a
    refine rn 1 Z<|r_y Z<|rm 3 [0] Z ?_
    exact c _ _ a Z Z
   rcases f:A with _|_
   ·replace a:=iB f a
    refine rn 4 Z ?_
    exact c _ _ a Z Z
   replace a:=ifp f a
   refine rn 1 Z<|r_y Z<|rm 3 [0] Z ?_
   exact c _ _ a Z Z
  rcases g:z with _|_
  ·replace a:=iB g a
   refine rn 4 Z ?_
   exact c _ _ a Z Z
  replace a:=ifp g a
  refine rn 1 Z<|r_y Z<|rm 3 [0] Z ?_
  exact c _ _ a Z Z
 rcases h:(i==2)with _|_
 ·replace a:=iG h a
  refine rn 4 Z ?_
  exact c _ _ a Z Z
 replace a:=iE h a
 refine rn 1 Z<|r_y Z<|rm 3 [0] Z ?_
 exact c _ _ a Z Z
def EZ(c b:Int)(a:Int->Int->Y1 (Int×Y3))(d:Int×Y3)(e:Y3):Y1 (Int×Y3):=if e=true then some (0,false)else ck (R64 (c+d.1)) (ck (R64 (b+1)) (a (c+d.1) (b+1)))
def Fa(b d:Int)(a:Int->Int->Y1 (Int×Y3))(c:Int×Y3)(e:Y3):Y1 (Int×Y3):=if e=true then EZ b d a c true else ck (R64 (128 - b)) (EZ b d a c (decide (c.1>(128 - b))))
def Bh(N:Nat)(m:Ao)(b:Y0 (Int×Int×Int)):Nat->Int->Int->Y1 (Int×Y3)
  |0,_,_=>none
  |e+1,d,a=>if a<(b.length:Int)then ck (0<=a/\a<(b.length:Int)) ((DC N m ((b[a.toNat]!).1) ((b[a.toNat]!).2.1) ((b[a.toNat]!).2.2)).bind λc=>if c.2=true then Fa d a (Bh N m b e) c (decide (c.1<1))else Fa d a (Bh N m b e) c true)else some (d,true)
def GY(N:Nat)(m:Ao)(a:Y0 (Int×Int×Int)):Y1 (Int×Y3):=Bh N m a N 0 0
theorem MB(N m k r)(a:GY N m k=some r)(J)(E:AC)(Q:Aa2 J E m)(e)(n:Rd Ac9 J e k):Does prog 116 #[vA (Ab m E),e] J [] (pV (vT #[vI r.1,vB r.2])):=by
 unfold GY at a
 refine Ak follows func116 Z 41 Z _ fz2 (λC=> ?_)
 refine Ad<|rA Z λD=>rz Z<|AZ Z<|Aa λR F=>AZ Z<|Ai<|AL (λtt ll nn=> ∃(f:Nat) (c:Int) (b:Int),(Bh N m k f c b=some r)/\Is [(1,e),(2,vP D 0),(6,vI c),(7,vI b)] [(D,35,(Ab m E))] tt ll/\nn=f+1) (N+1) ?_ ?_
 ·exact⟨N,0,0,a,Ag Z Z,Z⟩
 clear a;rintro t l _ ⟨f,c,b,a,⟨⟨T,rfl⟩,rfl⟩,rfl⟩
 rcases f with _|f
 ·exact absurd a (by simp [Bh])
 rw [Bh] at a
 refine Aa λS G=>Ad<|rn 2 Z<|rL (W8 n) Z<|rz Z<|aD a Z (λH a=> ?_) (λH a=> ?_)
 ·refine Ac<|G _ _ ?_
  refine Aa λK p=>Ai<|Aa λL q=>BO [(some 22,false)] (conG prog [(22,cV (DC N m ((k[b.toNat]!).1) ((k[b.toNat]!).2.1) ((k[b.toNat]!).2.2)) λs=>vT #[vI s.1,vB s.2])]) [] (by decide+kernel) (λU=>AN)<|rm 3 [0] Z<|kC a λg a=>rI (W8 n) g Z<|rE (Ay n) g 0 Z<|kB a λd h a=>rg _ (cF eu) (λo w z_=>Md N m _ _ _ _ h z_.view E (Aa2.mono z_.ro_cell Q)) (Hq h)<|rz Z<|q _ _ ?_
  refine Aa λM u=>Aa λO v=>Ah<|rn 3 Z<|AS 3 30 [(1,e),(2,vP D 0),(6,vI c),(7,vI b),(8,vI d.1)] vB (λb_=>Fa c b (Bh N m k f) d b_=some r) (λI a T=> ?_) (λx=> ?_)
  ·unfold Fa at a
   refine rn 1 Z<|AS 5 36 [(1,e),(2,vP D 0),(6,vI c),(7,vI b),(8,vI d.1)] vB (λb_=>EZ c b (Bh N m k f) d b_=some r) (λP a T=> ?_) (λx=> ?_)
   ·unfold EZ at a
    refine Aj<|v _ _ ?_
    refine aB a Z (λy a=> ?_) (λy a=> ?_)
    ·refine AZ Z ?_
     cases a
     exact aR eV2
    refine Ac<|u _ _ ?_
    refine Ah<|rn 2 Z<|kC a λz a=>rX z Z<|rz Z<|p _ _ ?_
    refine Ah<|rn 1 Z<|kC a λA a=>rX A Z<|rz Z<|fg _ (Sub.of (suK _ suN)) ?_
    exact⟨f+1,by omega,f,(c+d.1),(b+1),a,Ag Z Z,Z⟩
   rcases i:I with _|_
   ·replace a:=iB i a
    refine rn 2 Z<|r_y Z<|kC a λB a=>rX B Z<|rn 2 Z ?_
    exact x _ _ a Z Z
   replace a:=ifp i a
   refine rn 5 Z ?_
   exact x _ _ a Z Z
  rcases j:(!(d.2))with _|_
  ·replace a:=ifp (DH j) a
   refine rn 3 Z ?_
   exact x _ _ a Z Z
  replace a:=ifn (Bool.eq_false_iff.1 (DG j)) a
  refine rn 3 Z ?_
  exact x _ _ a Z Z
 refine AM<|F _ _ ?_
 refine AZ Z ?_
 cases a
 exact aR eV2
def EU(b:Int)(a:Int->Y1 Int)(c:Y3):Y1 Int:=if c=true then some 7 else ck (R64 (b+1)) (a (b+1))
def EV(d:Y0 (Int×Int×Int))(b:Int)(a:Int->Y1 Int)(e:Int×Y3)(c:Y3):Y1 Int:=if c=true then some 7 else if e.2=true then if((d[b.toNat]!).1:Int)=1 then EU b a ((((d[b.toNat]!).2.2:Int) !=0))else EU b a false else some 5
def DA(N:Nat)(m:Ao)(c:Y0 (Int×Int×Int))(b:Int)(a:Int->Y1 Int)(e:Y3):Y1 Int:=if e=true then some 10 else(DC N m ((c[b.toNat]!).1) ((c[b.toNat]!).2.1) ((c[b.toNat]!).2.2)).bind λd=>if d.2=true then EV c b a d false else EV c b a d ((((c[b.toNat]!).1:Int)==2))
def EW(N:Nat)(m:Ao)(c:Y0 (Int×Int×Int))(d:Y3)(b:Int)(a:Int->Y1 Int)(e:Y3):Y1 Int:=if e=true then if((c[b.toNat]!).1:Int)=2 then DA N m c b a (!(d))else DA N m c b a true else DA N m c b a false
def AR(N:Nat)(m:Ao)(c:Y0 (Int×Int×Int))(a:Y3):Nat->Int->Y1 Int
  |0,_=>none
  |d+1,b=>if b<(c.length:Int)then ck (0<=b/\b<(c.length:Int)) (if((c[b.toNat]!).1:Int)≠0 then EW N m c a b (AR N m c a d) ((((c[b.toNat]!).1:Int) !=1))else EW N m c a b (AR N m c a d) false)else(GY N m c).bind λe=>if e.2=true then some 0 else some 9
def Fz(N:Nat)(m:Ao)(b:Y0 (Int×Int×Int))(a:Y3):Y1 Int:=if(b.length:Int)>4 then some 2 else AR N m b a N 0
theorem MA(N m e b r)(a:Fz N m e b=some r)(X)(Q:AC)(Y:Aa2 X Q m)(d)(j:Rd Ac9 X d e):Does prog 115 #[vA (Ab m Q),d,vB b] X [] (pV (vI r)):=by
 unfold Fz at a
 refine Ak follows func115 Z 74 Z _ fz3 (λR=> ?_)
 refine Ad<|rA Z λy=>rz Z<|Aa λK3 S=>Ad<|rn 1 Z<|rL (W8 j) Z<|rz Z<|aD a Z (λU a=> ?_) (λU a=> ?_)
 ·refine AZ Z ?_
  cases a
  exact aR eV1
 refine Ac<|S _ _ ?_
 refine Aa λK7 V=>AZ Z<|Ai<|AL (λtt ll nn=> ∃(g:Nat) (c:Int),(AR N m e b g c=some r)/\Is [(1,d),(2,vB b),(3,vP y 0),(7,vI c)] [(y,35,(Ab m Q))] tt ll/\nn=g+1) (N+1) ?_ ?_
 ·exact⟨N,0,a,Ag Z Z,Z⟩
 clear a;rintro t l _ ⟨g,c,a,⟨⟨T,rfl⟩,rfl⟩,rfl⟩
 rcases g with _|g
 ·exact absurd a (by simp [AR])
 rw [AR] at a
 refine Aa λaa z=>Ad<|rn 2 Z<|rL (W8 j) Z<|rz Z<|aD a Z (λA a=> ?_) (λA a=> ?_)
 ·refine Ac<|z _ _ ?_
  refine Aa λab B=>Ai<|Ad<|rn 2 Z<|kC a λk a=>rI (W8 j) k Z<|rE (Ay j) k 0 Z<|rA Z λv=>ry [0] Z<|Aa λac C=>Aa λad D=>Ah<|rm 4 [0] Z ?_
  refine AS 4 33 [(1,d),(2,vB b),(3,vP y 0),(7,vI c),(8,vP v 0)] vB (λb_=>EW N m e b c (AR N m e b g) b_=some r) (λW a T=> ?_) (λf=> ?_)
  ·unfold EW at a
   refine rn 1 Z<|AS 8 42 [(1,d),(2,vB b),(3,vP y 0),(7,vI c),(8,vP v 0)] vB (λb_=>DA N m e c (AR N m e b g) b_=some r) (λae a T=> ?_) (λf=> ?_)
   ·unfold DA at a
    refine Aj<|D _ _ ?_
    refine aB a Z (λE a=> ?_) (λE a=> ?_)
    ·refine AZ Z ?_
     cases a
     exact aR eV1
    refine Ac<|C _ _ ?_
    refine Ad<|rm 2 [1,0] Z<|kB a λx F a=>gV _ (cF eu) (λo w z_=>Md N m _ _ _ _ F z_.view Q (Aa2.mono z_.ro_cell Y))<|rz Z<|Aa λaf G=>Aa λag H=>Ah<|rn 3 Z ?_
    refine AS 4 55 [(1,d),(2,vB b),(3,vP y 0),(7,vI c),(8,vP v 0),(10,vB x.2)] vB (λb_=>EV e c (AR N m e b g) x b_=some r) (λah a T=> ?_) (λf=> ?_)
    ·unfold EV at a
     refine Aj<|H _ _ ?_
     refine aB a Z (λI a=> ?_) (λI a=> ?_)
     ·refine AZ Z ?_
      cases a
      exact aR eV1
     refine Ac<|G _ _ ?_
     refine Aa λai J=>AZ Z<|BS _ Z (λh=> ?_) (λh=> ?_)
     ·replace a:=ifn (Bool.eq_false_iff.1 (DG h)) a
      refine AZ Z ?_
      cases a
      exact aR eV1
     replace a:=ifp (DH h) a
     refine Ac<|J _ _ ?_
     refine Aa λaj K=>Ah<|rm 4 [0] Z<|AS 4 65 [(1,d),(2,vB b),(3,vP y 0),(7,vI c)] vB (λb_=>EU c (AR N m e b g) b_=some r) (λak a T=> ?_) (λf=> ?_)
     ·unfold EU at a
      refine Aj<|K _ _ ?_
      refine aB a Z (λL a=> ?_) (λL a=> ?_)
      ·refine AZ Z ?_
       cases a
       exact aR eV1
      refine Ac<|B _ _ ?_
      refine Ah<|rn 1 Z<|kC a λM a=>rX M Z<|rz Z<|fg _ (Sub.of (suC _ (suK _ suN))) ?_
      exact⟨g+1,by omega,g,(c+1),a,Ag Z Z,Z⟩
     rcases n:((((e[c.toNat]!).1:Int)==1))with _|_
     ·replace a:=iG n a
      refine rn 4 Z ?_
      exact f _ _ a Z Z
     replace a:=iE n a
     refine rn 1 Z<|r_y Z<|rm 3 [0] Z ?_
     exact f _ _ a Z Z
    rcases p:(!(x.2))with _|_
    ·replace a:=ifp (DH p) a
     refine rn 4 Z ?_
     exact f _ _ a Z Z
    replace a:=ifn (Bool.eq_false_iff.1 (DG p)) a
    refine rn 1 Z<|r_y Z<|rm 3 [0] Z ?_
    exact f _ _ a Z Z
   rcases q:W with _|_
   ·replace a:=iB q a
    refine rn 4 Z<|Ct Z Z<|rn 3 Z ?_
    exact f _ _ a Z Z
   replace a:=ifp q a
   refine rn 1 Z<|r_y Z<|rm 3 [0] Z ?_
   rcases s:((((e[c.toNat]!).1:Int)==2))with _|_
   ·replace a:=iG s a
    refine rn 4 Z ?_
    exact f _ _ a Z Z
   replace a:=iE s a
   refine rn 4 Z ?_
   exact f _ _ a Z Z
  rcases u:((((e[c.toNat]!).1:Int) !=0))with _|_
  ·replace a:=iM u a
   refine rn 4 Z ?_
   exact f _ _ a Z Z
  replace a:=iN u a
  refine rn 1 Z<|r_y Z<|rm 3 [0] Z ?_
  exact f _ _ a Z Z
 refine AM<|V _ _ ?_
 refine Ad<|rm 2 [0] Z<|kB a λal O a=>gV _ (cF eK) (λo w z_=>MB N m e _ O z_.view Q (Aa2.mono z_.ro_cell Y) d ((Ay j) o w z_))<|rz Z<|Aa λam P=>AZ Z<|BS _ Z (λi=> ?_) (λi=> ?_)
 ·replace a:=ifn (Bool.eq_false_iff.1 (DG i)) a
  refine AZ Z ?_
  cases a
  exact aR eV1
 replace a:=ifp (DH i) a
 refine Ac<|P _ _ ?_
 refine AZ Z ?_
 cases a
 exact aR eV1
def HA(c:W3)(d:Y0 Y3)(b:Int)(a:Y0 Y3->Int->Y1 (Y0 Y3))(e:Y3):Y1 (Y0 Y3):=if e=true then ck (0<=b/\b<128) (ck ((d).length+([((hi c)++(lo c)).getLsbD (b.toNat)]).length<=140737488355328) (ck (R64 (b+1)) (a ((d++([((hi c)++(lo c)).getLsbD (b.toNat)]))) (b+1))))else some d
def Cn(c:Int)(a:W3):Nat->Y0 Y3->Int->Y1 (Y0 Y3)
  |0,_,_=>none
  |e+1,d,b=>if b<c then HA a d b (Cn c a e) (decide (b<128))else HA a d b (Cn c a e) false
def Fr(N:Nat)(a:Int)(b:W3):Y1 (Y0 Y3):=Cn a b N ([]) 0
theorem Nz(N d a r)(e:Fr N d a=some r)(Q:Ro):Does prog 192 #[vA #[vI d,U (hi a),U (lo a)]] Q [] (p1 (λs_=>s_) 4 Ot r):=by
 unfold Fr at e
 refine Ak follows func192 Z 28 Z _ fz1 (λD=> ?_)
 refine Ad<|rA Z λj=>rz Z<|Ad<|rm 4 [0,0] Z<|rc _ (cF et) (xY (hi a) (lo a))<|r_a (287,Dm (BitVec.getLsbD (0#128))) Z Z ((rr gG).trans (congrArg (λx=>some (287,x)) bZ)) (λi=> ?_) (.inr Z)
 refine r_s [(i,287,Dm (BitVec.getLsbD ((hi a)++(lo a)))),(j,200, #[vI d,U (hi a),U (lo a)])] 0 _ _ _ _ _ (Dm (BitVec.getLsbD ((hi a)++(lo a)))) Z Z Z Z (YP Z Z _ _) (UB _ _) Z<|Aj<|AZ Z<|Aa λR E=>AZ Z<|Ai<|BF _ (W6 (Ls:=[[(i,287,Dm (BitVec.getLsbD ((hi a)++(lo a))))],(Nk j d (hi a) (lo a)),[]]) (Ls0:=[[(i,287,Dm (BitVec.getLsbD ((hi a)++(lo a))))],(Nk j d (hi a) (lo a))]) Z [0,1,2] Z) ?_
 refine AL (λtt ll nn=> ∃(n:Nat) (m:Y0 Y3) (f:Int),(Cn d a n m f=some r)/\ ∃(h:Y2) (g:Y0 Bl),Sl 4 Ot h m g/\Is [(1,vP j 0),(3,vP i 0),(4,h),(5,vI f)] (V2 [[(i,287,Dm (BitVec.getLsbD ((hi a)++(lo a))))],(Nk j d (hi a) (lo a)),g]) tt ll/\nn=n+1) (N+1) ?_ ?_
 ·exact⟨N,[],0,e,nS,[],Sl.nil,Ag Z Z,Z⟩
 clear e;rintro t l _ ⟨n,m,f,e,h,g,o,⟨⟨T,rfl⟩,rfl⟩,rfl⟩
 rcases n with _|n
 ·exact absurd e (by simp [Cn])
 rw [Cn] at e
 refine Aa λS F=>Aa λK w=>Ah<|rm 5 [1] Z<|AS 3 18 [(1,vP j 0),(3,vP i 0),(4,h),(5,vI f)] vB (λb_=>HA a m f (Cn d a n) b_=some r) (λL e T=> ?_) (λJ=> ?_)
 ·unfold HA at e
  refine Aj<|w _ _ ?_
  refine aB e Z (λy e=> ?_) (λy e=> ?_)
  ·refine Ac<|F _ _ ?_
   refine Aa λM z=>Ai<|Ah<|rn 2 Z<|kC e λA e=> ?_
   have p:=λc=>GV (Tw (P:=prog) (c:=c) (t:=287) (b:=i) (off:=0) (k:= .i64) Z Z Z A)
   simp only [q7] at p
   have u:f.toNat<128:=by omega
   refine r_W (V7 (some ⟨i,f.toNat,none⟩)) Z (p _)<|r_l (vB (((hi a)++(lo a)).getLsbD (f.toNat))) 0 _ _ _ _ Z Z Z Z (Vk Z _ u)<|gB (Ls:=[[(i,287,Dm (BitVec.getLsbD ((hi a)++(lo a))))],(Nk j d (hi a) (lo a)),g]) 4 Ot [((hi a)++(lo a)).getLsbD (f.toNat)] (λO v G=> ?_)
   refine kC e λq e=>cC 26<|Ln (cs0:=[]) (Ls:=[[(i,287,Dm (BitVec.getLsbD ((hi a)++(lo a))))],(Nk j d (hi a) (lo a)),g,v]) 2 (En:=Ot) Z Z Z Z Z o Z (AB G (Al (Ls:=[[(i,287,Dm (BitVec.getLsbD ((hi a)++(lo a))))],(Nk j d (hi a) (lo a)),g,v]) (k:=3) Z Z)) Z Z Z Z Z (LB q Z) (LA q Z) Z (λH B I=> ?_)
   refine rz Z<|z _ _ ?_
   refine Ah<|rn 1 Z<|kC e λC e=>rX C Z<|rz Z<|fg _ (W5 [[(i,287,Dm (BitVec.getLsbD ((hi a)++(lo a))))],(Nk j d (hi a) (lo a)),B,v] [0,1,2] Z) ?_
   exact⟨n+1,by omega,n,(m++([((hi a)++(lo a)).getLsbD (f.toNat)])),(f+1),e,H,B,I,Ag Z Z,Z⟩
  refine AM<|E _ _ ?_
  refine AZ Z ?_
  cases e
  refine AU (λV=>Iq (v0:=h) o (Fu (W5 [[(i,287,Dm (BitVec.getLsbD ((hi a)++(lo a))))],(Nk j d (hi a) (lo a)),g] [2] Z)) Z (Gl Z))
 rcases s:(decide (f<d))with _|_
 ·replace e:=iF s e
  refine rn 3 Z ?_
  exact J _ _ e Z Z
 replace e:=iD s e
 refine rn 3 Z ?_
 exact J _ _ e Z Z
def Ig(d:Y0 Y3)(b:Int)(c:W3)(a:Int->W3->Y1 (Int×(W3)))(e:Y3):Y1 (Int×(W3)):=if e=true then ck (0<=b/\b<(d.length:Int)) (ck (0<=b/\b<128) (ck (R64 (b+1)) (a (b+1) (bU c (b.toNat) (d[b.toNat]!)))))else some ((d.length:Int),c)
def CN(b:Y0 Y3):Nat->Int->W3->Y1 (Int×(W3))
  |0,_,_=>none
  |d+1,a,c=>if a<(b.length:Int)then Ig b a c (CN b d) (decide (a<128))else Ig b a c (CN b d) false
def HH(N:Nat)(a:Y0 Y3):Y1 (Int×(W3)):=CN a N 0 (0#128)
theorem Mg(N g r)(e:HH N g=some r)(D h)(i:Rd Ot D h g):Does prog 193 #[h] D [] (pV (vA #[vI r.1,U (hi r.2),U (lo r.2)])):=by
 unfold HH at e
 refine Ak follows func193 Z 33 Z _ fz1 (λw=> ?_)
 refine Ad<|rA Z λy=>Aj<|Ad<|r_a (287,Dm (BitVec.getLsbD (0#128))) Z Z ((rr gG).trans (congrArg (λx=>some (287,x)) bZ)) (λp=> ?_) (.inr Z)
 refine Aj<|Aa λH z=>AZ Z<|Ai<|AL (λtt ll nn=> ∃(j:Nat) (a:Int) (d:W3),(CN g j a d=some r)/\Is [(0,h),(2,vP y 0),(3,vP p 0),(4,vI a)] [(p,287,Dm (BitVec.getLsbD d)),(y,200, #[vI 0,U (0#64),U (0#64)])] tt ll/\nn=j+1) (N+1) ?_ ?_
 ·exact⟨N,0,0#128,e,Ag Z (by first|rfl|simp only [BB]),Z⟩
 clear e;rintro t l _ ⟨j,a,d,e,⟨⟨T,rfl⟩,rfl⟩,rfl⟩
 rcases j with _|j
 ·exact absurd e (by simp [CN])
 rw [CN] at e
 refine Aa λI A=>Aa λJ B=>Ah<|rn 2 Z<|rL (W8 i) Z<|rn 2 Z<|AS 3 14 [(0,h),(2,vP y 0),(3,vP p 0),(4,vI a)] vB (λb_=>Ig g a d (CN g j) b_=some r) (λE e T=> ?_) (λC=> ?_)
 ·unfold Ig at e
  refine Aj<|B _ _ ?_
  refine aB e Z (λq e=> ?_) (λq e=> ?_)
  ·refine Ac<|A _ _ ?_
   refine Aa λF s=>Ai<|Ah<|rn 3 Z<|kC e λm e=>rI (W8 i) m Z<|rE (Ay i) m 0 Z<|kC e λu e=> ?_
   have n:=λc=>GV (Tw (P:=prog) (c:=c) (t:=287) (b:=p) (off:=0) (k:= .i64) Z Z Z u)
   simp only [q7] at n
   have f:a.toNat<128:=by omega
   refine r_W (V7 (some ⟨p,a.toNat,none⟩)) Z (n _)<|r_s [(p,287,Dm (BitVec.getLsbD (bU d (a.toNat) (g[a.toNat]!)))),(y,200, #[vI 0,U (0#64),U (0#64)])] 0 _ _ _ _ _ (Dm (BitVec.getLsbD (bU d (a.toNat) (g[a.toNat]!)))) Z Z Z Z (TO Z Z _ _ f) ((QV _ _ _).trans (jJ _ _ _ f)) Z<|Aj<|s _ _ ?_
   refine Ah<|rn 1 Z<|kC e λv e=>rX v Z<|rz Z<|fg _ (Sub.of (suK _ (suK _ suN))) ?_
   exact⟨j+1,by omega,j,(a+1),bU d (a.toNat) (g[a.toNat]!),e,Ag Z (by first|rfl|simp only [BB]),Z⟩
  refine AM<|z _ _ ?_
  refine Ad<|r_l (vA (Dm (BitVec.getLsbD d))) 0 _ _ _ _ Z Z Z Z (ax Z Z Z _)<|rc _ (cF oX) (nc d)<|rz Z<|Ad<|rn 1 Z<|rL (W8 i) Z<|r_R [U (hi d),U (lo d)] Z<|r_W (vA #[vI (g.length:Int),U (hi d),U (lo d)]) Z (Ar Z Z Z Z) ?_
  refine ry [1] Z ?_
  cases e
  refine AU (λG=>iU (v0:=vA #[vI (g.length:Int),U (hi d),U (lo d)]) Z (Gl (Bf G 1 Z Z Z)))
 rcases o:(decide (a<(g.length:Int)))with _|_
 ·replace e:=iF o e
  refine rn 3 Z ?_
  exact C _ _ e Z Z
 replace e:=iD o e
 refine rn 3 Z ?_
 exact C _ _ e Z Z
end Go.Proofs.YtjnanfkpdhmnpaaGreatDoor
