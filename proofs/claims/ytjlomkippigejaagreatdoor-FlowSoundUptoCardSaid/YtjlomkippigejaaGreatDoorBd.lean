import Derived.Test.YtjlomkippigejaaGreatDoorBc
namespace Go.Proofs.YtjlomkippigejaaGreatDoor
open Go Go.RowKit Go.Eng _root_.Go.Proofs.Tryz
set_option linter.unusedSimpArgs false
set_option linter.unusedVariables false
set_option maxRecDepth 100000
set_option maxHeartbeats 80000000
abbrev AX(b:Nat)(x0:Int)(x1:W4)(x2:W4):List Bl:=[(b,51, #[vI x0,U x1,U x2])]
def FQ(c:List Bool)(d:Int)(a:List Bool->Bool->Int->Option (Int×(W3)×Int))(e:Int)(b:Bool):Option (Int×(W3)×Int):=ck ((c).length+([b]).length<=140737488355328) (ck (R64 (d+1)) (a (c++([b])) (decide (e>=2)) (d+1)))
def EA(h:W2)(g:List Bool)(b:List Bool)(e:Int)(a:List Bool->Bool->Int->Option (Int×(W3)×Int))(f:Bool)(c:Int)(d:Bool):Option (Int×(W3)×Int):=if h=([120,111,114]:W2)then FQ b e a c ((g[e.toNat]!) !=f)else FQ b e a c d
def EB(h:W2)(e:List Bool)(b:List Bool)(f:Int)(a:List Bool->Bool->Int->Option (Int×(W3)×Int))(c:Bool)(d:Int)(g:Bool):Option (Int×(W3)×Int):=if h=([111,114]:W2)then if(e[f.toNat]!)=true then EA h e b f a c d true else EA h e b f a c d c else EA h e b f a c d g
def FR(g:W2)(e:List Bool)(c:List Bool)(f:Int)(a:List Bool->Bool->Int->Option (Int×(W3)×Int))(d:Bool)(b:Int):Option (Int×(W3)×Int):=ck (0<=b/\b<=9223372036854775807) (if g=([97,110,100]:W2)then if(e[f.toNat]!)=true then EB g e c f a d b d else EB g e c f a d b false else EB g e c f a d b ((b%2:Int)==1))
def FS(h:W2)(f:List Bool)(c:List Bool)(d:Bool)(g:Int)(a:List Bool->Bool->Int->Option (Int×(W3)×Int))(e:Bool)(b:Int):Option (Int×(W3)×Int):=if d=true then ck (R64 (b+1)) (FR h f c g a e (b+1))else FR h f c g a e b
def FT(h:W2)(f:List Bool)(e:List Bool)(b:Bool)(g:Int)(a:List Bool->Bool->Int->Option (Int×(W3)×Int))(c:Bool)(d:Int):Option (Int×(W3)×Int):=if c=true then ck (R64 (d+1)) (FS h f e b g a c (d+1))else FS h f e b g a c d
def FU(g:W2)(e:List Bool)(c:List Bool)(b:Bool)(f:Int)(a:List Bool->Bool->Int->Option (Int×(W3)×Int))(d:Bool):Option (Int×(W3)×Int):=if(e[f.toNat]!)=true then FT g e c b f a d 1 else FT g e c b f a d 0
def FP(h:W2)(f:List Bool)(e:List Bool)(c:List Bool)(b:Bool)(d:Int)(a:List Bool->Bool->Int->Option (Int×(W3)×Int))(g:Bool):Option (Int×(W3)×Int):=if g=true then FU h f c b d a (!(e[d.toNat]!))else FU h f c b d a (e[d.toNat]!)
def FN(b:Int)(a:List Bool->Int->Option (Int×(W3)×Int))(c:List Bool)(d:Bool):Option (Int×(W3)×Int):=if d=true then ck (0<=b/\b<(c.length:Int)) (ck (R64 (b+1)) (a ((c).set (b.toNat) false) (b+1)))else ck (R64 (b+1)) (a c (b+1))
def FO(e:W2)(d:Bool)(c:Int)(a:List Bool->Int->Option (Int×(W3)×Int))(b:List Bool):Option (Int×(W3)×Int):=if e=([115,117,98,115,97,116]:W2)then FN c a b d else FN c a b false
def FM(f:W2)(d:Bool)(b:List Bool)(c:Int)(a:List Bool->Int->Option (Int×(W3)×Int))(e:Bool):Option (Int×(W3)×Int):=if e=true then ck (0<=c/\c<(b.length:Int)) (FO f d c a ((b).set (c.toNat) true))else FO f d c a b
def AQ(N:Nat)(g:W2)(b:Bool)(c:Bool):Nat->List Bool->Int->Option (Int×(W3)×Int)
  |0,_,_=>none
  |e+1,a,d=>if d<(a.length:Int)then if g=([97,100,100,115,97,116]:W2)then FM g b a d (AQ N g b c e) c else FM g b a d (AQ N g b c e) false else(Hs N a).bind λf=>some (f.1,f.2,0)
def AD(N:Nat)(g:W2)(d:List Bool)(f:List Bool)(b:Bool):Nat->List Bool->Bool->Int->Option (Int×(W3)×Int)
  |0,_,_,_=>none
  |h+1,e,a,c=>if c<(d.length:Int)then ck (0<=c/\c<(d.length:Int)) (ck (0<=c/\c<(f.length:Int)) (if g=([115,117,98]:W2)then FP g d f e a c (AD N g d f b h) true else FP g d f e a c (AD N g d f b h) (g==([115,117,98,115,97,116]:W2))))else AQ N g b a N e 0
def HA(N:Nat)(e:W2)(d:List Bool)(b:List Bool)(a:Bool)(c:Bool):Option (Int×(W3)×Int):=AD N e d b a N ([]) c 0
def BJ(N:Nat)(f:W2)(d:List Bool)(c:List Bool):Nat->Bool->Bool->Int->Option (Int×(W3)×Int)
  |0,_,_,_=>none
  |h+1,b,e,a=>if a<(d.length:Int)then ck (0<=a/\a<(d.length:Int)) (ck (0<=a/\a<(c.length:Int)) (if(d[a.toNat]!)≠(c[a.toNat]!)then ck (0<=a/\a<(c.length:Int)) (ck (R64 (a+1)) ((BJ N f d c h) (c[a.toNat]!) false (a+1)))else ck (R64 (a+1)) ((BJ N f d c h) b e (a+1))))else if f=([101,113]:W2)then(Hs N ([e])).bind λi=>some (i.1,i.2,0)else if f=([108,101,115,115]:W2)then(Hs N ([b])).bind λg=>some (g.1,g.2,0)else if f=([115,117,98]:W2)then HA N f d c b true else HA N f d c b (f==([115,117,98,115,97,116]:W2))
def Gx(N:Nat)(h:W2)(a:Int)(c:W3)(b:Int)(e:W3)(g:Bool):Option (Int×(W3)×Int):=if g=true then some (0,(0#64)++(0#64),1)else if(a:Int)≠b then some (0,(0#64)++(0#64),9)else(Fh N a c).bind λf=>(Fh N b e).bind λd=>BJ N h f d N false true 0
def HK(N:Nat)(f:W2)(a:Int)(b:W3)(d:Int)(c:W3):Option (Int×(W3)×Int):=(CC N a b).bind λg=>if g=true then(CC N d c).bind λe=>Gx N f a b d c (!(e))else Gx N f a b d c true
theorem RN(N m Q I R J r)(a:HK N m Q I R J=some r):Gives prog 148 #[vS m,vA #[vI Q,U (hi I),U (lo I)],vA #[vI R,U (hi J),U (lo J)]] (vT #[vA #[vI r.1,U (hi r.2.1),U (lo r.2.1)],vI r.2.2]):=by
 unfold HK at a
 refine Aq follows func148 Z 156 Z _ fz3 (λdb=> ?_)
 refine Ad<|rA Z λb2=>rA Z λb3=>rA Z λh=>rz Z<|Aa λK5 de=>Aa λK6 df=>Ah<|rm 1 [2] Z<|kB a λr7 dg a=>rc _ (cF PB) (GU N Q I _ dg)<|rn 2 Z<|AF 4 28 [(0,vS m),(4,vP b2 0),(5,vP b3 0),(6,vP h 0)] vB (λb_=>Gx N m Q I R J b_=some r) (λb9 a T=> ?_) (λX=> ?_)
 ·unfold Gx at a
  refine Ak<|df _ _ ?_
  refine aB a Z (λbr a=> ?_) (λbr a=> ?_)
  ·refine Ad<|r_W (vA #[vI 0,U (0#64),U (0#64)]) Z (Ar Z Z Z Z)<|ry [0] Z ?_
   cases a
   refine Bh (λhn=>Eu (v0:=vT #[vA #[vI 0,U (0#64),U (0#64)],vI 1]) (by first|rfl|(simp only [Br];done)|simp only [Br]) (LI (AW hn 0 Z Z Z) Z))
  refine Ab<|de _ _ ?_
  refine Aa λed bs=>AY [2,1] Z<|aN a Z (λbt a=> ?_) (λbt a=> ?_)
  ·refine Ad<|r_W (vA #[vI 0,U (0#64),U (0#64)]) Z (Ar Z Z Z Z)<|ry [0] Z ?_
   cases a
   refine Bh (λhn=>Eu (v0:=vT #[vA #[vI 0,U (0#64),U (0#64)],vI 9]) (by first|rfl|(simp only [Br];done)|simp only [Br]) (LI (AW hn 0 Z Z Z) Z))
  refine Ab<|bs _ _ ?_
  refine Aa λee bu=>BB [(some 37,false),(some 39,false)] (conG prog [(37,λ_ _ v_ L_ U_=> ∀ad,Fh N Q I=some ad->(p1 (λs_=>s_) 4 Qn ad) v_ L_ U_),(39,λ_ _ v_ L_ U_=> ∀ad,Fh N R J=some ad->(p1 (λs_=>s_) 4 Qn ad) v_ L_ U_)]) [] (by decide+kernel) (λhn=>AK)<|rm 1 [2] Z<|kB a λj an a=>Vr (Ls:=[(AX h 0 (0#64) (0#64)),(AX b3 R (hi J) (lo J)),(AX b2 Q (hi I) (lo I))]) (λF=>F) 4 Qn j 214 _ Z Z Z (cF dD) (λo w z_=>Nd N Q I _ an z_.view) (GQ an) (λF f aa=> ?_)
  refine rm 1 [1] Z<|kB a λB ao a=>Vr (Ls:=[(AX h 0 (0#64) (0#64)),(AX b3 R (hi J) (lo J)),(AX b2 Q (hi I) (lo I)),f]) (λG=>G) 4 Qn B 214 _ Z Z Z (cF dD) (λo w z_=>Nd N R J _ ao z_.view) (GQ ao) (λG g ab=> ?_)
  refine rz Z<|bu _ _ ?_
  refine AZ Z<|Aa λef bv=>AZ Z<|Ai<|Bs _ (Sub.pick [(AX h 0 (0#64) (0#64)),(AX b3 R (hi J) (lo J)),(AX b2 Q (hi I) (lo I)),f,g] [0,3,4] Z)<|AH (λtt ll nn=> ∃(P:Nat) (b:Bool) (C:Bool) (S:Int),(BJ N m j B P b C S=some r)/\Is [(0,vS m),(6,vP h 0),(8,F),(9,G),(10,vB b),(11,vB C),(12,vI S)] (List.flatten [(AX h 0 (0#64) (0#64)),f,g]) tt ll/\nn=P+1) (N+1) ?_ ?_
  ·exact⟨N,false,true,0,a,Ag Z (by first|rfl|simp only [Br]),Z⟩
  clear a;rintro t l _ ⟨P,b,C,S,a,⟨⟨T,rfl⟩,rfl⟩,rfl⟩
  rcases P with _|P
  ·exact absurd a (by simp [BJ])
  rw [BJ] at a
  refine Aa λeg bw=>Ad<|rn 2 Z<|rL (Sl.shp aa) Z<|rz Z<|aD a Z (λbx a=> ?_) (λbx a=> ?_)
  ·refine Ab<|bw _ _ ?_
   refine Aa λeh ap=>Ai<|Aa λei bz=>Ia [] (by decide+kernel) (λhn=>AK)<|rn 2 Z<|kC a λaq a=>rI (Sl.shp aa) aq Z<|rE (Ax aa (Aj (Ls:=[(AX h 0 (0#64) (0#64)),f,g]) (k:=1) Z Z)) aq 0 Z<|rn 2 Z<|kC a λar a=>rI (Sl.shp ab) ar Z<|rE (Ax ab (Aj (Ls:=[(AX h 0 (0#64) (0#64)),f,g]) (k:=2) Z Z)) ar 0 Z<|r_W (vB ((j[S.toNat]!) !=(B[S.toNat]!))) Z (cY Z Z Z)<|Ak<|bz _ _ ?_
   refine aN a Z (λca a=> ?_) (λca a=> ?_)
   ·refine Ad<|rn 2 Z<|kC a λau a=>rI (Sl.shp ab) au Z<|rE (Ax ab (Aj (Ls:=[(AX h 0 (0#64) (0#64)),f,g]) (k:=2) Z Z)) au 0 Z<|rz Z<|Ah<|rz Z<|ap _ _ ?_
    refine Ah<|rn 1 Z<|kC a λcb a=>rX cb Z<|rz Z<|fg _ (Sub.pick [(AX h 0 (0#64) (0#64)),f,g] [0,1,2] Z) ?_
    exact⟨P+1,by omega,P,B[S.toNat]!,false,(S+1),a,Ag Z (by first|rfl|simp only [Br]),Z⟩
   refine Ab<|ap _ _ ?_
   refine Ah<|rn 1 Z<|kC a λcc a=>rX cc Z<|rz Z<|fg _ (Sub.pick [(AX h 0 (0#64) (0#64)),f,g] [0,1,2] Z) ?_
   exact⟨P+1,by omega,P,b,C,(S+1),a,Ag Z (by first|rfl|simp only [Br]),Z⟩
  refine AG<|bv _ _ ?_
  refine Aa λej cd=>Ad<|rn 1 Z<|r_W (vB (m==([101,113]:W2))) Z (Cr Z Z)<|Ak<|aE a Z (λce a=> ?_) (λce a=> ?_)
  ·refine Ad<|rn 1 Z<|gB (Ls:=[(AX h 0 (0#64) (0#64)),f,g]) 4 Qn [C] (λdh di dj=> ?_)
   refine kB a λba cf a=>gV _ (cF WR) (λo w z_=>LE N ([C]) _ cf z_.view dh ((Ax dj (Aj (Ls:=[(AX h 0 (0#64) (0#64)),f,g,di]) (k:=3) Z Z)) o w z_))<|ry [0] Z ?_
   cases a
   refine Bh (λhn=>Eu (v0:=vT #[vA #[vI ba.1,U (hi ba.2),U (lo ba.2)],vI 0]) Z (LI (AW hn 0 Z Z Z) Z))
  refine Ab<|cd _ _ ?_
  refine Aa λek cg=>Ad<|rn 1 Z<|r_W (vB (m==([108,101,115,115]:W2))) Z (Cr Z Z)<|Ak<|aE a Z (λch a=> ?_) (λch a=> ?_)
  ·refine Ad<|rn 1 Z<|gB (Ls:=[(AX h 0 (0#64) (0#64)),f,g]) 4 Qn [b] (λdk dl dm=> ?_)
   refine kB a λbb ci a=>gV _ (cF WR) (λo w z_=>LE N ([b]) _ ci z_.view dk ((Ax dm (Aj (Ls:=[(AX h 0 (0#64) (0#64)),f,g,dl]) (k:=3) Z Z)) o w z_))<|ry [0] Z ?_
   cases a
   refine Bh (λhn=>Eu (v0:=vT #[vA #[vI bb.1,U (hi bb.2),U (lo bb.2)],vI 0]) Z (LI (AW hn 0 Z Z Z) Z))
  refine Ab<|cg _ _ ?_
  refine AZ Z<|Aa λel cj=>Ah<|rn 1 Z<|r_W (vB (m==([115,117,98]:W2))) Z (Cr Z Z)<|rn 1 Z<|AF 3 74 [(0,vS m),(6,vP h 0),(8,F),(9,G),(10,vB b),(13,nS)] vB (λb_=>HA N m j B b b_=some r) (λdn a T=> ?_) (λX=> ?_)
  ·unfold HA at a
   refine rz Z<|cj _ _ ?_
   refine Aa λem ck=>AZ Z<|Ai<|Bs _ (Sub.pickE (Ls:=[(AX h 0 (0#64) (0#64)),f,g,[]]) (Ls0:=[(AX h 0 (0#64) (0#64)),f,g]) Z [0,1,2,3] Z) ?_
   refine AH (λtt ll nn=> ∃(D:Nat) (n:List Bool) (d:Bool) (i:Int),(AD N m j B b D n d i=some r)/\ ∃(e:Value) (c:List Bl),Sl 4 Qn e n c/\Is [(0,vS m),(6,vP h 0),(8,F),(9,G),(10,vB b),(13,e),(14,vB d),(15,vI i)] (List.flatten [(AX h 0 (0#64) (0#64)),f,g,c]) tt ll/\nn=D+1) (N+1) ?_ ?_
   ·exact⟨N,[],dn,0,a,nS,[],Sl.nil,Ag Z (by first|rfl|simp only [Br]),Z⟩
   clear a;rintro t l _ ⟨D,n,d,i,a,e,c,Y,⟨⟨T,rfl⟩,rfl⟩,rfl⟩
   rcases D with _|D
   ·exact absurd a (by simp [AD])
   rw [AD] at a
   refine Aa λen cl=>Ad<|rn 2 Z<|rL (Sl.shp aa) Z<|rz Z<|aD a Z (λcm a=> ?_) (λcm a=> ?_)
   ·refine Ab<|cl _ _ ?_
    refine Aa λeo cn=>Ai<|Aa λep co=>Ia [] (by decide+kernel) (λhn=>AK)<|rn 2 Z<|kC a λav a=>rI (Sl.shp aa) av Z<|rE (Ax aa (Aj (Ls:=[(AX h 0 (0#64) (0#64)),f,g,c]) (k:=1) Z Z)) av 0 Z<|rn 2 Z<|kC a λaw a=>rI (Sl.shp ab) aw Z<|rE (Ax ab (Aj (Ls:=[(AX h 0 (0#64) (0#64)),f,g,c]) (k:=2) Z Z)) aw 0 Z<|rz Z<|co _ _ ?_
    refine Cb (λtt ll=> ∃(q:Bool),(FU m j n d i (AD N m j B b D) q=some r)/\Is [(0,vS m),(6,vP h 0),(8,F),(9,G),(10,vB b),(13,e),(14,vB d),(15,vI i),(16,vB (j[i.toNat]!)),(17,vB q)] (List.flatten [(AX h 0 (0#64) (0#64)),f,g,c]) tt ll) ?_ ?_
    ·refine Aa λds bc=>Ah<|rn 1 Z<|r_W (vB (m==([115,117,98]:W2))) Z (Cr Z Z)<|rn 1 Z<|AF 3 94 [(0,vS m),(6,vP h 0),(8,F),(9,G),(10,vB b),(13,e),(14,vB d),(15,vI i),(16,vB (j[i.toNat]!)),(17,vB (B[i.toNat]!))] vB (λb_=>FP m j B n d i (AD N m j B b D) b_=some r) (λdt a T=> ?_) (λX=> ?_)
     ·unfold FP at a
      refine Ak<|bc _ _ ?_
      refine aB a Z (λbd a=> ?_) (λbd a=> ?_)
      ·refine Ah<|rz Z<|fg _ (Sub.pick [(AX h 0 (0#64) (0#64)),f,g,c] [0,1,2,3] Z) ?_
       exact⟨!(B[i.toNat]!),a,Ag Z (by first|rfl|simp only [Br])⟩
      refine Ab<|fg _ (Sub.pick [(AX h 0 (0#64) (0#64)),f,g,c] [0,1,2,3] Z) ?_
      exact⟨B[i.toNat]!,a,Ag Z (by first|rfl|simp only [Br])⟩
     rcases ae:(m==([115,117,98]:W2))with _|_
     ·replace a:=iG ae a
      refine rn 1 Z<|r_y Z<|r_W (vB (m==([115,117,98,115,97,116]:W2))) Z (Cr Z Z)<|rn 1 Z ?_
      exact X _ _ a Z Z
     replace a:=iE ae a
     refine rn 3 Z ?_
     exact X _ _ a Z Z
    clear a;rintro t l ⟨q,a,⟨T,rfl⟩,rfl⟩
    unfold FU at a
    refine AZ Z<|Cb (λtt ll=> ∃(V:Int),(FT m j n d i (AD N m j B b D) q V=some r)/\Is [(0,vS m),(6,vP h 0),(8,F),(9,G),(10,vB b),(13,e),(14,vB d),(15,vI i),(16,vB (j[i.toNat]!)),(17,vB q),(18,vI V)] (List.flatten [(AX h 0 (0#64) (0#64)),f,g,c]) tt ll) ?_ ?_
    ·refine AZ Z<|aB a Z (λbe a=> ?_) (λbe a=> ?_)
     ·refine Ah<|rn 1 Z<|r_X (vI 1) Z (Rv Z (by decide) (by decide)) Z<|rz Z<|fg _ (Sub.pick [(AX h 0 (0#64) (0#64)),f,g,c] [0,1,2,3] Z) ?_
      exact⟨1,a,Ag Z (by first|rfl|simp only [Br])⟩
     refine Ab<|fg _ (Sub.pick [(AX h 0 (0#64) (0#64)),f,g,c] [0,1,2,3] Z) ?_
     exact⟨0,a,Ag Z (by first|rfl|simp only [Br])⟩
    clear a;rintro t l ⟨V,a,⟨T,rfl⟩,rfl⟩
    unfold FT at a
    refine Cb (λtt ll=> ∃(W:Int),(FS m j n d i (AD N m j B b D) q W=some r)/\Is [(0,vS m),(6,vP h 0),(8,F),(9,G),(10,vB b),(13,e),(14,vB d),(15,vI i),(16,vB (j[i.toNat]!)),(17,vB q),(18,vI W)] (List.flatten [(AX h 0 (0#64) (0#64)),f,g,c]) tt ll) ?_ ?_
    ·refine AZ Z<|aB a Z (λcp a=> ?_) (λcp a=> ?_)
     ·refine Ah<|rn 1 Z<|kC a λcq a=>rX cq Z<|rz Z<|fg _ (Sub.pick [(AX h 0 (0#64) (0#64)),f,g,c] [0,1,2,3] Z) ?_
      exact⟨(V+1),a,Ag Z (by first|rfl|simp only [Br])⟩
     refine Ab<|fg _ (Sub.pick [(AX h 0 (0#64) (0#64)),f,g,c] [0,1,2,3] Z) ?_
     exact⟨V,a,Ag Z (by first|rfl|simp only [Br])⟩
    clear a;rintro t l ⟨W,a,⟨T,rfl⟩,rfl⟩
    unfold FS at a
    refine Cb (λtt ll=> ∃(z:Int),(FR m j n i (AD N m j B b D) q z=some r)/\Is [(0,vS m),(6,vP h 0),(8,F),(9,G),(10,vB b),(13,e),(15,vI i),(16,vB (j[i.toNat]!)),(17,vB q),(18,vI z)] (List.flatten [(AX h 0 (0#64) (0#64)),f,g,c]) tt ll) ?_ ?_
    ·refine AZ Z<|aB a Z (λcr a=> ?_) (λcr a=> ?_)
     ·refine Ah<|rn 1 Z<|kC a λcs a=>rX cs Z<|rz Z<|fg _ (Sub.pick [(AX h 0 (0#64) (0#64)),f,g,c] [0,1,2,3] Z) ?_
      exact⟨(W+1),a,Ag Z (by first|rfl|simp only [Br])⟩
     refine Ab<|fg _ (Sub.pick [(AX h 0 (0#64) (0#64)),f,g,c] [0,1,2,3] Z) ?_
     exact⟨W,a,Ag Z (by first|rfl|simp only [Br])⟩
    clear a;rintro t l ⟨z,a,⟨T,rfl⟩,rfl⟩
    unfold FR at a
    refine Ad<|rn 1 Z<|kC a λct a=>r_X (vI (z%2)) Z (SA ct.1) Z<|rz Z<|AZ Z<|Cb (λtt ll=> ∃(K:Bool),(EB m j n i (AD N m j B b D) q z K=some r)/\Is [(0,vS m),(6,vP h 0),(8,F),(9,G),(10,vB b),(13,e),(14,vB (decide (z>=2))),(15,vI i),(16,vB (j[i.toNat]!)),(17,vB q),(19,vB K)] (List.flatten [(AX h 0 (0#64) (0#64)),f,g,c]) tt ll) ?_ ?_
    ·refine Ad<|rn 1 Z<|r_W (vB (m==([97,110,100]:W2))) Z (Cr Z Z)<|Ak<|aE a Z (λcu a=> ?_) (λcu a=> ?_)
     ·refine Ah<|rn 2 Z ?_
      rcases M:(j[i.toNat]!)with _|_
      ·replace a:=iB M a
       refine rz Z<|fg _ (Sub.pick [(AX h 0 (0#64) (0#64)),f,g,c] [0,1,2,3] Z) ?_
       exact⟨false,a,Ag (by first|rfl|(simp only [M];done)|(simp only [M];rfl)|(simp only [Br];rfl)) (by first|rfl|simp only [Br])⟩
      replace a:=ifp M a
      refine rz Z<|fg _ (Sub.pick [(AX h 0 (0#64) (0#64)),f,g,c] [0,1,2,3] Z) ?_
      exact⟨q,a,Ag (by first|rfl|(simp only [M];done)|(simp only [M];rfl)|(simp only [Br];rfl)) (by first|rfl|simp only [Br])⟩
     refine Ab<|fg _ (Sub.pick [(AX h 0 (0#64) (0#64)),f,g,c] [0,1,2,3] Z) ?_
     exact⟨((z%2:Int)==1),a,Ag Z (by first|rfl|simp only [Br])⟩
    clear a;rintro t l ⟨K,a,⟨T,rfl⟩,rfl⟩
    unfold EB at a
    refine Cb (λtt ll=> ∃(L:Bool),(EA m j n i (AD N m j B b D) q z L=some r)/\Is [(0,vS m),(6,vP h 0),(8,F),(9,G),(10,vB b),(13,e),(14,vB (decide (z>=2))),(15,vI i),(16,vB (j[i.toNat]!)),(17,vB q),(19,vB L)] (List.flatten [(AX h 0 (0#64) (0#64)),f,g,c]) tt ll) ?_ ?_
    ·refine Ad<|rn 1 Z<|r_W (vB (m==([111,114]:W2))) Z (Cr Z Z)<|Ak<|aE a Z (λcv a=> ?_) (λcv a=> ?_)
     ·refine Ah<|rn 2 Z ?_
      rcases O:(j[i.toNat]!)with _|_
      ·replace a:=iB O a
       refine rz Z<|fg _ (Sub.pick [(AX h 0 (0#64) (0#64)),f,g,c] [0,1,2,3] Z) ?_
       exact⟨q,a,Ag (by first|rfl|(simp only [O];done)|(simp only [O];rfl)|(simp only [Br];rfl)) (by first|rfl|simp only [Br])⟩
      replace a:=ifp O a
      refine rz Z<|fg _ (Sub.pick [(AX h 0 (0#64) (0#64)),f,g,c] [0,1,2,3] Z) ?_
      exact⟨true,a,Ag (by first|rfl|(simp only [O];done)|(simp only [O];rfl)|(simp only [Br];rfl)) (by first|rfl|simp only [Br])⟩
     refine Ab<|fg _ (Sub.pick [(AX h 0 (0#64) (0#64)),f,g,c] [0,1,2,3] Z) ?_
     exact⟨K,a,Ag Z (by first|rfl|simp only [Br])⟩
    clear a;rintro t l ⟨L,a,⟨T,rfl⟩,rfl⟩
    unfold EA at a
    refine Cb (λtt ll=> ∃(E:Bool),(FQ n i (AD N m j B b D) z E=some r)/\Is [(0,vS m),(6,vP h 0),(8,F),(9,G),(10,vB b),(13,e),(14,vB (decide (z>=2))),(15,vI i),(19,vB E)] (List.flatten [(AX h 0 (0#64) (0#64)),f,g,c]) tt ll) ?_ ?_
    ·refine Ad<|rn 1 Z<|r_W (vB (m==([120,111,114]:W2))) Z (Cr Z Z)<|Ak<|aE a Z (λcw a=> ?_) (λcw a=> ?_)
     ·refine Ah<|rn 2 Z<|r_W (vB ((j[i.toNat]!) !=q)) Z (cY Z Z Z)<|rz Z<|fg _ (Sub.pick [(AX h 0 (0#64) (0#64)),f,g,c] [0,1,2,3] Z) ?_
      exact⟨(j[i.toNat]!) !=q,a,Ag Z (by first|rfl|simp only [Br])⟩
     refine Ab<|fg _ (Sub.pick [(AX h 0 (0#64) (0#64)),f,g,c] [0,1,2,3] Z) ?_
     exact⟨L,a,Ag Z (by first|rfl|simp only [Br])⟩
    clear a;rintro t l ⟨E,a,⟨T,rfl⟩,rfl⟩
    unfold FQ at a
    refine Ah<|rn 2 Z<|gB (Ls:=[(AX h 0 (0#64) (0#64)),f,g,c]) 4 Qn [E] (λer bf dp=> ?_)
    refine kC a λax a=>cC 131<|LK (cs0:=[]) (Ls:=[(AX h 0 (0#64) (0#64)),f,g,c,bf]) 3 (En:=Qn) Z Z Z Z Z Y Z (Ax dp (Aj (Ls:=[(AX h 0 (0#64) (0#64)),f,g,c,bf]) (k:=4) Z Z)) Z Z Z Z Z (Mf ax Z) (Me ax Z) Z (λdq cx dr=> ?_)
    refine rz Z<|cn _ _ ?_
    refine Ah<|rn 1 Z<|kC a λcy a=>rX cy Z<|rz Z<|fg _ (Sub.pick [(AX h 0 (0#64) (0#64)),f,g,cx,bf] [0,1,2,3] Z) ?_
    exact⟨D+1,by omega,D,(n++([E])),decide (z>=2),(i+1),a,dq,cx,dr,Ag Z (by first|rfl|simp only [Br]),Z⟩
   refine AG<|ck _ _ ?_
   refine Aa λdu bg=>AZ Z<|Ai<|Bs _ (Sub.pick [(AX h 0 (0#64) (0#64)),f,g,c] [0,3] Z)<|AH (λtt ll nn=> ∃(A:Nat) (s:List Bool) (u:Int),(AQ N m b d A s u=some r)/\ ∃(p:List Bl),Sl 4 Qn e s p/\Is [(0,vS m),(6,vP h 0),(10,vB b),(13,e),(14,vB d),(20,vI u)] (List.flatten [(AX h 0 (0#64) (0#64)),p]) tt ll/\nn=A+1) (N+1) ?_ ?_
   ·exact⟨N,n,0,a,c,Y,Ag Z (by first|rfl|simp only [Br]),Z⟩
   clear a;rintro t l _ ⟨A,s,u,a,p,y,⟨⟨T,rfl⟩,rfl⟩,rfl⟩
   rcases A with _|A
   ·exact absurd a (by simp [AQ])
   rw [AQ] at a
   refine Aa λdv bh=>Ad<|rn 2 Z<|rL (Sl.shp y) Z<|rz Z<|aD a Z (λbi a=> ?_) (λbi a=> ?_)
   ·refine Ab<|bh _ _ ?_
    refine Aa λdw af=>Ai<|Cb (λtt ll=> ∃(x:List Bool),(FO m b u (AQ N m b d A) x=some r)/\ ∃(v:List Bl),Sl 4 Qn e x v/\Is [(0,vS m),(6,vP h 0),(10,vB b),(13,e),(14,vB d),(20,vI u)] (List.flatten [(AX h 0 (0#64) (0#64)),v]) tt ll) ?_ ?_
    ·refine Aa λdx bj=>Ah<|rn 1 Z<|r_W (vB (m==([97,100,100,115,97,116]:W2))) Z (Cr Z Z)<|rn 1 Z<|AF 2 142 [(0,vS m),(6,vP h 0),(10,vB b),(13,e),(14,vB d),(20,vI u)] vB (λb_=>FM m b s u (AQ N m b d A) b_=some r) (λdy a T=> ?_) (λX=> ?_)
     ·unfold FM at a
      refine Ak<|bj _ _ ?_
      refine aB a Z (λbk a=> ?_) (λbk a=> ?_)
      ·refine Ah<|rn 2 Z<|kC a λag a=>rI (Sl.shp y) ag Z<|RT (Ls:=[(AX h 0 (0#64) (0#64)),p]) 1 (En:=Qn) (s[u.toNat]!) true (u.toNat) 0 Z Z Z y (Dx ag) Z Z Z (Jp Z) Z (λay cz=> ?_)
       refine Ak<|fg _ (Sub.pick [(AX h 0 (0#64) (0#64)),ay] [0,1] Z) ?_
       exact⟨(s).set (u.toNat) true,a,ay,cz,Ag Z (by first|rfl|simp only [Br])⟩
      refine Ab<|fg _ (Sub.pick [(AX h 0 (0#64) (0#64)),p] [0,1] Z) ?_
      exact⟨s,a,p,y,Ag Z (by first|rfl|simp only [Br])⟩
     rcases ah:(m==([97,100,100,115,97,116]:W2))with _|_
     ·replace a:=iG ah a
      refine rn 2 Z ?_
      exact X _ _ a Z Z
     replace a:=iE ah a
     refine rn 2 Z ?_
     exact X _ _ a Z Z
    clear a;rintro t l ⟨x,a,v,H,⟨T,rfl⟩,rfl⟩
    unfold FO at a
    refine Aa λdz bl=>Ah<|rn 1 Z<|r_W (vB (m==([115,117,98,115,97,116]:W2))) Z (Cr Z Z)<|rn 1 Z<|AF 2 150 [(0,vS m),(6,vP h 0),(10,vB b),(13,e),(14,vB d),(20,vI u)] vB (λb_=>FN u (AQ N m b d A) x b_=some r) (λea a T=> ?_) (λX=> ?_)
    ·unfold FN at a
     refine Ak<|bl _ _ ?_
     refine aB a Z (λbm a=> ?_) (λbm a=> ?_)
     ·refine Ah<|rn 2 Z<|kC a λai a=>rI (Sl.shp H) ai Z<|RT (Ls:=[(AX h 0 (0#64) (0#64)),v]) 1 (En:=Qn) (x[u.toNat]!) false (u.toNat) 0 Z Z Z H (Dx ai) Z Z Z (Jp Z) Z (λaz da=> ?_)
      refine Ak<|af _ _ ?_
      refine Ah<|rn 1 Z<|kC a λbn a=>rX bn Z<|rz Z<|fg _ (Sub.pick [(AX h 0 (0#64) (0#64)),az] [0,1] Z) ?_
      exact⟨A+1,by omega,A,(x).set (u.toNat) false,(u+1),a,az,da,Ag Z (by first|rfl|simp only [Br]),Z⟩
     refine Ab<|af _ _ ?_
     refine Ah<|rn 1 Z<|kC a λbo a=>rX bo Z<|rz Z<|fg _ (Sub.pick [(AX h 0 (0#64) (0#64)),v] [0,1] Z) ?_
     exact⟨A+1,by omega,A,x,(u+1),a,v,H,Ag Z (by first|rfl|simp only [Br]),Z⟩
    rcases aj:(m==([115,117,98,115,97,116]:W2))with _|_
    ·replace a:=iG aj a
     refine rn 2 Z ?_
     exact X _ _ a Z Z
    replace a:=iE aj a
    refine rn 2 Z ?_
    exact X _ _ a Z Z
   refine AG<|bg _ _ ?_
   refine Ad<|rn 1 Z<|kB a λak bp a=>gV _ (cF WR) (λo w z_=>LE N s _ bp z_.view e ((Ax y (Aj (Ls:=[(AX h 0 (0#64) (0#64)),p]) (k:=1) Z Z)) o w z_))<|ry [0] Z ?_
   cases a
   refine Bh (λhn=>Eu (v0:=vT #[vA #[vI ak.1,U (hi ak.2),U (lo ak.2)],vI 0]) Z (LI (AW hn 0 Z Z Z) Z))
  rcases al:(m==([115,117,98]:W2))with _|_
  ·replace a:=iG al a
   refine rn 1 Z<|r_y Z<|r_W (vB (m==([115,117,98,115,97,116]:W2))) Z (Cr Z Z)<|rn 1 Z ?_
   exact X _ _ a Z Z
  replace a:=iE al a
  refine rn 3 Z ?_
  exact X _ _ a Z Z
 rcases am:(!(r7))with _|_
 ·replace a:=ifp (Dl am) a
  refine r_y Z<|rm 1 [1] Z<|r_y Z<|kB a λeb bq a=>rc _ (cF PB) (GU N R J _ bq)<|rn 2 Z ?_
  exact X _ _ a Z Z
 replace a:=ifn (Bool.eq_false_iff.1 (Dk am)) a
 refine rn 4 Z ?_
 exact X _ _ a Z Z
def EJ(_:Nat)(m:Ao)(n:Int):Option Bool:=if n>= -2 then some (decide (n<(m.2.2.2.2.1.length:Int)))else some false
theorem Lz(N m n r)(a:EJ N m n=some r)(e)(f:AB)(g:Aa1 e f m):Does prog 149 #[vA (Ac m f),vI n] e [] (pV (vB r)):=by
 unfold EJ at a
 refine Al follows func149 Z 14 Z _ fz2 (λd=> ?_)
 refine Ad<|rA Z λh=>rz Z<|Aa λi b=>Ah<|rn 3 Z ?_
 rcases c:(decide (n>= -2))with _|_
 ·replace a:=iF c a
  refine rz Z<|b _ _ ?_
  cases a
  exact aR eV1
 replace a:=iD c a
 refine rn 2 Z<|r_y Z<|rm 1 [0] Z<|r_y Z<|rL (RdN.shp g.2.2.2.1) Z<|rz Z<|b _ _ ?_
 cases a
 exact aR eV1
def DH(N:Nat)(m:Ao)(c:List (Int×W3×Int×W3×Int))(b:Int)(a:Int->Option Int)(e:Bool):Option Int:=if e=true then some 9 else(HK N ([97,110,100]:W2) ((c[b.toNat]!).1) ((c[b.toNat]!).2.1) ((c[b.toNat]!).2.2.1) ((c[b.toNat]!).2.2.2.1)).bind λd=>if((d.1==((c[b.toNat]!).1))&&(d.2.1==((c[b.toNat]!).2.1)))=true then(EJ N m ((c[b.toNat]!).2.2.2.2)).bind λf=>if f=true then ck (R64 (b+1)) (a (b+1))else some 5 else some 14
def DI(N:Nat)(m:Ao)(b:List (Int×W3×Int×W3×Int))(d:Int×Bool)(c:Int)(a:Int->Option Int)(e:Bool):Option Int:=if e=true then DH N m b c a true else DH N m b c a ((((b[c.toNat]!).2.2.1:Int) !=d.1))
def DJ(N:Nat)(m:Ao)(b:List (Int×W3×Int×W3×Int))(d:Int×Bool)(c:Int)(a:Int->Option Int)(e:Bool):Option Int:=if e=true then DI N m b d c a true else DI N m b d c a ((((b[c.toNat]!).1:Int) !=d.1))
def AJ(N:Nat)(m:Ao)(a:List (Int×W3×Int×W3×Int))(d:Int)(c:Int×Bool):Nat->Int->Option Int
  |0,_=>none
  |e+1,b=>if b<(a.length:Int)then ck (0<=b/\b<(a.length:Int)) ((CC N ((a[b.toNat]!).1) ((a[b.toNat]!).2.1)).bind λh=>if h=true then(CC N ((a[b.toNat]!).2.2.1) ((a[b.toNat]!).2.2.2.1)).bind λg=>DJ N m a c b (AJ N m a d c e) (!(g))else DJ N m a c b (AJ N m a d c e) true)else(EJ N m d).bind λf=>if f=true then some 0 else some 5
def DK(N:Nat)(m:Ao)(d:List (Int×Int×Int))(c:List (Int×W3×Int×W3×Int))(b:Int)(a:Bool):Option Int:=if a=true then some 4 else(GF N m d).bind λe=>AJ N m c b e N 0
def BX(N:Nat)(m:Ao)(d:List (Int×Int))(c:List (Int×Int×Int))(b:List (Int×W3×Int×W3×Int))(e:Int):Nat->Int->Option Int
  |0,_=>none
  |h+1,a=>if a<(d.length:Int)then ck (0<=a/\a<(d.length:Int)) ((Fj N m ((d[a.toNat]!).1) ((d[a.toNat]!).2)).bind λf=>if(f:Int)≠0 then some f else ck (R64 (a+1)) ((BX N m d c b e h) (a+1)))else(Fi N m c true).bind λg=>if(g:Int)≠0 then some g else if(b.length:Int)>8 then some 2 else if(b.length:Int)>0 then DK N m c b e (((c.length:Int)==0))else DK N m c b e false
def DY(N:Nat)(m:Ao)(_:W2)(a:List (Int×Int))(b:List (Int×Int×Int))(d:List (Int×W3×Int×W3×Int))(c:Int):Option Int:=if(a.length:Int)>4 then some 2 else BX N m a b d c N 0
theorem Pd(N m B k s b d r)(a:DY N m B k s b d=some r)(ro)(C:AB)(hm:Aa1 ro C m)(n)(p:Rd Af3 ro n k)(g)(z:Rd Ad1 ro g s)(q)(i:Rd Af4 ro q b):Does prog 90 #[vA (Ac m C),vA #[vS B,n,g,q,vI d]] ro [] (pV (vI r)):=by
 unfold DY at a
 refine Al follows func90 Z 121 Z _ fz2 (λay=> ?_)
 refine Ad<|rA Z λD=>rA Z λE=>rz Z<|Aa λK4 az=>Ad<|rm 2 [0] Z<|rL (Rd.shp p) Z<|rz Z<|aD a Z (λba a=> ?_) (λba a=> ?_)
 ·refine AZ Z ?_
  cases a
  exact aR eV1
 refine Ab<|az _ _ ?_
 refine Aa λK8 bb=>AZ Z<|Ai<|AH (λtt ll nn=> ∃(j:Nat) (h:Int),(BX N m k s b d j h=some r)/\Is [(2,vP D 0),(3,vP E 0),(5,vI h)] [(E,101, #[vS B,n,g,q,vI d]),(D,35,(Ac m C))] tt ll/\nn=j+1) (N+1) ?_ ?_
 ·exact⟨N,0,a,Ag Z Z,Z⟩
 clear a;rintro t l _ ⟨j,h,a,⟨⟨T,rfl⟩,rfl⟩,rfl⟩
 rcases j with _|j
 ·exact absurd a (by simp [BX])
 rw [BX] at a
 refine Aa λbg O=>Ad<|rm 3 [0] Z<|rL (Rd.shp p) Z<|rz Z<|aD a Z (λP a=> ?_) (λP a=> ?_)
 ·refine Ab<|O _ _ ?_
  refine Aa λbh Q=>Ai<|Aa λbi R=>BB [(some 31,false)] (conG prog [(31,cV (Fj N m ((k[h.toNat]!).1) ((k[h.toNat]!).2)) λbc=>vI bc)]) [] (by decide+kernel) (λhn=>AK)<|rm 4 [1,0] Z<|kC a λF a=>rI (Rd.shp p) F Z<|rE (Aw p) F 0 Z<|kB a λbj G a=>rg _ (cF oW) (λo w z_=>Qi N m ((k[h.toNat]!).1) ((k[h.toNat]!).2) _ G z_.view C (Aa1.mono z_.ro_cell hm)) (GQ G)<|rz Z<|R _ _ ?_
  refine AZ Z<|aN a Z (λS a=> ?_) (λS a=> ?_)
  ·refine AZ Z ?_
   cases a
   exact aR eV1
  refine Ab<|Q _ _ ?_
  refine Ah<|rn 1 Z<|kC a λU a=>rX U Z<|rz Z<|fg _ (Sub.of (suK _ (suK _ suN))) ?_
  exact⟨j+1,by omega,j,(h+1),a,Ag Z Z,Z⟩
 refine AG<|bb _ _ ?_
 refine Ad<|rm 3 [1,0] Z<|kB a λbk V a=>gV _ (cF dS) (λo w z_=>Mg N m s true _ V z_.view C (Aa1.mono z_.ro_cell hm) g (z_.r z))<|rz Z<|Aa λbl W=>AZ Z<|aN a Z (λX a=> ?_) (λX a=> ?_)
 ·refine AZ Z ?_
  cases a
  exact aR eV1
 refine Ab<|W _ _ ?_
 refine Aa λbm Y=>Ad<|rm 2 [0] Z<|rL (Rd.shp i) Z<|rz Z<|aD a Z (λaa a=> ?_) (λaa a=> ?_)
 ·refine AZ Z ?_
  cases a
  exact aR eV1
 refine Ab<|Y _ _ ?_
 refine Aa λbn ab=>Aa λbo ac=>Ah<|rm 2 [0] Z<|rL (Rd.shp i) Z<|rn 2 Z<|AF 5 55 [(2,vP D 0),(3,vP E 0)] vB (λb_=>DK N m s b d b_=some r) (λbp a T=> ?_) (λu=> ?_)
 ·unfold DK at a
  refine Ak<|ac _ _ ?_
  refine aB a Z (λad a=> ?_) (λad a=> ?_)
  ·refine AZ Z ?_
   cases a
   exact aR eV1
  refine Ab<|ab _ _ ?_
  refine Ad<|rm 3 [1,0] Z<|kB a λe ae a=>gV _ (cF dR) (λo w z_=>Mh N m s _ ae z_.view C (Aa1.mono z_.ro_cell hm) g (z_.r z))<|rz Z<|Aa λbq af=>AZ Z<|Ai ?_
  refine AH (λtt ll nn=> ∃(f:Nat) (c:Int),(AJ N m b d e f c=some r)/\Is [(2,vP D 0),(3,vP E 0),(8,vI e.1),(10,vI c)] [(E,101, #[vS B,n,g,q,vI d]),(D,35,(Ac m C))] tt ll/\nn=f+1) (N+1) ?_ ?_
  ·exact⟨N,0,a,Ag Z Z,Z⟩
  clear a;rintro t l _ ⟨f,c,a,⟨⟨T,rfl⟩,rfl⟩,rfl⟩
  rcases f with _|f
  ·exact absurd a (by simp [AJ])
  rw [AJ] at a
  refine Aa λbr ag=>Ad<|rm 3 [0] Z<|rL (Rd.shp i) Z<|rz Z<|aD a Z (λah a=> ?_) (λah a=> ?_)
  ·refine Ab<|ag _ _ ?_
   refine Aa λbs ai=>Ai<|Ad<|rm 3 [0] Z<|kC a λH a=>rI (Rd.shp i) H Z<|rE (Aw i) H 0 Z<|rA Z λM=>ry [0] Z ?_
   refine Aa λbt aj=>Aa λbu ak=>Ah<|rm 2 [0] Z<|kB a λbd al a=>rc _ (cF PB) (GU N ((b[c.toNat]!).1) ((b[c.toNat]!).2.1) _ al)<|rn 2 Z<|AF 5 84 [(2,vP D 0),(3,vP E 0),(8,vI e.1),(10,vI c),(11,vP M 0)] vB (λb_=>DJ N m b e c (AJ N m b d e f) b_=some r) (λbe a T=> ?_) (λu=> ?_)
   ·unfold DJ at a
    refine rn 1 Z<|AF 6 91 [(2,vP D 0),(3,vP E 0),(8,vI e.1),(10,vI c),(11,vP M 0)] vB (λb_=>DI N m b e c (AJ N m b d e f) b_=some r) (λbf a T=> ?_) (λu=> ?_)
    ·unfold DI at a
     refine rn 1 Z<|AF 6 98 [(2,vP D 0),(3,vP E 0),(8,vI e.1),(10,vI c),(11,vP M 0)] vB (λb_=>DH N m b c (AJ N m b d e f) b_=some r) (λbv a T=> ?_) (λu=> ?_)
     ·unfold DH at a
      refine Ak<|ak _ _ ?_
      refine aB a Z (λam a=> ?_) (λam a=> ?_)
      ·refine AZ Z ?_
       cases a
       exact aR eV1
      refine Ab<|aj _ _ ?_
      refine Ad<|rm 4 [0,0] Z<|kB a λA an a=>rc _ (cF oV) (RN N ([97,110,100]:W2) ((b[c.toNat]!).1) ((b[c.toNat]!).2.1) ((b[c.toNat]!).2.2.1) ((b[c.toNat]!).2.2.2.1) _ an)<|rn 3 Z<|rA Z λbw=>ry [0] Z<|Aa λbx ao=>Ad<|rm 2 [0] Z ?_
      refine rm 1 [1] Z<|r_W (vB (!((A.1==((b[c.toNat]!).1))&&(A.2.1==((b[c.toNat]!).2.1))))) Z (cX Z Z mm (aL A.1 ((b[c.toNat]!).1) A.2.1 ((b[c.toNat]!).2.1)))<|Ak<|BI _ Z (λv=> ?_) (λv=> ?_)
      ·replace a:=ifn (Bool.eq_false_iff.1 (Dk v)) a
       refine AZ Z ?_
       cases a
       exact aR eV1
      replace a:=ifp (Dl v) a
      refine Ab<|ao _ _ ?_
      refine Ad<|rm 3 [3,1] Z<|kB a λbz ap a=>gV _ (cF dQ) (λo w z_=>Lz N m ((b[c.toNat]!).2.2.2.2) _ ap z_.view C (Aa1.mono z_.ro_cell hm))<|rz Z<|BI _ Z (λx=> ?_) (λx=> ?_)
      ·replace a:=ifn (Bool.eq_false_iff.1 (Dk x)) a
       refine AZ Z ?_
       cases a
       exact aR eV1
      replace a:=ifp (Dl x) a
      refine Ab<|ai _ _ ?_
      refine Ah<|rn 1 Z<|kC a λaq a=>rX aq Z<|rz Z<|fg _ (Sub.of (suC _ (suC _ (suK _ (suK _ suN))))) ?_
      exact⟨f+1,by omega,f,(c+1),a,Ag Z Z,Z⟩
     rcases I:bf with _|_
     ·replace a:=iB I a
      refine rn 2 Z<|r_y Z<|rm 4 [0] Z ?_
      exact u _ _ a Z Z
     replace a:=ifp I a
     refine rn 6 Z ?_
     exact u _ _ a Z Z
    rcases J:be with _|_
    ·replace a:=iB J a
     refine rn 2 Z<|r_y Z<|rm 4 [0] Z ?_
     exact u _ _ a Z Z
    replace a:=ifp J a
    refine rn 6 Z ?_
    exact u _ _ a Z Z
   rcases K:(!(bd))with _|_
   ·replace a:=ifp (Dl K) a
    refine rn 1 Z<|r_y Z<|rm 1 [0] Z<|r_y Z<|kB a λca ar a=>rc _ (cF PB) (GU N ((b[c.toNat]!).2.2.1) ((b[c.toNat]!).2.2.2.1) _ ar)<|rn 2 Z ?_
    exact u _ _ a Z Z
   replace a:=ifn (Bool.eq_false_iff.1 (Dk K)) a
   refine rn 5 Z ?_
   exact u _ _ a Z Z
  refine AG<|af _ _ ?_
  refine Aa λcb au=>Ad<|rm 3 [1,0] Z<|kB a λcc av a=>gV _ (cF dQ) (λo w z_=>Lz N m d _ av z_.view C (Aa1.mono z_.ro_cell hm))<|rz Z<|BI _ Z (λy=> ?_) (λy=> ?_)
  ·replace a:=ifn (Bool.eq_false_iff.1 (Dk y)) a
   refine AZ Z ?_
   cases a
   exact aR eV1
  replace a:=ifp (Dl y) a
  refine Ab<|au _ _ ?_
  refine AZ Z ?_
  cases a
  exact aR eV1
 rcases L:(decide ((b.length:Int)>0))with _|_
 ·replace a:=iF L a
  refine rn 5 Z ?_
  exact u _ _ a Z Z
 replace a:=iD L a
 refine rn 1 Z<|r_y Z<|rm 1 [0] Z<|r_y Z<|rL (Rd.shp z) Z<|rn 2 Z ?_
 exact u _ _ a Z Z
def Fq(b:Int)(a:Bool->Int->Option Int)(c:Bool):Option Int:=ck (R64 (b+1)) (a c (b+1))
def BW(d:List Int)(f:Int)(e:Bool)(c:Int)(a:Bool->Int->Option Int):Nat->Int->Option Int
  |0,_=>none
  |g+1,b=>if b<c then ck (0<=b/\b<(d.length:Int)) (if(d[b.toNat]!:Int)=d[c.toNat]! then some 6 else ck (R64 (b+1)) ((BW d f e c a g) (b+1)))else if e=true then Fq c a true else Fq c a ((d[c.toNat]!:Int)==f)
def DF(N:Nat)(d:List Int)(c:Int)(b:Bool)(f:Int)(a:Bool->Int->Option Int)(e:Bool):Option Int:=if e=true then some 5 else BW d c b f a N 0
def DE(a:Bool):Option Int:=if a=true then some 7 else some 0
def AC(N:Nat)(m:Ao)(a:List Int)(d:Int)(f:List (Int×W3))(e:Int):Nat->Bool->Int->Option Int
  |0,_,_=>none
  |h+1,c,b=>if b<(a.length:Int)then ck (0<=b/\b<(a.length:Int)) (if(a[b.toNat]!:Int)<0 then DF N a d c b (AC N m a d f e h) true else DF N a d c b (AC N m a d f e h) (decide ((a[b.toNat]!:Int)>=(m.2.2.2.2.2.1.length:Int))))else if(a.length:Int)=0 then some 5 else if c=true then(EN N m d f).bind λg=>if(g:Int)≠0 then some g else if e<1 then DE true else DE (decide (e>256))else some 16
def DG(N:Nat)(m:Ao)(b:List (Int×Int×Int))(c:List Int)(d:Int)(e:List (Int×W3))(f:Int)(g:Bool):Option Int:=if g=true then some 10 else if(b.length:Int)=0 then some 5 else(Fi N m b false).bind λa=>if(a:Int)≠0 then some a else if(c.length:Int)>8 then some 2 else AC N m c d e f N false 0
def DX(N:Nat)(m:Ao)(_:W2)(d:Int)(b:List (Int×Int×Int))(c:List Int)(a:Int)(e:List (Int×W3))(f:Int):Option Int:=if d<0 then DG N m b c a e f true else DG N m b c a e f (decide (d>3))
theorem Pc(N m y v z e f j i r)(a:DX N m y v z e f j i=some r)(ro)(I:AB)(hm:Aa1 ro I m)(k)(F:Rd Ad1 ro k z)(q)(g:Rd BE ro q e)(n)(aq:Rd Ad0 ro n j):Does prog 92 #[vA (Ac m I),vA #[vS y,vI v,k,q,vI f,n,vI i]] ro [] (pV (vI r)):=by
 unfold DX at a
 refine Al follows func92 Z 99 Z _ fz2 (λar=> ?_)
 refine Ad<|rA Z λG=>rA Z λH=>rz Z<|Aa λK4 au=>Aa λK5 av=>Ah<|rm 4 [0] Z<|AF 4 17 [(2,vP G 0),(3,vP H 0)] vB (λb_=>DG N m z e f j i b_=some r) (λb6 a T=> ?_) (λs=> ?_)
 ·unfold DG at a
  refine Ak<|av _ _ ?_
  refine aB a Z (λaw a=> ?_) (λaw a=> ?_)
  ·refine AZ Z ?_
   cases a
   exact aR eV1
  refine Ab<|au _ _ ?_
  refine Aa λK9 ax=>Ad<|rm 2 [0] Z<|rL (Rd.shp F) Z<|rz Z<|aE a Z (λJ a=> ?_) (λJ a=> ?_)
  ·refine AZ Z ?_
   cases a
   exact aR eV1
  refine Ab<|ax _ _ ?_
  refine Ad<|rm 3 [1,0] Z<|kB a λbb K a=>gV _ (cF dS) (λo w z_=>Mg N m z false _ K z_.view I (Aa1.mono z_.ro_cell hm) k (z_.r F))<|rz Z<|Aa λbc L=>AZ Z<|aN a Z (λM a=> ?_) (λM a=> ?_)
  ·refine AZ Z ?_
   cases a
   exact aR eV1
  refine Ab<|L _ _ ?_
  refine Aa λbd O=>Ad<|rm 2 [0] Z<|rL (Rd.shp g) Z<|rz Z<|aD a Z (λP a=> ?_) (λP a=> ?_)
  ·refine AZ Z ?_
   cases a
   exact aR eV1
  refine Ab<|O _ _ ?_
  refine AZ Z<|Aa λbe Q=>AZ Z<|Ai<|AH (λtt ll nn=> ∃(h:Nat) (b:Bool) (d:Int),(AC N m e f j i h b d=some r)/\Is [(2,vP G 0),(3,vP H 0),(6,vB b),(7,vI d)] [(H,190, #[vS y,vI v,k,q,vI f,n,vI i]),(G,35,(Ac m I))] tt ll/\nn=h+1) (N+1) ?_ ?_
  ·exact⟨N,false,0,a,Ag Z Z,Z⟩
  clear a;rintro t l _ ⟨h,b,d,a,⟨⟨T,rfl⟩,rfl⟩,rfl⟩
  rcases h with _|h
  ·exact absurd a (by simp [AC])
  rw [AC] at a
  refine Aa λbf R=>Ad<|rm 3 [0] Z<|rL (Rd.shp g) Z<|rz Z<|aD a Z (λS a=> ?_) (λS a=> ?_)
  ·refine Ab<|R _ _ ?_
   refine Aa λbg U=>Ai<|Ad<|rm 3 [0] Z<|kC a λA a=>rI (Rd.shp g) A Z<|rE (Aw g) A 0 Z<|rz Z<|Aa λbh V=>Aa λbi W=>Ah<|rn 3 Z ?_
   refine AF 6 53 [(2,vP G 0),(3,vP H 0),(6,vB b),(7,vI d),(8,vI (e[d.toNat]!))] vB (λb_=>DF N e f b d (AC N m e f j i h) b_=some r) (λbj a T=> ?_) (λs=> ?_)
   ·unfold DF at a
    refine Ak<|W _ _ ?_
    refine aB a Z (λX a=> ?_) (λX a=> ?_)
    ·refine AZ Z ?_
     cases a
     exact aR eV1
    refine Ab<|V _ _ ?_
    refine Aa λbk Y=>AZ Z<|Ai<|AH (λtt ll nn=> ∃(p:Nat) (x:Int),(BW e f b d (AC N m e f j i h) p x=some r)/\Is [(2,vP G 0),(3,vP H 0),(6,vB b),(7,vI d),(8,vI (e[d.toNat]!)),(9,vI x)] [(H,190, #[vS y,vI v,k,q,vI f,n,vI i]),(G,35,(Ac m I))] tt ll/\nn=p+1) (N+1) ?_ ?_
    ·exact⟨N,0,a,Ag Z Z,Z⟩
    clear a;rintro t l _ ⟨p,x,a,⟨⟨T,rfl⟩,rfl⟩,rfl⟩
    rcases p with _|p
    ·exact absurd a (by simp [BW])
    rw [BW] at a
    refine Aa λbl aa=>AZ Z<|aD a Z (λab a=> ?_) (λab a=> ?_)
    ·refine Ab<|aa _ _ ?_
     refine Aa λbm ac=>Ai<|Ad<|rm 3 [0] Z<|kC a λB a=>rI (Rd.shp g) B Z<|rE (Aw g) B 0 Z<|rz Z<|aE a Z (λad a=> ?_) (λad a=> ?_)
     ·refine AZ Z ?_
      cases a
      exact aR eV1
     refine Ab<|ac _ _ ?_
     refine Ah<|rn 1 Z<|kC a λae a=>rX ae Z<|rz Z<|fg _ (Sub.of (suK _ (suK _ suN))) ?_
     exact⟨p+1,by omega,p,(x+1),a,Ag Z Z,Z⟩
    refine AG<|Y _ _ ?_
    refine Ah<|rn 2 Z<|AF 6 73 [(2,vP G 0),(3,vP H 0),(6,vB b),(7,vI d)] vB (λb_=>Fq d (AC N m e f j i h) b_=some r) (λay a T=> ?_) (λs=> ?_)
    ·unfold Fq at a
     refine rz Z<|U _ _ ?_
     refine Ah<|rn 1 Z<|kC a λaf a=>rX af Z<|rz Z<|fg _ (Sub.of (suK _ (suK _ suN))) ?_
     exact⟨h+1,by omega,h,ay,(d+1),a,Ag Z Z,Z⟩
    rcases c:b with _|_
    ·replace a:=iB c a
     refine rn 3 Z<|r_y Z<|rm 3 [0] Z ?_
     first|exact s _ _ a Z (by first|rfl|(simp only [c];done)|(simp only [c];rfl))|exact lx_cn _ _ (s _ _ a Z (by first|rfl|(simp only [c];done)|(simp only [c];rfl)))
    replace a:=ifp c a
    refine rn 6 Z ?_
    first|exact s _ _ a Z (by first|rfl|(simp only [c];done)|(simp only [c];rfl))|exact lx_cn _ _ (s _ _ a Z (by first|rfl|(simp only [c];done)|(simp only [c];rfl)))
   rcases C:(decide ((e[d.toNat]!:Int)<0))with _|_
   ·replace a:=iF C a
    refine rn 2 Z<|r_y Z<|rm 1 [1] Z<|r_y Z<|rL (RdN.shp hm.2.2.2.2.1) Z<|rn 2 Z ?_
    exact s _ _ a Z Z
   replace a:=iD C a
   refine rn 6 Z ?_
   exact s _ _ a Z Z
  refine AG<|Q _ _ ?_
  refine Aa λbn ag=>Ad<|rm 2 [0] Z<|rL (Rd.shp g) Z<|rz Z<|aE a Z (λah a=> ?_) (λah a=> ?_)
  ·refine AZ Z ?_
   cases a
   exact aR eV1
  refine Ab<|ag _ _ ?_
  refine Aa λbo ai=>AZ Z<|BI _ Z (λu=> ?_) (λu=> ?_)
  ·replace a:=ifn (Bool.eq_false_iff.1 (Dk u)) a
   refine AZ Z ?_
   cases a
   exact aR eV1
  replace a:=ifp (Dl u) a
  refine Ab<|ai _ _ ?_
  refine Ad<|rm 7 [1,0,0] Z<|kB a λaz aj a=>gV _ (cF dU) (λo w z_=>LA N m f j _ aj z_.view I (Aa1.mono z_.ro_cell hm) n (z_.r aq))<|rz Z<|Aa λbp ak=>AZ Z<|aN a Z (λal a=> ?_) (λal a=> ?_)
  ·refine AZ Z<|GS [(4,vI az)] Z (λT=> ?_)
   cases a
   exact aR eV1
  refine Ab<|ak _ _ ?_
  refine Aa λbq am=>Aa λbr an=>Ah<|rm 4 [0] Z<|AF 4 98 [] vB (λb_=>DE b_=some r) (λbs a T=> ?_) (λs=> ?_)
  ·unfold DE at a
   refine Ak<|an _ _ ?_
   refine aB a Z (λao a=> ?_) (λao a=> ?_)
   ·refine AZ Z ?_
    cases a
    exact aR eV1
   refine Ab<|am _ _ ?_
   refine AZ Z ?_
   cases a
   exact aR eV1
  rcases D:(decide (i<1))with _|_
  ·replace a:=iF D a
   refine rn 1 Z<|r_y Z<|rm 3 [0] Z ?_
   exact s _ _ a Z Z
  replace a:=iD D a
  refine rn 4 Z ?_
  exact s _ _ a Z Z
 rcases E:(decide (v<0))with _|_
 ·replace a:=iF E a
  refine rn 1 Z<|r_y Z<|rm 3 [0] Z ?_
  exact s _ _ a Z Z
 replace a:=iD E a
 refine rn 4 Z ?_
 exact s _ _ a Z Z
def DD(a:Bool):Option Int:=if a=true then some 7 else some 0
def BK(a:Int):Option Int:=if a<1 then DD true else DD (decide (a>8))
def DC(a:Bool):Option Int:=if a=true then some 9 else BK 1
def DB(b:Int)(a:Int->Option Int)(c:Bool):Option Int:=if c=true then some 9 else ck (R64 (b+1)) (a (b+1))
def Bm(N:Nat)(m:Ao)(i:Int):Nat->Int->Option Int
  |0,_=>none
  |b+1,a=>if a<(((m.2.2.2.2.2.1)[i.toNat]!.2.1).length:Int)then ck (0<=a/\a<(((m.2.2.2.2.2.1)[i.toNat]!.2.1).length:Int)) (if(((m.2.2.2.2.2.1)[i.toNat]!.2.1)[a.toNat]!:Int)<1 then DB a (Bm N m i b) true else ck (0<=a/\a<(((m.2.2.2.2.2.1)[i.toNat]!.2.1).length:Int)) (DB a (Bm N m i b) (decide ((((m.2.2.2.2.2.1)[i.toNat]!.2.1)[a.toNat]!:Int)>128))))else(Gh N m ((m.2.2.2.2.2.1)[i.toNat]!.2.2) (((m.2.2.2.2.2.1)[i.toNat]!.2.1).length:Int)).bind λc=>some c
def DA(m:Ao)(i:Int)(a:Bool):Option Int:=if a=true then some 9 else ck (0<=i/\i<(m.2.2.2.2.2.2.2.2.2.2.2.2.1.length:Int)) (BK (((m.2.2.2.2.2.2.2.2.2.2.2.2.1)[i.toNat]!).2.2))
def BH(m:Ao)(i:Int)(a:Bool):Option Int:=if a=true then some 7 else BK (((m.2.2.2.2.2.2.2.2.2.2.2.2.2.2.1)[i.toNat]!).2.1)
def Dz(m:Ao)(i:Int)(a:Bool):Option Int:=if a=true then ck (0<=i/\i<(m.2.2.2.2.2.2.2.2.2.2.2.2.2.2.1.length:Int)) (if(((m.2.2.2.2.2.2.2.2.2.2.2.2.2.2.1)[i.toNat]!).2.2.1:Int)<0 then BH m i true else ck (0<=i/\i<(m.2.2.2.2.2.2.2.2.2.2.2.2.2.2.1.length:Int)) (if(((m.2.2.2.2.2.2.2.2.2.2.2.2.2.2.1)[i.toNat]!).2.2.1:Int)>65535 then BH m i true else ck (0<=i/\i<(m.2.2.2.2.2.2.2.2.2.2.2.2.2.2.1.length:Int)) (if(((m.2.2.2.2.2.2.2.2.2.2.2.2.2.2.1)[i.toNat]!).2.2.2:Int)<1 then BH m i true else ck (0<=i/\i<(m.2.2.2.2.2.2.2.2.2.2.2.2.2.2.1.length:Int)) (BH m i (decide ((((m.2.2.2.2.2.2.2.2.2.2.2.2.2.2.1)[i.toNat]!).2.2.2:Int)>1048576))))))else BH m i false
def FC(N:Nat)(m:Ao)(a:Int)(i:Int):Option Int:=if a=3 then ck (0<=i/\i<(m.2.2.2.1.length:Int)) (if(((m.2.2.2.1)[i.toNat]!).2:Int)<1 then DC true else ck (0<=i/\i<(m.2.2.2.1.length:Int)) (DC (decide ((((m.2.2.2.1)[i.toNat]!).2:Int)>128))))else if a=4 then ck (0<=i/\i<(m.2.2.2.2.1.length:Int)) ((DY N m ((m.2.2.2.2.1)[i.toNat]!.1) ((m.2.2.2.2.1)[i.toNat]!.2.1) ((m.2.2.2.2.1)[i.toNat]!.2.2.1) ((m.2.2.2.2.1)[i.toNat]!.2.2.2.1) ((m.2.2.2.2.1)[i.toNat]!.2.2.2.2)).bind λb=>some b)else if a=5 then ck (0<=i/\i<(m.2.2.2.2.2.1.length:Int)) (if((((m.2.2.2.2.2.1)[i.toNat]!.2.1).length:Int):Int)>8 then some 2 else Bm N m i N 0)else if a=6 then ck (0<=i/\i<(m.2.2.2.2.2.2.1.length:Int)) ((DX N m ((m.2.2.2.2.2.2.1)[i.toNat]!.1) ((m.2.2.2.2.2.2.1)[i.toNat]!.2.1) ((m.2.2.2.2.2.2.1)[i.toNat]!.2.2.1) ((m.2.2.2.2.2.2.1)[i.toNat]!.2.2.2.1) ((m.2.2.2.2.2.2.1)[i.toNat]!.2.2.2.2.1) ((m.2.2.2.2.2.2.1)[i.toNat]!.2.2.2.2.2.1) ((m.2.2.2.2.2.2.1)[i.toNat]!.2.2.2.2.2.2)).bind λc=>some c)else if a=12 then ck (0<=i/\i<(m.2.2.2.2.2.2.2.2.2.2.2.2.1.length:Int)) (if(((m.2.2.2.2.2.2.2.2.2.2.2.2.1)[i.toNat]!).2.1:Int)<1 then DA m i true else ck (0<=i/\i<(m.2.2.2.2.2.2.2.2.2.2.2.2.1.length:Int)) (DA m i (decide ((((m.2.2.2.2.2.2.2.2.2.2.2.2.1)[i.toNat]!).2.1:Int)>128))))else if a=13 then ck (0<=i/\i<(m.2.2.2.2.2.2.2.2.2.2.2.2.2.1.length:Int)) (BK (((m.2.2.2.2.2.2.2.2.2.2.2.2.2.1)[i.toNat]!).2))else if a=14 then ck (0<=i/\i<(m.2.2.2.2.2.2.2.2.2.2.2.2.2.2.1.length:Int)) (if(((m.2.2.2.2.2.2.2.2.2.2.2.2.2.2.1)[i.toNat]!).2.1:Int)>=1 then Dz m i (decide ((((m.2.2.2.2.2.2.2.2.2.2.2.2.2.2.1)[i.toNat]!).2.1:Int)<=8))else Dz m i false)else BK 1
theorem Pb(N m W i r)(a:FC N m W i=some r)(ro)(mv:AB)(b:Aa1 ro mv m):Does prog 48 #[vA (Ac m mv),vI W,vI i] ro [] (pV (vI r)):=by
 unfold FC at a
 refine Al follows func48 Z 174 Z _ fz3 (λbp=> ?_)
 refine Ad<|rA Z λX=>rz Z<|AZ Z<|Cb (λtt ll=> ∃(e:Int),(BK e=some r)/\Is [(7,vI e)] [] tt ll) ?_ ?_
 ·refine AZ Z<|Ai<|AZ Z<|aE a Z (λai a=> ?_) (λai a=> ?_)
  ·refine Aa λbv aj=>Ah<|rm 3 [0] Z<|kC a λq a=>rI (Rd.shp b.2.2.1) q Z<|rF (Rd.shp b.2.2.1) (Bf q) Z<|rE (Aw b.2.2.1) q 1 Z<|rn 2 Z<|AF 8 28 [(7,vI 1)] vB (λb_=>DC b_=some r) (λbw a T=> ?_) (λd=> ?_)
   ·unfold DC at a
    refine Ak<|aj _ _ ?_
    refine aB a Z (λak a=> ?_) (λak a=> ?_)
    ·refine AZ Z ?_
     cases a
     exact aR eV1
    refine Ab<|fg _ (Sub.of (suC _ suN)) ?_
    exact⟨1,a,Ag Z Z⟩
   rcases I:(decide ((((m.2.2.2.1)[i.toNat]!).2:Int)<1))with _|_
   ·replace a:=iF I a
    refine rn 1 Z<|r_y Z<|rm 2 [0] Z<|r_y Z<|kC a λs a=>rI (Rd.shp b.2.2.1) s Z<|r_y Z<|rF (Rd.shp b.2.2.1) (Bf s) Z<|r_y Z<|rE (Aw b.2.2.1) s 1 Z<|rn 2 Z ?_
    exact d _ _ a Z Z
   replace a:=iD I a
   refine rn 8 Z ?_
   exact d _ _ a Z Z
  refine AZ Z<|aE a Z (λal a=> ?_) (λal a=> ?_)
  ·refine Aa λbx am=>BB [(some 37,false)] (conG prog [(37,cV (DY N m ((m.2.2.2.2.1)[i.toNat]!.1) ((m.2.2.2.2.1)[i.toNat]!.2.1) ((m.2.2.2.2.1)[i.toNat]!.2.2.1) ((m.2.2.2.2.1)[i.toNat]!.2.2.2.1) ((m.2.2.2.2.1)[i.toNat]!.2.2.2.2)) λY=>vI Y)]) [] (by decide+kernel) (λhn=>AK)<|rm 4 [0,0] Z<|kC a λJ a=> ?_
   obtain⟨_,⟨aa,ab,ac,an,ao,ap,rfl⟩,hat31⟩:=RdN.at (E:=Ae1) b.2.2.2.1 (Dx J)
   refine rI (RdN.shp b.2.2.2.1) J Z<|Oe (vA #[vS ((m.2.2.2.2.1)[i.toNat]!.1),aa,ab,ac,vI ((m.2.2.2.2.1)[i.toNat]!.2.2.2.2)]) (vs:=[vS ((m.2.2.2.2.1)[i.toNat]!.1),aa,ab,ac,vI ((m.2.2.2.2.1)[i.toNat]!.2.2.2.2)]) (i.toNat*5) 0 Z Z (λo w z_=>At.mono z_.ro_cell hat31) Z<|kB a λca K a=>rg _ (cF sg) (λo w z_=>Pd N m ((m.2.2.2.2.1)[i.toNat]!.1) ((m.2.2.2.2.1)[i.toNat]!.2.1) ((m.2.2.2.2.1)[i.toNat]!.2.2.1) ((m.2.2.2.2.1)[i.toNat]!.2.2.2.1) ((m.2.2.2.2.1)[i.toNat]!.2.2.2.2) _ K z_.view mv (Aa1.mono z_.ro_cell b) aa (z_.r an) ab (z_.r ao) ac (z_.r ap)) (GQ K)<|rz Z<|am _ _ ?_
   cases a
   exact aR eV1
  refine AZ Z<|aE a Z (λaq a=> ?_) (λaq a=> ?_)
  ·refine Ad<|rm 3 [0] Z<|kC a λL a=> ?_
   obtain⟨_,⟨u,p,c,M,rfl⟩,hat42⟩:=RdN.at (E:=Ad7) b.2.2.2.2.1 (Dx L)
   refine rI (RdN.shp b.2.2.2.2.1) L Z<|Oe (vA #[vS ((m.2.2.2.2.2.1)[i.toNat]!.1),u,p]) (vs:=[vS ((m.2.2.2.2.2.1)[i.toNat]!.1),u,p]) (i.toNat*3) 0 Z Z (λo w z_=>At.mono z_.ro_cell hat42) Z<|rA Z λH=>r_s [(H,185, #[vS ((m.2.2.2.2.2.1)[i.toNat]!.1),u,p]),(X,35,(Ac m mv))] 0 _ _ _ _ _ (#[vS ((m.2.2.2.2.2.1)[i.toNat]!.1),u,p]) Z Z Z Z (.ofS Z Z (Ae Z (Ae (Shp.one (Rd.shp c)) (Ae (Shp.one (Rd.shp M)) BA)))) Z Z<|Ak<|Aa λcb ar=>Ad<|rm 2 [0] Z<|rL (Rd.shp c) Z<|rz Z ?_
   refine aD a Z (λau a=> ?_) (λau a=> ?_)
   ·refine AZ Z ?_
    cases a
    exact aR eV1
   refine Ab<|ar _ _ ?_
   refine Aa λcc av=>AZ Z<|Ai<|AH (λtt ll nn=> ∃(f:Nat) (g:Int),(Bm N m i f g=some r)/\Is [(3,vP X 0),(8,vP H 0),(9,vI g)] [(H,185, #[vS ((m.2.2.2.2.2.1)[i.toNat]!.1),u,p]),(X,35,(Ac m mv))] tt ll/\nn=f+1) (N+1) ?_ ?_
   ·exact⟨N,0,a,Ag Z Z,Z⟩
   clear a;rintro t l _ ⟨f,g,a,⟨⟨T,rfl⟩,rfl⟩,rfl⟩
   rcases f with _|f
   ·exact absurd a (by simp [Bm])
   rw [Bm] at a
   refine Aa λcd aw=>Ad<|rm 3 [0] Z<|rL (Rd.shp c) Z<|rz Z<|aD a Z (λax a=> ?_) (λax a=> ?_)
   ·refine Ab<|aw _ _ ?_
    refine Aa λce ay=>Ai<|Aa λcf az=>Ah<|rm 3 [0] Z<|kC a λO a=>rI (Rd.shp c) O Z<|rE (Aw c) O 0 Z<|rn 2 Z<|AF 7 69 [(3,vP X 0),(8,vP H 0),(9,vI g)] vB (λb_=>DB g (Bm N m i f) b_=some r) (λcg a T=> ?_) (λd=> ?_)
    ·unfold DB at a
     refine Ak<|az _ _ ?_
     refine aB a Z (λba a=> ?_) (λba a=> ?_)
     ·refine AZ Z ?_
      cases a
      exact aR eV1
     refine Ab<|ay _ _ ?_
     refine Ah<|rn 1 Z<|kC a λbb a=>rX bb Z<|rz Z<|fg _ (Sub.of (suK _ (suK _ suN))) ?_
     exact⟨f+1,by omega,f,(g+1),a,Ag Z Z,Z⟩
    rcases P:(decide ((((m.2.2.2.2.2.1)[i.toNat]!.2.1)[g.toNat]!:Int)<1))with _|_
    ·replace a:=iF P a
     refine rn 1 Z<|r_y Z<|rm 2 [0] Z<|r_y Z<|kC a λQ a=>rI (Rd.shp c) Q Z<|r_y Z<|rE (Aw c) Q 0 Z<|rn 2 Z ?_
     exact d _ _ a Z Z
    replace a:=iD P a
    refine rn 7 Z ?_
    exact d _ _ a Z Z
   refine AG<|av _ _ ?_
   refine Ad<|rm 5 [1,0,0] Z<|rL (Rd.shp c) Z<|kB a λch bc a=>gV _ (cF ia) (λo w z_=>LD N m ((m.2.2.2.2.2.1)[i.toNat]!.2.2) (((m.2.2.2.2.2.1)[i.toNat]!.2.1).length:Int) _ bc z_.view mv (Aa1.mono z_.ro_cell b) p (z_.r M))<|rz Z ?_
   cases a
   exact aR eV1
  refine AZ Z<|aE a Z (λbd a=> ?_) (λbd a=> ?_)
  ·refine Aa λci be=>BB [(some 85,false)] (conG prog [(85,cV (DX N m ((m.2.2.2.2.2.2.1)[i.toNat]!.1) ((m.2.2.2.2.2.2.1)[i.toNat]!.2.1) ((m.2.2.2.2.2.2.1)[i.toNat]!.2.2.1) ((m.2.2.2.2.2.2.1)[i.toNat]!.2.2.2.1) ((m.2.2.2.2.2.2.1)[i.toNat]!.2.2.2.2.1) ((m.2.2.2.2.2.2.1)[i.toNat]!.2.2.2.2.2.1) ((m.2.2.2.2.2.2.1)[i.toNat]!.2.2.2.2.2.2)) λY=>vI Y)]) [] (by decide+kernel) (λhn=>AK)<|rm 4 [0,0] Z<|kC a λR a=> ?_
   obtain⟨_,⟨ad,ae,af,bf,bg,bh,rfl⟩,hat76⟩:=RdN.at (E:=Ae2) b.2.2.2.2.2.1 (Dx R)
   refine rI (RdN.shp b.2.2.2.2.2.1) R Z<|Oe (vA #[vS ((m.2.2.2.2.2.2.1)[i.toNat]!.1),vI ((m.2.2.2.2.2.2.1)[i.toNat]!.2.1),ad,ae,vI ((m.2.2.2.2.2.2.1)[i.toNat]!.2.2.2.2.1),af,vI ((m.2.2.2.2.2.2.1)[i.toNat]!.2.2.2.2.2.2)]) (vs:=[vS ((m.2.2.2.2.2.2.1)[i.toNat]!.1),vI ((m.2.2.2.2.2.2.1)[i.toNat]!.2.1),ad,ae,vI ((m.2.2.2.2.2.2.1)[i.toNat]!.2.2.2.2.1),af,vI ((m.2.2.2.2.2.2.1)[i.toNat]!.2.2.2.2.2.2)]) (i.toNat*7) 0 Z Z (λo w z_=>At.mono z_.ro_cell hat76) Z<|kB a λcj S a=>rg _ (cF sf) (λo w z_=>Pc N m ((m.2.2.2.2.2.2.1)[i.toNat]!.1) ((m.2.2.2.2.2.2.1)[i.toNat]!.2.1) ((m.2.2.2.2.2.2.1)[i.toNat]!.2.2.1) ((m.2.2.2.2.2.2.1)[i.toNat]!.2.2.2.1) ((m.2.2.2.2.2.2.1)[i.toNat]!.2.2.2.2.1) ((m.2.2.2.2.2.2.1)[i.toNat]!.2.2.2.2.2.1) ((m.2.2.2.2.2.2.1)[i.toNat]!.2.2.2.2.2.2) _ S z_.view mv (Aa1.mono z_.ro_cell b) ad (z_.r bf) ae (z_.r bg) af (z_.r bh)) (GQ S)<|rz Z<|be _ _ ?_
   cases a
   exact aR eV1
  refine AZ Z<|aE a Z (λbi a=> ?_) (λbi a=> ?_)
  ·refine Aa λck bj=>Aa λcl bk=>Ah<|rm 3 [0] Z<|kC a λv a=>rI (Rd.shp b.2.2.2.2.2.2.2.2.2.2.2.1) v Z<|rF (Rd.shp b.2.2.2.2.2.2.2.2.2.2.2.1) (Bf v) Z<|rE (Aw b.2.2.2.2.2.2.2.2.2.2.2.1) v 1 Z<|rn 2 Z ?_
   refine AF 8 103 [(2,vI i),(3,vP X 0)] vB (λb_=>DA m i b_=some r) (λcm a T=> ?_) (λd=> ?_)
   ·unfold DA at a
    refine Ak<|bk _ _ ?_
    refine aB a Z (λbl a=> ?_) (λbl a=> ?_)
    ·refine AZ Z ?_
     cases a
     exact aR eV1
    refine Ab<|bj _ _ ?_
    refine Ah<|rm 3 [0] Z<|kC a λx a=>rI (Rd.shp b.2.2.2.2.2.2.2.2.2.2.2.1) x Z<|rF (Rd.shp b.2.2.2.2.2.2.2.2.2.2.2.1) (Bf x) Z<|rE (Aw b.2.2.2.2.2.2.2.2.2.2.2.1) x 2 Z<|rz Z<|fg _ (Sub.of (suC _ suN)) ?_
    exact⟨((m.2.2.2.2.2.2.2.2.2.2.2.2.1)[i.toNat]!).2.2,a,Ag Z Z⟩
   rcases U:(decide ((((m.2.2.2.2.2.2.2.2.2.2.2.2.1)[i.toNat]!).2.1:Int)<1))with _|_
   ·replace a:=iF U a
    refine rn 1 Z<|r_y Z<|rm 2 [0] Z<|r_y Z<|kC a λy a=>rI (Rd.shp b.2.2.2.2.2.2.2.2.2.2.2.1) y Z<|r_y Z<|rF (Rd.shp b.2.2.2.2.2.2.2.2.2.2.2.1) (Bf y) Z<|r_y Z<|rE (Aw b.2.2.2.2.2.2.2.2.2.2.2.1) y 1 Z<|rn 2 Z ?_
    exact d _ _ a Z Z
   replace a:=iD U a
   refine rn 8 Z ?_
   exact d _ _ a Z Z
  refine AZ Z<|aE a Z (λbm a=> ?_) (λbm a=> ?_)
  ·refine Ah<|rm 3 [0] Z<|kC a λz a=>rI (Rd.shp b.2.2.2.2.2.2.2.2.2.2.2.2.1) z Z<|rF (Rd.shp b.2.2.2.2.2.2.2.2.2.2.2.2.1) (Bf z) Z<|rE (Aw b.2.2.2.2.2.2.2.2.2.2.2.2.1) z 1 Z<|rz Z<|fg _ (Sub.of (suC _ suN)) ?_
   exact⟨((m.2.2.2.2.2.2.2.2.2.2.2.2.2.1)[i.toNat]!).2,a,Ag Z Z⟩
  refine AZ Z<|aE a Z (λbn a=> ?_) (λbn a=> ?_)
  ·refine Ad<|rm 3 [0] Z<|kC a λA a=>rI (Rd.shp b.2.2.2.2.2.2.2.2.2.2.2.2.2) A Z<|rF (Rd.shp b.2.2.2.2.2.2.2.2.2.2.2.2.2) (Bf A) Z<|rE (Aw b.2.2.2.2.2.2.2.2.2.2.2.2.2) A 1 Z<|rz Z<|Aa λcn bo=>Ah ?_
   refine rn 3 Z<|AF 3 131 [(2,vI i),(3,vP X 0),(7,vI (((m.2.2.2.2.2.2.2.2.2.2.2.2.2.2.1)[i.toNat]!).2.1))] vB (λb_=>Dz m i b_=some r) (λbq a T=> ?_) (λd=> ?_)
   ·unfold Dz at a
    refine rn 1 Z<|AF 35 167 [(7,vI (((m.2.2.2.2.2.2.2.2.2.2.2.2.2.2.1)[i.toNat]!).2.1))] vB (λb_=>BH m i b_=some r) (λco a T=> ?_) (λd=> ?_)
    ·unfold BH at a
     refine Ak<|bo _ _ ?_
     refine aB a Z (λag a=> ?_) (λag a=> ?_)
     ·refine AZ Z ?_
      cases a
      exact aR eV1
     refine Ab<|fg _ (Sub.of (suC _ suN)) ?_
     exact⟨((m.2.2.2.2.2.2.2.2.2.2.2.2.2.2.1)[i.toNat]!).2.1,a,Ag Z Z⟩
    rcases B:bq with _|_
    ·replace a:=iB B a
     refine rn 8 Z<|Cd Z Z<|Cd Z Z<|Cd Z Z<|Cd Z Z<|Cd Z Z<|Cd Z Z<|Cd Z Z<|rn 2 Z<|Cd Z Z<|Cd Z Z<|Cd Z Z<|Cd Z Z<|Cd Z Z<|Cd Z Z<|Cd Z Z<|rn 2 Z<|Cd Z Z<|Cd Z Z<|Cd Z Z<|Cd Z Z<|Cd Z Z<|Cd Z Z<|Cd Z Z<|rn 2 Z ?_
     exact d _ _ a Z Z
    replace a:=ifp B a
    refine rn 1 Z<|r_y Z<|rm 2 [0] Z<|r_y Z<|kC a λh a=>rI (Rd.shp b.2.2.2.2.2.2.2.2.2.2.2.2.2) h Z<|r_y Z<|rF (Rd.shp b.2.2.2.2.2.2.2.2.2.2.2.2.2) (Bf h) Z<|r_y Z<|rE (Aw b.2.2.2.2.2.2.2.2.2.2.2.2.2) h 2 Z ?_
    refine rn 2 Z ?_
    rcases C:(decide ((((m.2.2.2.2.2.2.2.2.2.2.2.2.2.2.1)[i.toNat]!).2.2.1:Int)<0))with _|_
    ·replace a:=iF C a
     refine rn 1 Z<|r_y Z<|rm 2 [0] Z<|r_y Z<|kC a λj a=>rI (Rd.shp b.2.2.2.2.2.2.2.2.2.2.2.2.2) j Z<|r_y Z<|rF (Rd.shp b.2.2.2.2.2.2.2.2.2.2.2.2.2) (Bf j) Z<|r_y Z<|rE (Aw b.2.2.2.2.2.2.2.2.2.2.2.2.2) j 2 Z ?_
     refine rn 3 Z<|fb [(2,vI i),(3,vP X 0),(7,vI (((m.2.2.2.2.2.2.2.2.2.2.2.2.2.2.1)[i.toNat]!).2.1)),(132,vB true),(149,vB (decide ((((m.2.2.2.2.2.2.2.2.2.2.2.2.2.2.1)[i.toNat]!).2.2.1:Int)>65535)))] Z (λT=> ?_)
     rcases D:(decide ((((m.2.2.2.2.2.2.2.2.2.2.2.2.2.2.1)[i.toNat]!).2.2.1:Int)>65535))with _|_
     ·replace a:=iF D a
      refine rn 1 Z<|r_y Z<|rm 2 [0] Z<|r_y Z<|kC a λk a=>rI (Rd.shp b.2.2.2.2.2.2.2.2.2.2.2.2.2) k Z<|r_y Z<|rF (Rd.shp b.2.2.2.2.2.2.2.2.2.2.2.2.2) (Bf k) Z<|r_y Z<|rE (Aw b.2.2.2.2.2.2.2.2.2.2.2.2.2) k 3 Z ?_
      refine rn 3 Z ?_
      rcases F:(decide ((((m.2.2.2.2.2.2.2.2.2.2.2.2.2.2.1)[i.toNat]!).2.2.2:Int)<1))with _|_
      ·replace a:=iF F a
       refine rn 1 Z<|r_y Z<|rm 2 [0] Z<|r_y Z<|kC a λn a=>rI (Rd.shp b.2.2.2.2.2.2.2.2.2.2.2.2.2) n Z<|r_y Z<|rF (Rd.shp b.2.2.2.2.2.2.2.2.2.2.2.2.2) (Bf n) Z<|r_y Z<|rE (Aw b.2.2.2.2.2.2.2.2.2.2.2.2.2) n 3 Z ?_
       refine rn 3 Z ?_
       exact d _ _ a Z Z
      replace a:=iD F a
      refine rn 9 Z ?_
      exact d _ _ a Z Z
     replace a:=iD D a
     refine rn 18 Z ?_
     exact d _ _ a Z Z
    replace a:=iD C a
    refine rn 27 Z ?_
    exact d _ _ a Z Z
   rcases G:(decide ((((m.2.2.2.2.2.2.2.2.2.2.2.2.2.2.1)[i.toNat]!).2.1:Int)>=1))with _|_
   ·replace a:=iF G a
    refine rn 3 Z ?_
    exact d _ _ a Z Z
   replace a:=iD G a
   refine rn 3 Z ?_
   exact d _ _ a Z Z
  refine Ab<|fg _ (Sub.of (suC _ suN)) ?_
  exact⟨1,a,Ag Z Z⟩
 clear a;rintro t l ⟨e,a,⟨T,rfl⟩,rfl⟩
 unfold BK at a
 refine Aa λK4 br=>Aa λK5 bs=>Ah<|rn 3 Z<|AF 3 173 [] vB (λb_=>DD b_=some r) (λb6 a T=> ?_) (λd=> ?_)
 ·unfold DD at a
  refine Ak<|bs _ _ ?_
  refine aB a Z (λbt a=> ?_) (λbt a=> ?_)
  ·refine AZ Z ?_
   cases a
   exact aR eV1
  refine Ab<|br _ _ ?_
  refine AZ Z ?_
  cases a
  exact aR eV1
 rcases V:(decide (e<1))with _|_
 ·replace a:=iF V a
  refine rn 3 Z ?_
  exact d _ _ a Z Z
 replace a:=iD V a
 refine rn 3 Z ?_
 exact d _ _ a Z Z
def DZ(a:Bool):Option (Int×Int):=if a=true then some (0,7)else some (0,0)
def Ea(m:Ao)(a:Bool):Option (Int×Int):=if a=true then DZ true else DZ (decide (m.2.2.2.2.2.2.2.2.2.2.2.2.2.2.2.2.2>4))
def Eb(m:Ao)(a:Bool):Option (Int×Int):=if a=true then Ea m true else Ea m (decide (m.2.2.2.2.2.2.2.2.2.2.2.2.2.2.2.2.2<0))
def Ec(m:Ao)(a:Bool):Option (Int×Int):=if a=true then Eb m true else Eb m (decide (m.2.2.2.2.2.2.2.2.2.2.2.2.2.2.2.2.1>32))
def Ed(m:Ao)(a:Bool):Option (Int×Int):=if a=true then Ec m true else Ec m (decide (m.2.2.2.2.2.2.2.2.2.2.2.2.2.2.2.2.1<1))
def Cg(m:Ao)(b:Int)(a:Int->Option (Int×Int)):Nat->Int->Option (Int×Int)
  |0,_=>none
  |d+1,c=>if c<b then ck (0<=c/\c<(m.2.2.2.2.2.2.2.2.2.1.length:Int)) (ck (0<=b/\b<(m.2.2.2.2.2.2.2.2.2.1.length:Int)) (if((m.2.2.2.2.2.2.2.2.2.1)[c.toNat]!:Int)=(m.2.2.2.2.2.2.2.2.2.1)[b.toNat]! then some (b,6)else ck (R64 (c+1)) ((Cg m b a d) (c+1))))else ck (R64 (b+1)) (a (b+1))
def BG(N:Nat)(m:Ao):Nat->Int->Option (Int×Int)
  |0,_=>none
  |b+1,a=>if a<(m.2.2.2.2.2.2.2.2.2.1.length:Int)then ck (0<=a/\a<(m.2.2.2.2.2.2.2.2.2.1.length:Int)) ((Bg N m ((m.2.2.2.2.2.2.2.2.2.1)[a.toNat]!)).bind λc=>if c.2.2.2.2.2.2=true then Cg m a (BG N m b) N 0 else some (a,5))else some (0,0)
def Cy(b:Int)(a:Int->Option (Int×Int))(c:Int):Option (Int×Int):=if(c:Int)≠0 then some (b,c)else ck (R64 (b+1)) (a (b+1))
def Cz(N:Nat)(m:Ao)(p:Int)(b:Int)(a:Int->Option (Int×Int))(c:Int):Option (Int×Int):=if c=0 then(FC N m p b).bind λd=>Cy b a d else Cy b a c
def DM(N:Nat)(m:Ao)(p:Int)(d:List (W2))(b:Int)(a:Int->Option (Int×Int))(c:Int):Option (Int×Int):=if c=0 then ck (R64 (b+1)) (ck (0<=(b+1)/\(b+1)<=(d.length:Int)) ((He N (((d).take (((b+1)).toNat)).drop 0)).bind λe=>Cz N m p b a e))else Cz N m p b a c
def AP(N:Nat)(m:Ao)(p:Int)(b:List (W2)):Nat->Int->Option (Int×Int)
  |0,_=>none
  |c+1,a=>if a<(b.length:Int)then if p=1 then ck (0<=a/\a<(m.2.1.length:Int)) ((GG N ((m.2.1)[a.toNat]!.1) ((m.2.1)[a.toNat]!.2.1) ((m.2.1)[a.toNat]!.2.2.1) ((m.2.1)[a.toNat]!.2.2.2.1) ((m.2.1)[a.toNat]!.2.2.2.2.1) ((m.2.1)[a.toNat]!.2.2.2.2.2)).bind λd=>DM N m p b a (AP N m p b c) d)else DM N m p b a (AP N m p b c) 0 else some (0,0)
def DN(N:Nat)(m:Ao)(p:Int)(a:List (W2))(b:Bool):Option (Int×Int):=if b=true then some (0,5)else if(a.length:Int)>([0,16,0,16,16,32,8,0,0,0,0,0,8,8,8])[p.toNat]! then some (0,2)else AP N m p a N 0
def Gf(N:Nat)(m:Ao)(p:Int):Option (Int×Int):=if p=0 then(GT N m.1).bind λg=>if g=true then if m.2.2.2.2.2.2.2.2.2.2.2.2.2.2.2.1<1 then Ed m true else Ed m (decide (m.2.2.2.2.2.2.2.2.2.2.2.2.2.2.2.1>64))else some (0,4)else if p=2 then(Hf N m.2.1 m.2.2.1).bind λf=>some (0,f)else if p=7 then(Ee N m m.2.2.2.2.2.2.2.1).bind λb=>some (b.1,b.2)else if p=8 then(Ee N m m.2.2.2.2.2.2.2.2.1).bind λe=>some (e.1,e.2)else if p=9 then if(m.2.2.2.2.2.2.2.2.2.1.length:Int)>32 then some (0,2)else BG N m N 0 else if p=10 then(EH N m m.2.2.2.2.2.2.2.2.2.2.1).bind λc=>some (c.1,c.2)else if p=11 then(EH N m m.2.2.2.2.2.2.2.2.2.2.2.1).bind λd=>some (d.1,d.2)else(rTm N m p).bind λa=>ck (0<=p/\p<(([0,16,0,16,16,32,8,0,0,0,0,0,8,8,8]).length:Int)) (if p=4 then DN N m p a (((a.length:Int)==0))else DN N m p a false)
theorem PF(N m p r)(a:Gf N m p=some r)(Y)(d:AB)(i:Aa1 Y d m):Does prog 26 #[vA (Ac m d),vI p] Y [] (pV (vT #[vI r.1,vI r.2])):=by
 unfold Gf at a
 refine Al follows func26 Z 180 Z _ fz2 (λch=> ?_)
 refine Ad<|rA Z λf=>rz Z<|Aa λK3 ci=>AZ Z<|Ai<|AZ Z<|aE a Z (λcj a=> ?_) (λcj a=> ?_)
 ·refine Aa λK7 ck=>Ad<|rm 2 [0] Z<|kB a λr9 aw a=>rc _ (cF ik) (NC N m.1 _ aw)<|rz Z<|BI _ Z (λz=> ?_) (λz=> ?_)
  ·replace a:=ifn (Bool.eq_false_iff.1 (Dk z)) a
   refine AZ Z ?_
   cases a
   exact aR eV2
  replace a:=ifp (Dl z) a
  refine Ab<|ck _ _ ?_
  refine Aa λcy ax=>Aa λcz ay=>Ah<|rm 4 [0] Z<|AF 4 28 [(2,vP f 0)] vB (λb_=>Ed m b_=some r) (λcl a T=> ?_) (λn=> ?_)
  ·unfold Ed at a
   refine rn 1 Z<|AF 4 33 [(2,vP f 0)] vB (λb_=>Ec m b_=some r) (λcm a T=> ?_) (λn=> ?_)
   ·unfold Ec at a
    refine rn 1 Z<|AF 4 38 [(2,vP f 0)] vB (λb_=>Eb m b_=some r) (λcn a T=> ?_) (λn=> ?_)
    ·unfold Eb at a
     refine rn 1 Z<|AF 4 43 [(2,vP f 0)] vB (λb_=>Ea m b_=some r) (λco a T=> ?_) (λn=> ?_)
     ·unfold Ea at a
      refine rn 1 Z<|AF 4 48 [] vB (λb_=>DZ b_=some r) (λda a T=> ?_) (λn=> ?_)
      ·unfold DZ at a
       refine Ak<|ay _ _ ?_
       refine aB a Z (λaz a=> ?_) (λaz a=> ?_)
       ·refine AZ Z ?_
        cases a
        exact aR eV2
       refine Ab<|ax _ _ ?_
       refine AZ Z ?_
       cases a
       exact aR eV2
      rcases L:co with _|_
      ·replace a:=iB L a
       refine rn 1 Z<|r_y Z<|rm 3 [0] Z ?_
       exact n _ _ a Z Z
      replace a:=ifp L a
      refine rn 4 Z ?_
      exact n _ _ a Z Z
     rcases M:cn with _|_
     ·replace a:=iB M a
      refine rn 1 Z<|r_y Z<|rm 3 [0] Z ?_
      exact n _ _ a Z Z
     replace a:=ifp M a
     refine rn 4 Z ?_
     exact n _ _ a Z Z
    rcases O:cm with _|_
    ·replace a:=iB O a
     refine rn 1 Z<|r_y Z<|rm 3 [0] Z ?_
     exact n _ _ a Z Z
    replace a:=ifp O a
    refine rn 4 Z ?_
    exact n _ _ a Z Z
   rcases P:cl with _|_
   ·replace a:=iB P a
    refine rn 1 Z<|r_y Z<|rm 3 [0] Z ?_
    exact n _ _ a Z Z
   replace a:=ifp P a
   refine rn 4 Z ?_
   exact n _ _ a Z Z
  rcases Q:(decide (m.2.2.2.2.2.2.2.2.2.2.2.2.2.2.2.1<1))with _|_
  ·replace a:=iF Q a
   refine rn 1 Z<|r_y Z<|rm 3 [0] Z ?_
   exact n _ _ a Z Z
  replace a:=iD Q a
  refine rn 4 Z ?_
  exact n _ _ a Z Z
 refine AZ Z<|aE a Z (λba a=> ?_) (λba a=> ?_)
 ·refine Ad<|rm 4 [0,0] Z<|kB a λdb bb a=>gV _ (cF sX) (λo w z_=>Qv N m.2.1 m.2.2.1 _ bb z_.view d.1 (RdN.mono z_.ro_cell i.1) d.2.1 ((Aw i.2.1) o w z_))<|rz Z ?_
  cases a
  exact aR eV2
 refine AZ Z<|aE a Z (λbc a=> ?_) (λbc a=> ?_)
 ·refine Ad<|rm 3 [0,0] Z<|kB a λdc bd a=>gV _ (cF ij) (λo w z_=>Ll N m m.2.2.2.2.2.2.2.1 _ bd z_.view d (Aa1.mono z_.ro_cell i) d.2.2.2.2.2.2.1 (RdN.mono z_.ro_cell i.2.2.2.2.2.2.1))<|rz Z ?_
  cases a
  exact aR eV2
 refine AZ Z<|aE a Z (λbe a=> ?_) (λbe a=> ?_)
 ·refine Ad<|rm 3 [0,0] Z<|kB a λdd bf a=>gV _ (cF ij) (λo w z_=>Ll N m m.2.2.2.2.2.2.2.2.1 _ bf z_.view d (Aa1.mono z_.ro_cell i) d.2.2.2.2.2.2.2.1 (RdN.mono z_.ro_cell i.2.2.2.2.2.2.2.1))<|rz Z ?_
  cases a
  exact aR eV2
 refine AZ Z<|aE a Z (λbg a=> ?_) (λbg a=> ?_)
 ·refine Aa λde bh=>Ad<|rm 2 [0] Z<|rL (Rd.shp i.2.2.2.2.2.2.2.2.1) Z<|rz Z<|aD a Z (λbi a=> ?_) (λbi a=> ?_)
  ·refine AZ Z ?_
   cases a
   exact aR eV2
  refine Ab<|bh _ _ ?_
  refine Aa λdf bj=>AZ Z<|Ai<|AH (λtt ll nn=> ∃(q:Nat) (j:Int),(BG N m q j=some r)/\Is [(2,vP f 0),(6,vI j)] [(f,35,(Ac m d))] tt ll/\nn=q+1) (N+1) ?_ ?_
  ·exact⟨N,0,a,Ag Z Z,Z⟩
  clear a;rintro t l _ ⟨q,j,a,⟨⟨T,rfl⟩,rfl⟩,rfl⟩
  rcases q with _|q
  ·exact absurd a (by simp [BG])
  rw [BG] at a
  refine Aa λdg bk=>Ad<|rm 3 [0] Z<|rL (Rd.shp i.2.2.2.2.2.2.2.2.1) Z<|rz Z<|aD a Z (λbl a=> ?_) (λbl a=> ?_)
  ·refine Ab<|bk _ _ ?_
   refine Aa λdh bm=>Ai<|Aa λdi bn=>xD (p:= ∀e,Bg N m ((m.2.2.2.2.2.2.2.2.2.1)[j.toNat]!)=some e-> ∃s_,Rd Ab3 Y s_ e.2.1) (λw_ hi_ hro_ e cp=>by obtain⟨_,_,⟨_,h_,_⟩⟩:=wL (PP:=(oR Ab3 Y e.2.1 λs_0=>(oE (vT #[vA #[vS e.1,s_0,vI e.2.2.1,vI e.2.2.2.1,vI e.2.2.2.2.1,vI e.2.2.2.2.2.1],vB e.2.2.2.2.2.2]) []))) w_ trivial hro_ (Dr N m ((m.2.2.2.2.2.2.2.2.2.1)[j.toNat]!) _ cp Y d i);exact⟨_,h_⟩) (λbo=> ?_)
   refine BB [(some 92,false)] (conG prog [(92,λ_ _ v_ L_ U_=> ∀e,Bg N m ((m.2.2.2.2.2.2.2.2.2.1)[j.toNat]!)=some e->(pO (List.flatten []) (oR Ab3 Y e.2.1 λs_0=>(oE (vT #[vA #[vS e.1,s_0,vI e.2.2.1,vI e.2.2.2.1,vI e.2.2.2.2.1,vI e.2.2.2.2.2.1],vB e.2.2.2.2.2.2]) []))) v_ L_ U_)]) [] (by decide+kernel) (λhn=>AK)<|rm 4 [0,0] Z<|kC a λS a=>rI (Rd.shp i.2.2.2.2.2.2.2.2.1) S Z<|rE (Aw i.2.2.2.2.2.2.2.2.1) S 0 Z<|kB a λc A a=>ww (Ls:=[[(f,35,(Ac m d))]]) (RL:=[[(f,35,(Ac m d))]]) (oR Ab3 Y c.2.1 λs_0=>(oE (vT #[vA #[vS c.1,s_0,vI c.2.2.1,vI c.2.2.2.1,vI c.2.2.2.2.1,vI c.2.2.2.2.2.1],vB c.2.2.2.2.2.2]) [])) 92 43 _ Z Z Z (cF Tg) (λo w z_=>DoesI.ro_mono (LH (Ls:=[[(f,35,(Ac m d))]]) (is:=[]) Z z_) (Dr N m ((m.2.2.2.2.2.2.2.2.2.1)[j.toNat]!) _ A Y d i)) (GQ A) (by rintro v_ O_ ⟨_,_,⟨_,h_⟩⟩;exact h_) (Ac6.sub (R:=[]) (tQ (bo _ A) λs_0=>(Uk Z)) (Sub.pick [] [] Z)) ?_
   rintro _ _ ⟨aa,bp,⟨rfl,rfl⟩⟩
   refine Dv (Ls:=[[(f,35,(Ac m d))]]) (Ls':=[[(f,35,(Ac m d))]]) [0] Z Z<|rn 3 Z<|rA Z λcq=>Zz [(cq,94, #[vS c.1,aa,vI c.2.2.1,vI c.2.2.2.1,vI c.2.2.2.2.1,vI c.2.2.2.2.2.1]),(f,35,(Ac m d))] 0 _ _ _ (#[Value.string (⟨#[]⟩),nS,vI 0,vI 0,vI 0,vI 0]) (#[vS c.1,aa,vI c.2.2.1,vI c.2.2.2.1,vI c.2.2.2.2.1,vI c.2.2.2.2.2.1]) (#[vS c.1,aa,vI c.2.2.1,vI c.2.2.2.1,vI c.2.2.2.2.1,vI c.2.2.2.2.2.1]) Z Z Z Z Z (.ofS Z Z (Ae Z (Ae (Shp.one (Rd.shp bp)) (Ae Z (Ae Z (Ae Z (Ae Z BA))))))) Z Z<|rz Z<|bn _ _ ?_
   refine Aa λdk bq=>AZ Z<|BI _ Z (λB=> ?_) (λB=> ?_)
   ·replace a:=ifn (Bool.eq_false_iff.1 (Dk B)) a
    refine AZ Z ?_
    cases a
    exact aR eV2
   replace a:=ifp (Dl B) a
   refine Ab<|bq _ _ ?_
   refine AZ Z<|Ai<|Bs [(f,35,(Ac m d))] (Sub.of (suC _ (suK _ suN)))<|AH (λtt ll nn=> ∃(s:Nat) (K:Int),(Cg m j (BG N m q) s K=some r)/\Is [(2,vP f 0),(6,vI j),(9,vI K)] [(f,35,(Ac m d))] tt ll/\nn=s+1) (N+1) ?_ ?_
   ·exact⟨N,0,a,Ag Z Z,Z⟩
   clear a;rintro t l _ ⟨s,K,a,⟨⟨T,rfl⟩,rfl⟩,rfl⟩
   rcases s with _|s
   ·exact absurd a (by simp [Cg])
   rw [Cg] at a
   refine Aa λdl br=>AZ Z<|aD a Z (λbs a=> ?_) (λbs a=> ?_)
   ·refine Ab<|br _ _ ?_
    refine Aa λdm bt=>Ai<|Aa λdn bu=>Ia [] (by decide+kernel) (λhn=>AK)<|rm 3 [0] Z<|kC a λU a=>rI (Rd.shp i.2.2.2.2.2.2.2.2.1) U Z<|rE (Aw i.2.2.2.2.2.2.2.2.1) U 0 Z<|rm 3 [0] Z<|kC a λV a=>rI (Rd.shp i.2.2.2.2.2.2.2.2.1) V Z<|rE (Aw i.2.2.2.2.2.2.2.2.1) V 0 Z<|rz Z<|bu _ _ ?_
    refine aE a Z (λbv a=> ?_) (λbv a=> ?_)
    ·refine AZ Z ?_
     cases a
     exact aR eV2
    refine Ab<|bt _ _ ?_
    refine Ah<|rn 1 Z<|kC a λbw a=>rX bw Z<|rz Z<|fg _ (Sub.of (suK _ suN)) ?_
    exact⟨s+1,by omega,s,(K+1),a,Ag Z Z,Z⟩
   refine AG<|bm _ _ ?_
   refine Ah<|rn 1 Z<|kC a λbx a=>rX bx Z<|rz Z<|fg _ (Sub.of (suK _ suN)) ?_
   exact⟨q+1,by omega,q,(j+1),a,Ag Z Z,Z⟩
  refine AG<|bj _ _ ?_
  refine AZ Z ?_
  cases a
  exact aR eV2
 refine AZ Z<|aE a Z (λbz a=> ?_) (λbz a=> ?_)
 ·refine Ad<|rm 3 [0,0] Z<|kB a λdp ca a=>gV _ (cF ig) (λo w z_=>Ly N m m.2.2.2.2.2.2.2.2.2.2.1 _ ca z_.view d (Aa1.mono z_.ro_cell i) d.2.2.2.2.2.2.2.2.2.1 ((Aw i.2.2.2.2.2.2.2.2.2.1) o w z_))<|rz Z ?_
  cases a
  exact aR eV2
 refine AZ Z<|aE a Z (λcb a=> ?_) (λcb a=> ?_)
 ·refine Ad<|rm 3 [0,0] Z<|kB a λdq cc a=>gV _ (cF ig) (λo w z_=>Ly N m m.2.2.2.2.2.2.2.2.2.2.2.1 _ cc z_.view d (Aa1.mono z_.ro_cell i) d.2.2.2.2.2.2.2.2.2.2.1 ((Aw i.2.2.2.2.2.2.2.2.2.2.1) o w z_))<|rz Z ?_
  cases a
  exact aR eV2
 refine Ab<|ci _ _ ?_
 refine Ad<|rm 2 [0] Z<|kB a λu cd a=>gS (Ls:=[[(f,35,(Ac m d))]]) (cF sW) (λo w z_=>rTg N m p _ cd z_.view d (Aa1.mono z_.ro_cell i)) (λv h C=> ?_)
 refine rz Z<|Ad<|gB (Ls:=[[(f,35,(Ac m d))],h]) 3 BE [0,16,0,16,16,32,8,0,0,0,0,0,8,8,8] (λdr W X=> ?_)
 refine rn 1 Z<|kC a λD a=>rI (Sl.shp X) D Z<|rE (Ax X (Aj (Ls:=[[(f,35,(Ac m d))],h,W]) (k:=2) Z Z)) D 0 Z<|rz Z<|Aa λcr ab=>Aa λcs ac=>Ah<|rn 3 Z ?_
 refine AF 4 144 [(1,vI p),(2,vP f 0),(10,v),(11,vI (([0,16,0,16,16,32,8,0,0,0,0,0,8,8,8])[p.toNat]!))] vB (λb_=>DN N m p u b_=some r) (λct a T=> ?_) (λn=> ?_)
 ·unfold DN at a
  refine Ak<|ac _ _ ?_
  refine aB a Z (λad a=> ?_) (λad a=> ?_)
  ·refine AZ Z ?_
   cases a
   exact aR eV2
  refine Ab<|ab _ _ ?_
  refine Aa λcu ae=>Ad<|rn 1 Z<|rL (Sl.shp C) Z<|rz Z<|aD a Z (λaf a=> ?_) (λaf a=> ?_)
  ·refine AZ Z ?_
   cases a
   exact aR eV2
  refine Ab<|ae _ _ ?_
  refine Aa λcv ag=>AZ Z<|Ai<|Bs _ (Sub.pick [[(f,35,(Ac m d))],h,W] [0,1] Z)<|AH (λtt ll nn=> ∃(g:Nat) (b:Int),(AP N m p u g b=some r)/\Is [(1,vI p),(2,vP f 0),(10,v),(12,vI b)] (List.flatten [[(f,35,(Ac m d))],h]) tt ll/\nn=g+1) (N+1) ?_ ?_
  ·exact⟨N,0,a,Ag Z Z,Z⟩
  clear a;rintro t l _ ⟨g,b,a,⟨⟨T,rfl⟩,rfl⟩,rfl⟩
  rcases g with _|g
  ·exact absurd a (by simp [AP])
  rw [AP] at a
  refine Aa λcw ah=>Ad<|rn 2 Z<|rL (Sl.shp C) Z<|rz Z<|aD a Z (λai a=> ?_) (λai a=> ?_)
  ·refine Ab<|ah _ _ ?_
   refine Aa λcx aj=>Ai<|AZ Z<|Cb (λtt ll=> ∃(x:Int),(DM N m p u b (AP N m p u g) x=some r)/\Is [(1,vI p),(2,vP f 0),(10,v),(12,vI b),(13,vI x)] (List.flatten [[(f,35,(Ac m d))],h]) tt ll) ?_ ?_
   ·refine AZ Z<|aE a Z (λak a=> ?_) (λak a=> ?_)
    ·refine Ah<|rm 3 [0] Z<|kC a λF a=> ?_
     obtain⟨_,⟨G,al,rfl⟩,hat139⟩:=RdN.at (E:=Ad5) i.1 (Dx F)
     refine rI (RdN.shp i.1) F Z<|Oe (vA #[vS ((m.2.1)[b.toNat]!.1),G,vI ((m.2.1)[b.toNat]!.2.2.1),vI ((m.2.1)[b.toNat]!.2.2.2.1),vI ((m.2.1)[b.toNat]!.2.2.2.2.1),vI ((m.2.1)[b.toNat]!.2.2.2.2.2)]) (vs:=[vS ((m.2.1)[b.toNat]!.1),G,vI ((m.2.1)[b.toNat]!.2.2.1),vI ((m.2.1)[b.toNat]!.2.2.2.1),vI ((m.2.1)[b.toNat]!.2.2.2.2.1),vI ((m.2.1)[b.toNat]!.2.2.2.2.2)]) (b.toNat*6) 0 Z Z (λo w z_=>At.mono z_.ro_cell hat139) Z<|kB a λce am a=>gV _ (cF sV) (λo w z_=>Qj N ((m.2.1)[b.toNat]!.1) ((m.2.1)[b.toNat]!.2.1) ((m.2.1)[b.toNat]!.2.2.1) ((m.2.1)[b.toNat]!.2.2.2.1) ((m.2.1)[b.toNat]!.2.2.2.2.1) ((m.2.1)[b.toNat]!.2.2.2.2.2) _ am z_.view G (z_.r al))<|rz Z<|fg _ (Sub.pick [[(f,35,(Ac m d))],h] [0,1] Z) ?_
     exact⟨ce,a,Ag Z Z⟩
    refine Ab<|fg _ (Sub.pick [[(f,35,(Ac m d))],h] [0,1] Z) ?_
    exact⟨0,a,Ag Z Z⟩
   clear a;rintro t l ⟨x,a,⟨T,rfl⟩,rfl⟩
   unfold DM at a
   refine Cb (λtt ll=> ∃(y:Int),(Cz N m p b (AP N m p u g) y=some r)/\Is [(1,vI p),(2,vP f 0),(10,v),(12,vI b),(13,vI y)] (List.flatten [[(f,35,(Ac m d))],h]) tt ll) ?_ ?_
   ·refine AZ Z<|aE a Z (λan a=> ?_) (λan a=> ?_)
    ·refine Ah<|rn 2 Z<|kC a λao a=>rX ao Z<|kC a λH a=>r_W (GE v 0 (((b+1)).toNat) 1) Z (Fc (Jb Z Z Z Z (Sl.shp C) H))<|kB a λcf ap a=>gV _ (cF sU) (λo w z_=>Qu N (((u).take (((b+1)).toNat)).drop 0) _ ap z_.view (GE v 0 (((b+1)).toNat) 1) ((Ax (Sl.take0 C (Hp H.2)) (Aj (Ls:=[[(f,35,(Ac m d))],h]) (k:=1) Z Z)) o w z_))<|rz Z<|fg _ (Sub.pick [[(f,35,(Ac m d))],h] [0,1] Z) ?_
     exact⟨cf,a,Ag Z Z⟩
    refine Ab<|fg _ (Sub.pick [[(f,35,(Ac m d))],h] [0,1] Z) ?_
    exact⟨x,a,Ag Z Z⟩
   clear a;rintro t l ⟨y,a,⟨T,rfl⟩,rfl⟩
   unfold Cz at a
   refine Cb (λtt ll=> ∃(I:Int),(Cy b (AP N m p u g) I=some r)/\Is [(1,vI p),(2,vP f 0),(10,v),(12,vI b),(13,vI I)] (List.flatten [[(f,35,(Ac m d))],h]) tt ll) ?_ ?_
   ·refine AZ Z<|aE a Z (λaq a=> ?_) (λaq a=> ?_)
    ·refine Ah<|rm 3 [0] Z<|kB a λcg ar a=>gV _ (cF sT) (λo w z_=>Pb N m p b _ ar z_.view d (Aa1.mono z_.ro_cell i))<|rz Z<|fg _ (Sub.pick [[(f,35,(Ac m d))],h] [0,1] Z) ?_
     exact⟨cg,a,Ag Z Z⟩
    refine Ab<|fg _ (Sub.pick [[(f,35,(Ac m d))],h] [0,1] Z) ?_
    exact⟨y,a,Ag Z Z⟩
   clear a;rintro t l ⟨I,a,⟨T,rfl⟩,rfl⟩
   unfold Cy at a
   refine AZ Z<|aN a Z (λau a=> ?_) (λau a=> ?_)
   ·refine AZ Z ?_
    cases a
    exact aR eV2
   refine Ab<|aj _ _ ?_
   refine Ah<|rn 1 Z<|kC a λav a=>rX av Z<|rz Z<|fg _ (Sub.pick [[(f,35,(Ac m d))],h] [0,1] Z) ?_
   exact⟨g+1,by omega,g,(b+1),a,Ag Z Z,Z⟩
  refine AG<|ag _ _ ?_
  refine AZ Z ?_
  cases a
  exact aR eV2
 rcases J:(p==4)with _|_
 ·replace a:=iG J a
  refine rn 4 Z ?_
  exact n _ _ a Z Z
 replace a:=iE J a
 refine rn 1 Z<|r_y Z<|rL (Sl.shp C) Z<|rn 2 Z ?_
 exact n _ _ a Z Z
end Go.Proofs.YtjlomkippigejaaGreatDoor
