import Derived.Test.YtjnanfkpdhmnpaaGreatDoorBc
namespace Go.Proofs.YtjnanfkpdhmnpaaGreatDoor
open Go Go.RowKit Go.Eng _root_.Go.Proofs.Tryz
set_option linter.unusedSimpArgs false
set_option linter.unusedVariables false
set_option maxRecDepth 100000
set_option maxHeartbeats 80000000
abbrev AQ(b:Nat)(x0:Int)(x1 x2:W4):Y0 Bl:=[(b,200, #[vI x0,U x1,U x2])]
def Gf(c:Y0 Y3)(d:Int)(a:Y0 Y3->Y3->Int->Y1 (Int×(W3)×Int))(e:Int)(b:Y3):Y1 (Int×(W3)×Int):=ck ((c).length+([b]).length<=140737488355328) (ck (R64 (d+1)) (a (c++([b])) (decide (e>=2)) (d+1)))
def EM(h:W2)(g b:Y0 Y3)(c:Int)(a:Y0 Y3->Y3->Int->Y1 (Int×(W3)×Int))(f:Y3)(e:Int)(d:Y3):Y1 (Int×(W3)×Int):=if h=([120,111,114]:W2)then Gf b c a e ((g[c.toNat]!) !=f)else Gf b c a e d
def EN(h:W2)(e b:Y0 Y3)(f:Int)(a:Y0 Y3->Y3->Int->Y1 (Int×(W3)×Int))(c:Y3)(d:Int)(g:Y3):Y1 (Int×(W3)×Int):=if h=([111,114]:W2)then if(e[f.toNat]!)=true then EM h e b f a c d true else EM h e b f a c d c else EM h e b f a c d g
def Gg(g:W2)(e c:Y0 Y3)(f:Int)(a:Y0 Y3->Y3->Int->Y1 (Int×(W3)×Int))(d:Y3)(b:Int):Y1 (Int×(W3)×Int):=ck (0<=b/\b<=9223372036854775807) (if g=([97,110,100]:W2)then if(e[f.toNat]!)=true then EN g e c f a d b d else EN g e c f a d b false else EN g e c f a d b ((b%2:Int)==1))
def Gh(h:W2)(f c:Y0 Y3)(d:Y3)(g:Int)(a:Y0 Y3->Y3->Int->Y1 (Int×(W3)×Int))(e:Y3)(b:Int):Y1 (Int×(W3)×Int):=if d=true then ck (R64 (b+1)) (Gg h f c g a e (b+1))else Gg h f c g a e b
def Gi(h:W2)(f e:Y0 Y3)(b:Y3)(g:Int)(a:Y0 Y3->Y3->Int->Y1 (Int×(W3)×Int))(c:Y3)(d:Int):Y1 (Int×(W3)×Int):=if c=true then ck (R64 (d+1)) (Gh h f e b g a c (d+1))else Gh h f e b g a c d
def Gj(g:W2)(d c:Y0 Y3)(b:Y3)(e:Int)(a:Y0 Y3->Y3->Int->Y1 (Int×(W3)×Int))(f:Y3):Y1 (Int×(W3)×Int):=if(d[e.toNat]!)=true then Gi g d c b e a f 1 else Gi g d c b e a f 0
def Ge(h:W2)(e f d:Y0 Y3)(b:Y3)(c:Int)(a:Y0 Y3->Y3->Int->Y1 (Int×(W3)×Int))(g:Y3):Y1 (Int×(W3)×Int):=if g=true then Gj h e d b c a (!(f[c.toNat]!))else Gj h e d b c a (f[c.toNat]!)
def Gc(b:Int)(a:Y0 Y3->Int->Y1 (Int×(W3)×Int))(c:Y0 Y3)(d:Y3):Y1 (Int×(W3)×Int):=if d=true then ck (0<=b/\b<(c.length:Int)) (ck (R64 (b+1)) (a ((c).set (b.toNat) false) (b+1)))else ck (R64 (b+1)) (a c (b+1))
def Gd(e:W2)(d:Y3)(c:Int)(a:Y0 Y3->Int->Y1 (Int×(W3)×Int))(b:Y0 Y3):Y1 (Int×(W3)×Int):=if e=([115,117,98,115,97,116]:W2)then Gc c a b d else Gc c a b false
def Gb(f:W2)(d:Y3)(b:Y0 Y3)(c:Int)(a:Y0 Y3->Int->Y1 (Int×(W3)×Int))(e:Y3):Y1 (Int×(W3)×Int):=if e=true then ck (0<=c/\c<(b.length:Int)) (Gd f d c a ((b).set (c.toNat) true))else Gd f d c a b
def AX(N:Nat)(e:W2)(b c:Y3):Nat->Y0 Y3->Int->Y1 (Int×(W3)×Int)
  |0,_,_=>none
  |g+1,a,d=>if d<(a.length:Int)then if e=([97,100,100,115,97,116]:W2)then Gb e b a d (AX N e b c g) c else Gb e b a d (AX N e b c g) false else(HH N a).bind λf=>some (f.1,f.2,0)
def AI(N:Nat)(g:W2)(d f:Y0 Y3)(c:Y3):Nat->Y0 Y3->Y3->Int->Y1 (Int×(W3)×Int)
  |0,_,_,_=>none
  |h+1,e,a,b=>if b<(d.length:Int)then ck (0<=b/\b<(d.length:Int)) (ck (0<=b/\b<(f.length:Int)) (if g=([115,117,98]:W2)then Ge g d f e a b (AI N g d f c h) true else Ge g d f e a b (AI N g d f c h) (g==([115,117,98,115,97,116]:W2))))else AX N g c a N e 0
def HV(N:Nat)(e:W2)(b c:Y0 Y3)(a d:Y3):Y1 (Int×(W3)×Int):=AI N e b c a N ([]) d 0
def BU(N:Nat)(e:W2)(d c:Y0 Y3):Nat->Y3->Y3->Int->Y1 (Int×(W3)×Int)
  |0,_,_,_=>none
  |i+1,b,f,a=>if a<(d.length:Int)then ck (0<=a/\a<(d.length:Int)) (ck (0<=a/\a<(c.length:Int)) (if(d[a.toNat]!)≠(c[a.toNat]!)then ck (0<=a/\a<(c.length:Int)) (ck (R64 (a+1)) ((BU N e d c i) (c[a.toNat]!) false (a+1)))else ck (R64 (a+1)) ((BU N e d c i) b f (a+1))))else if e=([101,113]:W2)then(HH N ([f])).bind λg=>some (g.1,g.2,0)else if e=([108,101,115,115]:W2)then(HH N ([b])).bind λh=>some (h.1,h.2,0)else if e=([115,117,98]:W2)then HV N e d c b true else HV N e d c b (e==([115,117,98,115,97,116]:W2))
def GQ(N:Nat)(g:W2)(b:Int)(f:W3)(a:Int)(d:W3)(h:Y3):Y1 (Int×(W3)×Int):=if h=true then some (0,(0#64)++(0#64),1)else if(b:Int)≠a then some (0,(0#64)++(0#64),9)else(Fr N b f).bind λc=>(Fr N a d).bind λe=>BU N g c e N false true 0
def If(N:Nat)(f:W2)(c:Int)(d:W3)(a:Int)(b:W3):Y1 (Int×(W3)×Int):=(CO N c d).bind λg=>if g=true then(CO N a b).bind λe=>GQ N f c d a b (!(e))else GQ N f c d a b true
theorem Sr(N m Q I R J r)(a:If N m Q I R J=some r):Gives prog 118 #[vS m,vA #[vI Q,U (hi I),U (lo I)],vA #[vI R,U (hi J),U (lo J)]] (vT #[vA #[vI r.1,U (hi r.2.1),U (lo r.2.1)],vI r.2.2]):=by
 unfold If at a
 refine Au follows func118 Z 156 Z _ fz3 (λdc=> ?_)
 refine Ad<|rA Z λb2=>rA Z λb3=>rA Z λh=>rz Z<|Aa λK5 df=>Aa λK6 dg=>Ah<|rm 1 [2] Z<|kB a λr7 dh a=>rc _ (cF Qc) (Hl N Q I _ dh)<|rn 2 Z<|AS 4 28 [(0,vS m),(4,vP b2 0),(5,vP b3 0),(6,vP h 0)] vB (λb_=>GQ N m Q I R J b_=some r) (λb9 a T=> ?_) (λX=> ?_)
 ·unfold GQ at a
  refine Aj<|dg _ _ ?_
  refine aB a Z (λbr a=> ?_) (λbr a=> ?_)
  ·refine Ad<|r_W (vA #[vI 0,U (0#64),U (0#64)]) Z (Ar Z Z Z Z)<|ry [0] Z ?_
   cases a
   refine AU (λhn=>EH (v0:=vT #[vA #[vI 0,U (0#64),U (0#64)],vI 1]) (by first|rfl|(simp only [BB];done)|simp only [BB]) (Jg (Bf hn 0 Z Z Z) Z))
  refine Ac<|df _ _ ?_
  refine Aa λee bs=>AY [2,1] Z<|aN a Z (λbt a=> ?_) (λbt a=> ?_)
  ·refine Ad<|r_W (vA #[vI 0,U (0#64),U (0#64)]) Z (Ar Z Z Z Z)<|ry [0] Z ?_
   cases a
   refine AU (λhn=>EH (v0:=vT #[vA #[vI 0,U (0#64),U (0#64)],vI 9]) (by first|rfl|(simp only [BB];done)|simp only [BB]) (Jg (Bf hn 0 Z Z Z) Z))
  refine Ac<|bs _ _ ?_
  refine Aa λef bu=>BO [(some 37,false),(some 39,false)] (conG prog [(37,λ_ _ v_ L_ U_=> ∀ad,Fr N Q I=some ad->(p1 (λs_=>s_) 4 Ot ad) v_ L_ U_),(39,λ_ _ v_ L_ U_=> ∀ad,Fr N R J=some ad->(p1 (λs_=>s_) 4 Ot ad) v_ L_ U_)]) [] (by decide+kernel) (λhn=>AN)<|rm 1 [2] Z<|kB a λj an a=>cj (Ls:=[(AQ h 0 (0#64) (0#64)),(AQ b3 R (hi J) (lo J)),(AQ b2 Q (hi I) (lo I))]) (λF=>F) 4 Ot j 192 _ Z Z Z (cF ep) (λo w z_=>Nz N Q I _ an z_.view) (Hq an) (λF f aa=> ?_)
  refine rm 1 [1] Z<|kB a λB ao a=>cj (Ls:=[(AQ h 0 (0#64) (0#64)),(AQ b3 R (hi J) (lo J)),(AQ b2 Q (hi I) (lo I)),f]) (λG=>G) 4 Ot B 192 _ Z Z Z (cF ep) (λo w z_=>Nz N R J _ ao z_.view) (Hq ao) (λG g ab=> ?_)
  refine rz Z<|bu _ _ ?_
  refine AZ Z<|Aa λeg bv=>AZ Z<|Ai<|BF _ (W5 [(AQ h 0 (0#64) (0#64)),(AQ b3 R (hi J) (lo J)),(AQ b2 Q (hi I) (lo I)),f,g] [0,3,4] Z)<|AL (λtt ll nn=> ∃(P:Nat) (b:Y3) (D:Y3) (S:Int),(BU N m j B P b D S=some r)/\Is [(0,vS m),(6,vP h 0),(8,F),(9,G),(10,vB b),(11,vB D),(12,vI S)] (V2 [(AQ h 0 (0#64) (0#64)),f,g]) tt ll/\nn=P+1) (N+1) ?_ ?_
  ·exact⟨N,false,true,0,a,Ag Z (by first|rfl|simp only [BB]),Z⟩
  clear a;rintro t l _ ⟨P,b,D,S,a,⟨⟨T,rfl⟩,rfl⟩,rfl⟩
  rcases P with _|P
  ·exact absurd a (by simp [BU])
  rw [BU] at a
  refine Aa λeh bw=>Ad<|rn 2 Z<|rL (W7 aa) Z<|rz Z<|aD a Z (λbx a=> ?_) (λbx a=> ?_)
  ·refine Ac<|bw _ _ ?_
   refine Aa λei ap=>Ai<|Aa λej bz=>HS [] (by decide+kernel) (λhn=>AN)<|rn 2 Z<|kC a λaq a=>rI (W7 aa) aq Z<|rE (AB aa (Al (Ls:=[(AQ h 0 (0#64) (0#64)),f,g]) (k:=1) Z Z)) aq 0 Z<|rn 2 Z<|kC a λar a=>rI (W7 ab) ar Z<|rE (AB ab (Al (Ls:=[(AQ h 0 (0#64) (0#64)),f,g]) (k:=2) Z Z)) ar 0 Z<|r_W (vB ((j[S.toNat]!) !=(B[S.toNat]!))) Z (dD Z Z Z)<|Aj<|bz _ _ ?_
   refine aN a Z (λca a=> ?_) (λca a=> ?_)
   ·refine Ad<|rn 2 Z<|kC a λau a=>rI (W7 ab) au Z<|rE (AB ab (Al (Ls:=[(AQ h 0 (0#64) (0#64)),f,g]) (k:=2) Z Z)) au 0 Z<|rz Z<|Ah<|rz Z<|ap _ _ ?_
    refine Ah<|rn 1 Z<|kC a λcb a=>rX cb Z<|rz Z<|fg _ (W5 [(AQ h 0 (0#64) (0#64)),f,g] [0,1,2] Z) ?_
    exact⟨P+1,by omega,P,B[S.toNat]!,false,(S+1),a,Ag Z (by first|rfl|simp only [BB]),Z⟩
   refine Ac<|ap _ _ ?_
   refine Ah<|rn 1 Z<|kC a λcc a=>rX cc Z<|rz Z<|fg _ (W5 [(AQ h 0 (0#64) (0#64)),f,g] [0,1,2] Z) ?_
   exact⟨P+1,by omega,P,b,D,(S+1),a,Ag Z (by first|rfl|simp only [BB]),Z⟩
  refine AM<|bv _ _ ?_
  refine Aa λek cd=>Ad<|rn 1 Z<|r_W (vB (m==([101,113]:W2))) Z (FQ Z Z)<|Aj<|aE a Z (λce a=> ?_) (λce a=> ?_)
  ·refine Ad<|rn 1 Z<|gB (Ls:=[(AQ h 0 (0#64) (0#64)),f,g]) 4 Ot [D] (λdi dj dk=> ?_)
   refine kB a λba cf a=>gV _ (cF Xp) (λo w z_=>Mg N _ _ cf z_.view di ((AB dk (Al (Ls:=[(AQ h 0 (0#64) (0#64)),f,g,dj]) (k:=3) Z Z)) o w z_))<|ry [0] Z ?_
   cases a
   refine AU (λhn=>EH (v0:=vT #[vA #[vI ba.1,U (hi ba.2),U (lo ba.2)],vI 0]) Z (Jg (Bf hn 0 Z Z Z) Z))
  refine Ac<|cd _ _ ?_
  refine Aa λel cg=>Ad<|rn 1 Z<|r_W (vB (m==([108,101,115,115]:W2))) Z (FQ Z Z)<|Aj<|aE a Z (λch a=> ?_) (λch a=> ?_)
  ·refine Ad<|rn 1 Z<|gB (Ls:=[(AQ h 0 (0#64) (0#64)),f,g]) 4 Ot [b] (λdl dm dn=> ?_)
   refine kB a λbb ci a=>gV _ (cF Xp) (λo w z_=>Mg N _ _ ci z_.view dl ((AB dn (Al (Ls:=[(AQ h 0 (0#64) (0#64)),f,g,dm]) (k:=3) Z Z)) o w z_))<|ry [0] Z ?_
   cases a
   refine AU (λhn=>EH (v0:=vT #[vA #[vI bb.1,U (hi bb.2),U (lo bb.2)],vI 0]) Z (Jg (Bf hn 0 Z Z Z) Z))
  refine Ac<|cg _ _ ?_
  refine AZ Z<|Aa λem ck=>Ah<|rn 1 Z<|r_W (vB (m==([115,117,98]:W2))) Z (FQ Z Z)<|rn 1 Z<|AS 3 74 [(0,vS m),(6,vP h 0),(8,F),(9,G),(10,vB b),(13,nS)] vB (λb_=>HV N m j B b b_=some r) (λdp a T=> ?_) (λX=> ?_)
  ·unfold HV at a
   refine rz Z<|ck _ _ ?_
   refine Aa λen cl=>AZ Z<|Ai<|BF _ (W6 (Ls:=[(AQ h 0 (0#64) (0#64)),f,g,[]]) (Ls0:=[(AQ h 0 (0#64) (0#64)),f,g]) Z [0,1,2,3] Z) ?_
   refine AL (λtt ll nn=> ∃(C:Nat) (n:Y0 Y3) (d:Y3) (i:Int),(AI N m j B b C n d i=some r)/\ ∃(e:Y2) (c:Y0 Bl),Sl 4 Ot e n c/\Is [(0,vS m),(6,vP h 0),(8,F),(9,G),(10,vB b),(13,e),(14,vB d),(15,vI i)] (V2 [(AQ h 0 (0#64) (0#64)),f,g,c]) tt ll/\nn=C+1) (N+1) ?_ ?_
   ·exact⟨N,[],dp,0,a,nS,[],Sl.nil,Ag Z (by first|rfl|simp only [BB]),Z⟩
   clear a;rintro t l _ ⟨C,n,d,i,a,e,c,Y,⟨⟨T,rfl⟩,rfl⟩,rfl⟩
   rcases C with _|C
   ·exact absurd a (by simp [AI])
   rw [AI] at a
   refine Aa λeo cm=>Ad<|rn 2 Z<|rL (W7 aa) Z<|rz Z<|aD a Z (λcn a=> ?_) (λcn a=> ?_)
   ·refine Ac<|cm _ _ ?_
    refine Aa λer co=>Ai<|Aa λes cp=>HS [] (by decide+kernel) (λhn=>AN)<|rn 2 Z<|kC a λav a=>rI (W7 aa) av Z<|rE (AB aa (Al (Ls:=[(AQ h 0 (0#64) (0#64)),f,g,c]) (k:=1) Z Z)) av 0 Z<|rn 2 Z<|kC a λaw a=>rI (W7 ab) aw Z<|rE (AB ab (Al (Ls:=[(AQ h 0 (0#64) (0#64)),f,g,c]) (k:=2) Z Z)) aw 0 Z<|rz Z<|cp _ _ ?_
    refine Cs (λtt ll=> ∃(q:Y3),(Gj m j n d i (AI N m j B b C) q=some r)/\Is [(0,vS m),(6,vP h 0),(8,F),(9,G),(10,vB b),(13,e),(14,vB d),(15,vI i),(16,vB (j[i.toNat]!)),(17,vB q)] (V2 [(AQ h 0 (0#64) (0#64)),f,g,c]) tt ll) ?_ ?_
    ·refine Aa λdt bc=>Ah<|rn 1 Z<|r_W (vB (m==([115,117,98]:W2))) Z (FQ Z Z)<|rn 1 Z<|AS 3 94 [(0,vS m),(6,vP h 0),(8,F),(9,G),(10,vB b),(13,e),(14,vB d),(15,vI i),(16,vB (j[i.toNat]!)),(17,vB (B[i.toNat]!))] vB (λb_=>Ge m j B n d i (AI N m j B b C) b_=some r) (λdu a T=> ?_) (λX=> ?_)
     ·unfold Ge at a
      refine Aj<|bc _ _ ?_
      refine aB a Z (λbd a=> ?_) (λbd a=> ?_)
      ·refine Ah<|rz Z<|fg _ (W5 [(AQ h 0 (0#64) (0#64)),f,g,c] [0,1,2,3] Z) ?_
       exact⟨!(B[i.toNat]!),a,Ag Z (by first|rfl|simp only [BB])⟩
      refine Ac<|fg _ (W5 [(AQ h 0 (0#64) (0#64)),f,g,c] [0,1,2,3] Z) ?_
      exact⟨B[i.toNat]!,a,Ag Z (by first|rfl|simp only [BB])⟩
     rcases ae:(m==([115,117,98]:W2))with _|_
     ·replace a:=iG ae a
      refine rn 1 Z<|r_y Z<|r_W (vB (m==([115,117,98,115,97,116]:W2))) Z (FQ Z Z)<|rn 1 Z ?_
      exact X _ _ a Z Z
     replace a:=iE ae a
     refine rn 3 Z ?_
     exact X _ _ a Z Z
    clear a;rintro t l ⟨q,a,⟨T,rfl⟩,rfl⟩
    unfold Gj at a
    refine AZ Z<|Cs (λtt ll=> ∃(V:Int),(Gi m j n d i (AI N m j B b C) q V=some r)/\Is [(0,vS m),(6,vP h 0),(8,F),(9,G),(10,vB b),(13,e),(14,vB d),(15,vI i),(16,vB (j[i.toNat]!)),(17,vB q),(18,vI V)] (V2 [(AQ h 0 (0#64) (0#64)),f,g,c]) tt ll) ?_ ?_
    ·refine AZ Z<|aB a Z (λbe a=> ?_) (λbe a=> ?_)
     ·refine Ah<|rn 1 Z<|r_X (vI 1) Z (RU Z (by decide) (by decide)) Z<|rz Z<|fg _ (W5 [(AQ h 0 (0#64) (0#64)),f,g,c] [0,1,2,3] Z) ?_
      exact⟨1,a,Ag Z (by first|rfl|simp only [BB])⟩
     refine Ac<|fg _ (W5 [(AQ h 0 (0#64) (0#64)),f,g,c] [0,1,2,3] Z) ?_
     exact⟨0,a,Ag Z (by first|rfl|simp only [BB])⟩
    clear a;rintro t l ⟨V,a,⟨T,rfl⟩,rfl⟩
    unfold Gi at a
    refine Cs (λtt ll=> ∃(W:Int),(Gh m j n d i (AI N m j B b C) q W=some r)/\Is [(0,vS m),(6,vP h 0),(8,F),(9,G),(10,vB b),(13,e),(14,vB d),(15,vI i),(16,vB (j[i.toNat]!)),(17,vB q),(18,vI W)] (V2 [(AQ h 0 (0#64) (0#64)),f,g,c]) tt ll) ?_ ?_
    ·refine AZ Z<|aB a Z (λcq a=> ?_) (λcq a=> ?_)
     ·refine Ah<|rn 1 Z<|kC a λcr a=>rX cr Z<|rz Z<|fg _ (W5 [(AQ h 0 (0#64) (0#64)),f,g,c] [0,1,2,3] Z) ?_
      exact⟨(V+1),a,Ag Z (by first|rfl|simp only [BB])⟩
     refine Ac<|fg _ (W5 [(AQ h 0 (0#64) (0#64)),f,g,c] [0,1,2,3] Z) ?_
     exact⟨V,a,Ag Z (by first|rfl|simp only [BB])⟩
    clear a;rintro t l ⟨W,a,⟨T,rfl⟩,rfl⟩
    unfold Gh at a
    refine Cs (λtt ll=> ∃(z:Int),(Gg m j n i (AI N m j B b C) q z=some r)/\Is [(0,vS m),(6,vP h 0),(8,F),(9,G),(10,vB b),(13,e),(15,vI i),(16,vB (j[i.toNat]!)),(17,vB q),(18,vI z)] (V2 [(AQ h 0 (0#64) (0#64)),f,g,c]) tt ll) ?_ ?_
    ·refine AZ Z<|aB a Z (λcs a=> ?_) (λcs a=> ?_)
     ·refine Ah<|rn 1 Z<|kC a λct a=>rX ct Z<|rz Z<|fg _ (W5 [(AQ h 0 (0#64) (0#64)),f,g,c] [0,1,2,3] Z) ?_
      exact⟨(W+1),a,Ag Z (by first|rfl|simp only [BB])⟩
     refine Ac<|fg _ (W5 [(AQ h 0 (0#64) (0#64)),f,g,c] [0,1,2,3] Z) ?_
     exact⟨W,a,Ag Z (by first|rfl|simp only [BB])⟩
    clear a;rintro t l ⟨z,a,⟨T,rfl⟩,rfl⟩
    unfold Gg at a
    refine Ad<|rn 1 Z<|kC a λcu a=>r_X (vI (z%2)) Z (SY cu.1) Z<|rz Z<|AZ Z<|Cs (λtt ll=> ∃(K:Y3),(EN m j n i (AI N m j B b C) q z K=some r)/\Is [(0,vS m),(6,vP h 0),(8,F),(9,G),(10,vB b),(13,e),(14,vB (decide (z>=2))),(15,vI i),(16,vB (j[i.toNat]!)),(17,vB q),(19,vB K)] (V2 [(AQ h 0 (0#64) (0#64)),f,g,c]) tt ll) ?_ ?_
    ·refine Ad<|rn 1 Z<|r_W (vB (m==([97,110,100]:W2))) Z (FQ Z Z)<|Aj<|aE a Z (λcv a=> ?_) (λcv a=> ?_)
     ·refine Ah<|rn 2 Z ?_
      rcases M:(j[i.toNat]!)with _|_
      ·replace a:=iB M a
       refine rz Z<|fg _ (W5 [(AQ h 0 (0#64) (0#64)),f,g,c] [0,1,2,3] Z) ?_
       exact⟨false,a,Ag (by first|rfl|(simp only [M];done)|(simp only [M];rfl)|(simp only [BB];rfl)) (by first|rfl|simp only [BB])⟩
      replace a:=ifp M a
      refine rz Z<|fg _ (W5 [(AQ h 0 (0#64) (0#64)),f,g,c] [0,1,2,3] Z) ?_
      exact⟨q,a,Ag (by first|rfl|(simp only [M];done)|(simp only [M];rfl)|(simp only [BB];rfl)) (by first|rfl|simp only [BB])⟩
     refine Ac<|fg _ (W5 [(AQ h 0 (0#64) (0#64)),f,g,c] [0,1,2,3] Z) ?_
     exact⟨((z%2:Int)==1),a,Ag Z (by first|rfl|simp only [BB])⟩
    clear a;rintro t l ⟨K,a,⟨T,rfl⟩,rfl⟩
    unfold EN at a
    refine Cs (λtt ll=> ∃(L:Y3),(EM m j n i (AI N m j B b C) q z L=some r)/\Is [(0,vS m),(6,vP h 0),(8,F),(9,G),(10,vB b),(13,e),(14,vB (decide (z>=2))),(15,vI i),(16,vB (j[i.toNat]!)),(17,vB q),(19,vB L)] (V2 [(AQ h 0 (0#64) (0#64)),f,g,c]) tt ll) ?_ ?_
    ·refine Ad<|rn 1 Z<|r_W (vB (m==([111,114]:W2))) Z (FQ Z Z)<|Aj<|aE a Z (λcw a=> ?_) (λcw a=> ?_)
     ·refine Ah<|rn 2 Z ?_
      rcases O:(j[i.toNat]!)with _|_
      ·replace a:=iB O a
       refine rz Z<|fg _ (W5 [(AQ h 0 (0#64) (0#64)),f,g,c] [0,1,2,3] Z) ?_
       exact⟨q,a,Ag (by first|rfl|(simp only [O];done)|(simp only [O];rfl)|(simp only [BB];rfl)) (by first|rfl|simp only [BB])⟩
      replace a:=ifp O a
      refine rz Z<|fg _ (W5 [(AQ h 0 (0#64) (0#64)),f,g,c] [0,1,2,3] Z) ?_
      exact⟨true,a,Ag (by first|rfl|(simp only [O];done)|(simp only [O];rfl)|(simp only [BB];rfl)) (by first|rfl|simp only [BB])⟩
     refine Ac<|fg _ (W5 [(AQ h 0 (0#64) (0#64)),f,g,c] [0,1,2,3] Z) ?_
     exact⟨K,a,Ag Z (by first|rfl|simp only [BB])⟩
    clear a;rintro t l ⟨L,a,⟨T,rfl⟩,rfl⟩
    unfold EM at a
    refine Cs (λtt ll=> ∃(E:Y3),(Gf n i (AI N m j B b C) z E=some r)/\Is [(0,vS m),(6,vP h 0),(8,F),(9,G),(10,vB b),(13,e),(14,vB (decide (z>=2))),(15,vI i),(19,vB E)] (V2 [(AQ h 0 (0#64) (0#64)),f,g,c]) tt ll) ?_ ?_
    ·refine Ad<|rn 1 Z<|r_W (vB (m==([120,111,114]:W2))) Z (FQ Z Z)<|Aj<|aE a Z (λcx a=> ?_) (λcx a=> ?_)
     ·refine Ah<|rn 2 Z<|r_W (vB ((j[i.toNat]!) !=q)) Z (dD Z Z Z)<|rz Z<|fg _ (W5 [(AQ h 0 (0#64) (0#64)),f,g,c] [0,1,2,3] Z) ?_
      exact⟨(j[i.toNat]!) !=q,a,Ag Z (by first|rfl|simp only [BB])⟩
     refine Ac<|fg _ (W5 [(AQ h 0 (0#64) (0#64)),f,g,c] [0,1,2,3] Z) ?_
     exact⟨L,a,Ag Z (by first|rfl|simp only [BB])⟩
    clear a;rintro t l ⟨E,a,⟨T,rfl⟩,rfl⟩
    unfold Gf at a
    refine Ah<|rn 2 Z<|gB (Ls:=[(AQ h 0 (0#64) (0#64)),f,g,c]) 4 Ot [E] (λet bf dq=> ?_)
    refine kC a λax a=>cC 131<|Ln (cs0:=[]) (Ls:=[(AQ h 0 (0#64) (0#64)),f,g,c,bf]) 3 (En:=Ot) Z Z Z Z Z Y Z (AB dq (Al (Ls:=[(AQ h 0 (0#64) (0#64)),f,g,c,bf]) (k:=4) Z Z)) Z Z Z Z Z (LB ax Z) (LA ax Z) Z (λdr cy ds=> ?_)
    refine rz Z<|co _ _ ?_
    refine Ah<|rn 1 Z<|kC a λcz a=>rX cz Z<|rz Z<|fg _ (W5 [(AQ h 0 (0#64) (0#64)),f,g,cy,bf] [0,1,2,3] Z) ?_
    exact⟨C+1,by omega,C,(n++([E])),decide (z>=2),(i+1),a,dr,cy,ds,Ag Z (by first|rfl|simp only [BB]),Z⟩
   refine AM<|cl _ _ ?_
   refine Aa λdv bg=>AZ Z<|Ai<|BF _ (W5 [(AQ h 0 (0#64) (0#64)),f,g,c] [0,3] Z)<|AL (λtt ll nn=> ∃(A:Nat) (s:Y0 Y3) (u:Int),(AX N m b d A s u=some r)/\ ∃(p:Y0 Bl),Sl 4 Ot e s p/\Is [(0,vS m),(6,vP h 0),(10,vB b),(13,e),(14,vB d),(20,vI u)] (V2 [(AQ h 0 (0#64) (0#64)),p]) tt ll/\nn=A+1) (N+1) ?_ ?_
   ·exact⟨N,n,0,a,c,Y,Ag Z (by first|rfl|simp only [BB]),Z⟩
   clear a;rintro t l _ ⟨A,s,u,a,p,y,⟨⟨T,rfl⟩,rfl⟩,rfl⟩
   rcases A with _|A
   ·exact absurd a (by simp [AX])
   rw [AX] at a
   refine Aa λdw bh=>Ad<|rn 2 Z<|rL (W7 y) Z<|rz Z<|aD a Z (λbi a=> ?_) (λbi a=> ?_)
   ·refine Ac<|bh _ _ ?_
    refine Aa λdx af=>Ai<|Cs (λtt ll=> ∃(x:Y0 Y3),(Gd m b u (AX N m b d A) x=some r)/\ ∃(v:Y0 Bl),Sl 4 Ot e x v/\Is [(0,vS m),(6,vP h 0),(10,vB b),(13,e),(14,vB d),(20,vI u)] (V2 [(AQ h 0 (0#64) (0#64)),v]) tt ll) ?_ ?_
    ·refine Aa λdy bj=>Ah<|rn 1 Z<|r_W (vB (m==([97,100,100,115,97,116]:W2))) Z (FQ Z Z)<|rn 1 Z<|AS 2 142 [(0,vS m),(6,vP h 0),(10,vB b),(13,e),(14,vB d),(20,vI u)] vB (λb_=>Gb m b s u (AX N m b d A) b_=some r) (λdz a T=> ?_) (λX=> ?_)
     ·unfold Gb at a
      refine Aj<|bj _ _ ?_
      refine aB a Z (λbk a=> ?_) (λbk a=> ?_)
      ·refine Ah<|rn 2 Z<|kC a λag a=>rI (W7 y) ag Z<|QR (Ls:=[(AQ h 0 (0#64) (0#64)),p]) 1 (En:=Ot) (s[u.toNat]!) true (u.toNat) 0 Z Z Z y (Cp ag) Z Z Z (It Z) Z (λay da=> ?_)
       refine Aj<|fg _ (W5 [(AQ h 0 (0#64) (0#64)),ay] [0,1] Z) ?_
       exact⟨(s).set (u.toNat) true,a,ay,da,Ag Z (by first|rfl|simp only [BB])⟩
      refine Ac<|fg _ (W5 [(AQ h 0 (0#64) (0#64)),p] [0,1] Z) ?_
      exact⟨s,a,p,y,Ag Z (by first|rfl|simp only [BB])⟩
     rcases ah:(m==([97,100,100,115,97,116]:W2))with _|_
     ·replace a:=iG ah a
      refine rn 2 Z ?_
      exact X _ _ a Z Z
     replace a:=iE ah a
     refine rn 2 Z ?_
     exact X _ _ a Z Z
    clear a;rintro t l ⟨x,a,v,H,⟨T,rfl⟩,rfl⟩
    unfold Gd at a
    refine Aa λea bl=>Ah<|rn 1 Z<|r_W (vB (m==([115,117,98,115,97,116]:W2))) Z (FQ Z Z)<|rn 1 Z<|AS 2 150 [(0,vS m),(6,vP h 0),(10,vB b),(13,e),(14,vB d),(20,vI u)] vB (λb_=>Gc u (AX N m b d A) x b_=some r) (λeb a T=> ?_) (λX=> ?_)
    ·unfold Gc at a
     refine Aj<|bl _ _ ?_
     refine aB a Z (λbm a=> ?_) (λbm a=> ?_)
     ·refine Ah<|rn 2 Z<|kC a λai a=>rI (W7 H) ai Z<|QR (Ls:=[(AQ h 0 (0#64) (0#64)),v]) 1 (En:=Ot) (x[u.toNat]!) false (u.toNat) 0 Z Z Z H (Cp ai) Z Z Z (It Z) Z (λaz db=> ?_)
      refine Aj<|af _ _ ?_
      refine Ah<|rn 1 Z<|kC a λbn a=>rX bn Z<|rz Z<|fg _ (W5 [(AQ h 0 (0#64) (0#64)),az] [0,1] Z) ?_
      exact⟨A+1,by omega,A,(x).set (u.toNat) false,(u+1),a,az,db,Ag Z (by first|rfl|simp only [BB]),Z⟩
     refine Ac<|af _ _ ?_
     refine Ah<|rn 1 Z<|kC a λbo a=>rX bo Z<|rz Z<|fg _ (W5 [(AQ h 0 (0#64) (0#64)),v] [0,1] Z) ?_
     exact⟨A+1,by omega,A,x,(u+1),a,v,H,Ag Z (by first|rfl|simp only [BB]),Z⟩
    rcases aj:(m==([115,117,98,115,97,116]:W2))with _|_
    ·replace a:=iG aj a
     refine rn 2 Z ?_
     exact X _ _ a Z Z
    replace a:=iE aj a
    refine rn 2 Z ?_
    exact X _ _ a Z Z
   refine AM<|bg _ _ ?_
   refine Ad<|rn 1 Z<|kB a λak bp a=>gV _ (cF Xp) (λo w z_=>Mg N s _ bp z_.view e ((AB y (Al (Ls:=[(AQ h 0 (0#64) (0#64)),p]) (k:=1) Z Z)) o w z_))<|ry [0] Z ?_
   cases a
   refine AU (λhn=>EH (v0:=vT #[vA #[vI ak.1,U (hi ak.2),U (lo ak.2)],vI 0]) Z (Jg (Bf hn 0 Z Z Z) Z))
  rcases al:(m==([115,117,98]:W2))with _|_
  ·replace a:=iG al a
   refine rn 1 Z<|r_y Z<|r_W (vB (m==([115,117,98,115,97,116]:W2))) Z (FQ Z Z)<|rn 1 Z ?_
   exact X _ _ a Z Z
  replace a:=iE al a
  refine rn 3 Z ?_
  exact X _ _ a Z Z
 rcases am:(!(r7))with _|_
 ·replace a:=ifp (DH am) a
  refine r_y Z<|rm 1 [1] Z<|r_y Z<|kB a λec bq a=>rc _ (cF Qc) (Hl N R J _ bq)<|rn 2 Z ?_
  exact X _ _ a Z Z
 replace a:=ifn (Bool.eq_false_iff.1 (DG am)) a
 refine rn 4 Z ?_
 exact X _ _ a Z Z
def ET(_:Nat)(m:Ao)(n:Int):Y1 Y3:=if n>= -2 then some (decide (n<(m.2.2.2.2.1.length:Int)))else some false
theorem Mb(N m n r)(a:ET N m n=some r)(e)(f:AC)(g:Aa2 e f m):Does prog 119 #[vA (Ab m f),vI n] e [] (pV (vB r)):=by
 unfold ET at a
 refine Ak follows func119 Z 14 Z _ fz2 (λd=> ?_)
 refine Ad<|rA Z λh=>rz Z<|Aa λi b=>Ah<|rn 3 Z ?_
 rcases c:(decide (n>= -2))with _|_
 ·replace a:=iF c a
  refine rz Z<|b _ _ ?_
  cases a
  exact aR eV1
 replace a:=iD c a
 refine rn 2 Z<|r_y Z<|rm 1 [0] Z<|r_y Z<|rL (W9 g.2.2.2.1) Z<|rz Z<|b _ _ ?_
 cases a
 exact aR eV1
def DT(N:Nat)(m:Ao)(c:Y0 (Int×W3×Int×W3×Int))(b:Int)(a:Int->Y1 Int)(e:Y3):Y1 Int:=if e=true then some 9 else(If N ([97,110,100]:W2) ((c[b.toNat]!).1) ((c[b.toNat]!).2.1) ((c[b.toNat]!).2.2.1) ((c[b.toNat]!).2.2.2.1)).bind λd=>if((d.1==((c[b.toNat]!).1))&&(d.2.1==((c[b.toNat]!).2.1)))=true then(ET N m ((c[b.toNat]!).2.2.2.2)).bind λf=>if f=true then ck (R64 (b+1)) (a (b+1))else some 5 else some 14
def DU(N:Nat)(m:Ao)(b:Y0 (Int×W3×Int×W3×Int))(d:Int×Y3)(c:Int)(a:Int->Y1 Int)(e:Y3):Y1 Int:=if e=true then DT N m b c a true else DT N m b c a ((((b[c.toNat]!).2.2.1:Int) !=d.1))
def DV(N:Nat)(m:Ao)(c:Y0 (Int×W3×Int×W3×Int))(b:Int×Y3)(d:Int)(a:Int->Y1 Int)(e:Y3):Y1 Int:=if e=true then DU N m c b d a true else DU N m c b d a ((((c[d.toNat]!).1:Int) !=b.1))
def AP(N:Nat)(m:Ao)(a:Y0 (Int×W3×Int×W3×Int))(d:Int)(c:Int×Y3):Nat->Int->Y1 Int
  |0,_=>none
  |e+1,b=>if b<(a.length:Int)then ck (0<=b/\b<(a.length:Int)) ((CO N ((a[b.toNat]!).1) ((a[b.toNat]!).2.1)).bind λf=>if f=true then(CO N ((a[b.toNat]!).2.2.1) ((a[b.toNat]!).2.2.2.1)).bind λh=>DV N m a c b (AP N m a d c e) (!(h))else DV N m a c b (AP N m a d c e) true)else(ET N m d).bind λg=>if g=true then some 0 else some 5
def DW(N:Nat)(m:Ao)(d:Y0 (Int×Int×Int))(c:Y0 (Int×W3×Int×W3×Int))(a:Int)(e:Y3):Y1 Int:=if e=true then some 4 else(GY N m d).bind λb=>AP N m c a b N 0
def Cj(N:Nat)(m:Ao)(d:Y0 (Int×Int))(b:Y0 (Int×Int×Int))(c:Y0 (Int×W3×Int×W3×Int))(e:Int):Nat->Int->Y1 Int
  |0,_=>none
  |h+1,a=>if a<(d.length:Int)then ck (0<=a/\a<(d.length:Int)) ((FA N m ((d[a.toNat]!).1) ((d[a.toNat]!).2)).bind λf=>if(f:Int)≠0 then some f else ck (R64 (a+1)) ((Cj N m d b c e h) (a+1)))else(Fz N m b true).bind λg=>if(g:Int)≠0 then some g else if(c.length:Int)>8 then some 2 else if(c.length:Int)>0 then DW N m b c e (((b.length:Int)==0))else DW N m b c e false
def Ek(N:Nat)(m:Ao)(_:W2)(a:Y0 (Int×Int))(b:Y0 (Int×Int×Int))(c:Y0 (Int×W3×Int×W3×Int))(d:Int):Y1 Int:=if(a.length:Int)>4 then some 2 else Cj N m a b c d N 0
theorem Py(N m B y q b d r)(a:Ek N m B y q b d=some r)(ro)(C:AC)(hm:Aa2 ro C m)(j)(k:Rd Af0 ro j y)(g)(z:Rd Ac9 ro g q)(n)(h:Rd Af1 ro n b):Does prog 62 #[vA (Ab m C),vA #[vS B,j,g,n,vI d]] ro [] (pV (vI r)):=by
 unfold Ek at a
 refine Ak follows func62 Z 121 Z _ fz2 (λay=> ?_)
 refine Ad<|rA Z λD=>rA Z λE=>rz Z<|Aa λK4 az=>Ad<|rm 2 [0] Z<|rL (W8 k) Z<|rz Z<|aD a Z (λba a=> ?_) (λba a=> ?_)
 ·refine AZ Z ?_
  cases a
  exact aR eV1
 refine Ac<|az _ _ ?_
 refine Aa λK8 bb=>AZ Z<|Ai<|AL (λtt ll nn=> ∃(i:Nat) (p:Int),(Cj N m y q b d i p=some r)/\Is [(2,vP D 0),(3,vP E 0),(5,vI p)] [(E,72, #[vS B,j,g,n,vI d]),(D,35,(Ab m C))] tt ll/\nn=i+1) (N+1) ?_ ?_
 ·exact⟨N,0,a,Ag Z Z,Z⟩
 clear a;rintro t l _ ⟨i,p,a,⟨⟨T,rfl⟩,rfl⟩,rfl⟩
 rcases i with _|i
 ·exact absurd a (by simp [Cj])
 rw [Cj] at a
 refine Aa λbg O=>Ad<|rm 3 [0] Z<|rL (W8 k) Z<|rz Z<|aD a Z (λP a=> ?_) (λP a=> ?_)
 ·refine Ac<|O _ _ ?_
  refine Aa λbh Q=>Ai<|Aa λbi R=>BO [(some 31,false)] (conG prog [(31,cV (FA N m ((y[p.toNat]!).1) ((y[p.toNat]!).2)) λbc=>vI bc)]) [] (by decide+kernel) (λhn=>AN)<|rm 4 [1,0] Z<|kC a λF a=>rI (W8 k) F Z<|rE (Ay k) F 0 Z<|kB a λbj G a=>rg _ (cF qJ) (λo w z_=>QN N m _ _ _ G z_.view C (Aa2.mono z_.ro_cell hm)) (Hq G)<|rz Z<|R _ _ ?_
  refine AZ Z<|aN a Z (λS a=> ?_) (λS a=> ?_)
  ·refine AZ Z ?_
   cases a
   exact aR eV1
  refine Ac<|Q _ _ ?_
  refine Ah<|rn 1 Z<|kC a λU a=>rX U Z<|rz Z<|fg _ (Sub.of (suK _ (suK _ suN))) ?_
  exact⟨i+1,by omega,i,(p+1),a,Ag Z Z,Z⟩
 refine AM<|bb _ _ ?_
 refine Ad<|rm 3 [1,0] Z<|kB a λbk V a=>gV _ (cF eL) (λo w z_=>MA N m q true _ V z_.view C (Aa2.mono z_.ro_cell hm) g (z_.r z))<|rz Z<|Aa λbl W=>AZ Z<|aN a Z (λX a=> ?_) (λX a=> ?_)
 ·refine AZ Z ?_
  cases a
  exact aR eV1
 refine Ac<|W _ _ ?_
 refine Aa λbm Y=>Ad<|rm 2 [0] Z<|rL (W8 h) Z<|rz Z<|aD a Z (λaa a=> ?_) (λaa a=> ?_)
 ·refine AZ Z ?_
  cases a
  exact aR eV1
 refine Ac<|Y _ _ ?_
 refine Aa λbn ab=>Aa λbo ac=>Ah<|rm 2 [0] Z<|rL (W8 h) Z<|rn 2 Z<|AS 5 55 [(2,vP D 0),(3,vP E 0)] vB (λb_=>DW N m q b d b_=some r) (λbp a T=> ?_) (λs=> ?_)
 ·unfold DW at a
  refine Aj<|ac _ _ ?_
  refine aB a Z (λad a=> ?_) (λad a=> ?_)
  ·refine AZ Z ?_
   cases a
   exact aR eV1
  refine Ac<|ab _ _ ?_
  refine Ad<|rm 3 [1,0] Z<|kB a λe ae a=>gV _ (cF eK) (λo w z_=>MB N m q _ ae z_.view C (Aa2.mono z_.ro_cell hm) g (z_.r z))<|rz Z<|Aa λbq af=>AZ Z<|Ai ?_
  refine AL (λtt ll nn=> ∃(f:Nat) (c:Int),(AP N m b d e f c=some r)/\Is [(2,vP D 0),(3,vP E 0),(8,vI e.1),(10,vI c)] [(E,72, #[vS B,j,g,n,vI d]),(D,35,(Ab m C))] tt ll/\nn=f+1) (N+1) ?_ ?_
  ·exact⟨N,0,a,Ag Z Z,Z⟩
  clear a;rintro t l _ ⟨f,c,a,⟨⟨T,rfl⟩,rfl⟩,rfl⟩
  rcases f with _|f
  ·exact absurd a (by simp [AP])
  rw [AP] at a
  refine Aa λbr ag=>Ad<|rm 3 [0] Z<|rL (W8 h) Z<|rz Z<|aD a Z (λah a=> ?_) (λah a=> ?_)
  ·refine Ac<|ag _ _ ?_
   refine Aa λbs ai=>Ai<|Ad<|rm 3 [0] Z<|kC a λH a=>rI (W8 h) H Z<|rE (Ay h) H 0 Z<|rA Z λM=>ry [0] Z ?_
   refine Aa λbt aj=>Aa λbu ak=>Ah<|rm 2 [0] Z<|kB a λbd al a=>rc _ (cF Qc) (Hl N _ _ _ al)<|rn 2 Z<|AS 5 84 [(2,vP D 0),(3,vP E 0),(8,vI e.1),(10,vI c),(11,vP M 0)] vB (λb_=>DV N m b e c (AP N m b d e f) b_=some r) (λbe a T=> ?_) (λs=> ?_)
   ·unfold DV at a
    refine rn 1 Z<|AS 6 91 [(2,vP D 0),(3,vP E 0),(8,vI e.1),(10,vI c),(11,vP M 0)] vB (λb_=>DU N m b e c (AP N m b d e f) b_=some r) (λbf a T=> ?_) (λs=> ?_)
    ·unfold DU at a
     refine rn 1 Z<|AS 6 98 [(2,vP D 0),(3,vP E 0),(8,vI e.1),(10,vI c),(11,vP M 0)] vB (λb_=>DT N m b c (AP N m b d e f) b_=some r) (λbv a T=> ?_) (λs=> ?_)
     ·unfold DT at a
      refine Aj<|ak _ _ ?_
      refine aB a Z (λam a=> ?_) (λam a=> ?_)
      ·refine AZ Z ?_
       cases a
       exact aR eV1
      refine Ac<|aj _ _ ?_
      refine Ad<|rm 4 [0,0] Z<|kB a λA an a=>rc _ (cF qI) (Sr N _ _ _ _ _ _ an)<|rn 3 Z<|rA Z λbw=>ry [0] Z<|Aa λbx ao=>Ad<|rm 2 [0] Z ?_
      refine rm 1 [1] Z<|r_W (vB (!((A.1==((b[c.toNat]!).1))&&(A.2.1==((b[c.toNat]!).2.1))))) Z (dC Z Z gk (Xa A.1 ((b[c.toNat]!).1) A.2.1 ((b[c.toNat]!).2.1)))<|Aj<|BS _ Z (λu=> ?_) (λu=> ?_)
      ·replace a:=ifn (Bool.eq_false_iff.1 (DG u)) a
       refine AZ Z ?_
       cases a
       exact aR eV1
      replace a:=ifp (DH u) a
      refine Ac<|ao _ _ ?_
      refine Ad<|rm 3 [3,1] Z<|kB a λbz ap a=>gV _ (cF eJ) (λo w z_=>Mb N m _ _ ap z_.view C (Aa2.mono z_.ro_cell hm))<|rz Z<|BS _ Z (λv=> ?_) (λv=> ?_)
      ·replace a:=ifn (Bool.eq_false_iff.1 (DG v)) a
       refine AZ Z ?_
       cases a
       exact aR eV1
      replace a:=ifp (DH v) a
      refine Ac<|ai _ _ ?_
      refine Ah<|rn 1 Z<|kC a λaq a=>rX aq Z<|rz Z<|fg _ (Sub.of (suC _ (suC _ (suK _ (suK _ suN))))) ?_
      exact⟨f+1,by omega,f,(c+1),a,Ag Z Z,Z⟩
     rcases I:bf with _|_
     ·replace a:=iB I a
      refine rn 2 Z<|r_y Z<|rm 4 [0] Z ?_
      exact s _ _ a Z Z
     replace a:=ifp I a
     refine rn 6 Z ?_
     exact s _ _ a Z Z
    rcases J:be with _|_
    ·replace a:=iB J a
     refine rn 2 Z<|r_y Z<|rm 4 [0] Z ?_
     exact s _ _ a Z Z
    replace a:=ifp J a
    refine rn 6 Z ?_
    exact s _ _ a Z Z
   rcases K:(!(bd))with _|_
   ·replace a:=ifp (DH K) a
    refine rn 1 Z<|r_y Z<|rm 1 [0] Z<|r_y Z<|kB a λca ar a=>rc _ (cF Qc) (Hl N _ _ _ ar)<|rn 2 Z ?_
    exact s _ _ a Z Z
   replace a:=ifn (Bool.eq_false_iff.1 (DG K)) a
   refine rn 5 Z ?_
   exact s _ _ a Z Z
  refine AM<|af _ _ ?_
  refine Aa λcb au=>Ad<|rm 3 [1,0] Z<|kB a λcc av a=>gV _ (cF eJ) (λo w z_=>Mb N m d _ av z_.view C (Aa2.mono z_.ro_cell hm))<|rz Z<|BS _ Z (λx=> ?_) (λx=> ?_)
  ·replace a:=ifn (Bool.eq_false_iff.1 (DG x)) a
   refine AZ Z ?_
   cases a
   exact aR eV1
  replace a:=ifp (DH x) a
  refine Ac<|au _ _ ?_
  refine AZ Z ?_
  cases a
  exact aR eV1
 rcases L:(decide ((b.length:Int)>0))with _|_
 ·replace a:=iF L a
  refine rn 5 Z ?_
  exact s _ _ a Z Z
 replace a:=iD L a
 refine rn 1 Z<|r_y Z<|rm 1 [0] Z<|r_y Z<|rL (W8 z) Z<|rn 2 Z ?_
 exact s _ _ a Z Z
def FG(b:Int)(a:Y3->Int->Y1 Int)(c:Y3):Y1 Int:=ck (R64 (b+1)) (a c (b+1))
def Ci(d:Y0 Int)(f:Int)(e:Y3)(b:Int)(a:Y3->Int->Y1 Int):Nat->Int->Y1 Int
  |0,_=>none
  |g+1,c=>if c<b then ck (0<=c/\c<(d.length:Int)) (if(d[c.toNat]!:Int)=d[b.toNat]! then some 6 else ck (R64 (c+1)) ((Ci d f e b a g) (c+1)))else if e=true then FG b a true else FG b a ((d[b.toNat]!:Int)==f)
def DR(N:Nat)(e:Y0 Int)(c:Int)(b:Y3)(f:Int)(a:Y3->Int->Y1 Int)(d:Y3):Y1 Int:=if d=true then some 5 else Ci e c b f a N 0
def DQ(a:Y3):Y1 Int:=if a=true then some 7 else some 0
def AH(N:Nat)(m:Ao)(a:Y0 Int)(d:Int)(f:Y0 (Int×W3))(e:Int):Nat->Y3->Int->Y1 Int
  |0,_,_=>none
  |h+1,c,b=>if b<(a.length:Int)then ck (0<=b/\b<(a.length:Int)) (if(a[b.toNat]!:Int)<0 then DR N a d c b (AH N m a d f e h) true else DR N a d c b (AH N m a d f e h) (decide ((a[b.toNat]!:Int)>=(m.2.2.2.2.2.1.length:Int))))else if(a.length:Int)=0 then some 5 else if c=true then(EX N m d f).bind λg=>if(g:Int)≠0 then some g else if e<1 then DQ true else DQ (decide (e>256))else some 16
def DS(N:Nat)(m:Ao)(b:Y0 (Int×Int×Int))(c:Y0 Int)(d:Int)(e:Y0 (Int×W3))(f:Int)(g:Y3):Y1 Int:=if g=true then some 10 else if(b.length:Int)=0 then some 5 else(Fz N m b false).bind λa=>if(a:Int)≠0 then some a else if(c.length:Int)>8 then some 2 else AH N m c d e f N false 0
def Ej(N:Nat)(m:Ao)(_:W2)(d:Int)(b:Y0 (Int×Int×Int))(f:Y0 Int)(a:Int)(c:Y0 (Int×W3))(e:Int):Y1 Int:=if d<0 then DS N m b f a c e true else DS N m b f a c e (decide (d>3))
theorem Px(N m y v z e f j i r)(a:Ej N m y v z e f j i=some r)(ro)(I:AC)(hm:Aa2 ro I m)(k)(F:Rd Ac9 ro k z)(q)(g:Rd Ca ro q e)(n)(aq:Rd Ac6 ro n j):Does prog 64 #[vA (Ab m I),vA #[vS y,vI v,k,q,vI f,n,vI i]] ro [] (pV (vI r)):=by
 unfold Ej at a
 refine Ak follows func64 Z 99 Z _ fz2 (λar=> ?_)
 refine Ad<|rA Z λG=>rA Z λH=>rz Z<|Aa λK4 au=>Aa λK5 av=>Ah<|rm 4 [0] Z<|AS 4 17 [(2,vP G 0),(3,vP H 0)] vB (λb_=>DS N m z e f j i b_=some r) (λb6 a T=> ?_) (λs=> ?_)
 ·unfold DS at a
  refine Aj<|av _ _ ?_
  refine aB a Z (λaw a=> ?_) (λaw a=> ?_)
  ·refine AZ Z ?_
   cases a
   exact aR eV1
  refine Ac<|au _ _ ?_
  refine Aa λK9 ax=>Ad<|rm 2 [0] Z<|rL (W8 F) Z<|rz Z<|aE a Z (λJ a=> ?_) (λJ a=> ?_)
  ·refine AZ Z ?_
   cases a
   exact aR eV1
  refine Ac<|ax _ _ ?_
  refine Ad<|rm 3 [1,0] Z<|kB a λbb K a=>gV _ (cF eL) (λo w z_=>MA N m z false _ K z_.view I (Aa2.mono z_.ro_cell hm) k (z_.r F))<|rz Z<|Aa λbc L=>AZ Z<|aN a Z (λM a=> ?_) (λM a=> ?_)
  ·refine AZ Z ?_
   cases a
   exact aR eV1
  refine Ac<|L _ _ ?_
  refine Aa λbd O=>Ad<|rm 2 [0] Z<|rL (W8 g) Z<|rz Z<|aD a Z (λP a=> ?_) (λP a=> ?_)
  ·refine AZ Z ?_
   cases a
   exact aR eV1
  refine Ac<|O _ _ ?_
  refine AZ Z<|Aa λbe Q=>AZ Z<|Ai<|AL (λtt ll nn=> ∃(h:Nat) (b:Y3) (d:Int),(AH N m e f j i h b d=some r)/\Is [(2,vP G 0),(3,vP H 0),(6,vB b),(7,vI d)] [(H,111, #[vS y,vI v,k,q,vI f,n,vI i]),(G,35,(Ab m I))] tt ll/\nn=h+1) (N+1) ?_ ?_
  ·exact⟨N,false,0,a,Ag Z Z,Z⟩
  clear a;rintro t l _ ⟨h,b,d,a,⟨⟨T,rfl⟩,rfl⟩,rfl⟩
  rcases h with _|h
  ·exact absurd a (by simp [AH])
  rw [AH] at a
  refine Aa λbf R=>Ad<|rm 3 [0] Z<|rL (W8 g) Z<|rz Z<|aD a Z (λS a=> ?_) (λS a=> ?_)
  ·refine Ac<|R _ _ ?_
   refine Aa λbg U=>Ai<|Ad<|rm 3 [0] Z<|kC a λA a=>rI (W8 g) A Z<|rE (Ay g) A 0 Z<|rz Z<|Aa λbh V=>Aa λbi W=>Ah<|rn 3 Z ?_
   refine AS 6 53 [(2,vP G 0),(3,vP H 0),(6,vB b),(7,vI d),(8,vI (e[d.toNat]!))] vB (λb_=>DR N e f b d (AH N m e f j i h) b_=some r) (λbj a T=> ?_) (λs=> ?_)
   ·unfold DR at a
    refine Aj<|W _ _ ?_
    refine aB a Z (λX a=> ?_) (λX a=> ?_)
    ·refine AZ Z ?_
     cases a
     exact aR eV1
    refine Ac<|V _ _ ?_
    refine Aa λbk Y=>AZ Z<|Ai<|AL (λtt ll nn=> ∃(p:Nat) (x:Int),(Ci e f b d (AH N m e f j i h) p x=some r)/\Is [(2,vP G 0),(3,vP H 0),(6,vB b),(7,vI d),(8,vI (e[d.toNat]!)),(9,vI x)] [(H,111, #[vS y,vI v,k,q,vI f,n,vI i]),(G,35,(Ab m I))] tt ll/\nn=p+1) (N+1) ?_ ?_
    ·exact⟨N,0,a,Ag Z Z,Z⟩
    clear a;rintro t l _ ⟨p,x,a,⟨⟨T,rfl⟩,rfl⟩,rfl⟩
    rcases p with _|p
    ·exact absurd a (by simp [Ci])
    rw [Ci] at a
    refine Aa λbl aa=>AZ Z<|aD a Z (λab a=> ?_) (λab a=> ?_)
    ·refine Ac<|aa _ _ ?_
     refine Aa λbm ac=>Ai<|Ad<|rm 3 [0] Z<|kC a λB a=>rI (W8 g) B Z<|rE (Ay g) B 0 Z<|rz Z<|aE a Z (λad a=> ?_) (λad a=> ?_)
     ·refine AZ Z ?_
      cases a
      exact aR eV1
     refine Ac<|ac _ _ ?_
     refine Ah<|rn 1 Z<|kC a λae a=>rX ae Z<|rz Z<|fg _ (Sub.of (suK _ (suK _ suN))) ?_
     exact⟨p+1,by omega,p,(x+1),a,Ag Z Z,Z⟩
    refine AM<|Y _ _ ?_
    refine Ah<|rn 2 Z<|AS 6 73 [(2,vP G 0),(3,vP H 0),(6,vB b),(7,vI d)] vB (λb_=>FG d (AH N m e f j i h) b_=some r) (λay a T=> ?_) (λs=> ?_)
    ·unfold FG at a
     refine rz Z<|U _ _ ?_
     refine Ah<|rn 1 Z<|kC a λaf a=>rX af Z<|rz Z<|fg _ (Sub.of (suK _ (suK _ suN))) ?_
     exact⟨h+1,by omega,h,ay,(d+1),a,Ag Z Z,Z⟩
    rcases c:b with _|_
    ·replace a:=iB c a
     refine rn 3 Z<|r_y Z<|rm 3 [0] Z ?_
     first|exact s _ _ a Z (by first|rfl|(simp only [c];done)|(simp only [c];rfl))|exact lx_cn _ _ (s _ _ a Z (by first|rfl|(simp only [c];done)|(simp only [c];rfl)))
    replace a:=ifp c a
    refine rn 6 Z ?_
    first|exact s _ _ a Z (by first|rfl|(simp only [c];done)|(simp only [c];rfl))|exact lx_cn _ _ (s _ _ a Z (by first|rfl|(simp only [c];done)|(simp only [c];rfl)))
   rcases C:(decide ((e[d.toNat]!:Int)<0))with _|_
   ·replace a:=iF C a
    refine rn 2 Z<|r_y Z<|rm 1 [1] Z<|r_y Z<|rL (W9 hm.2.2.2.2.1) Z<|rn 2 Z ?_
    exact s _ _ a Z Z
   replace a:=iD C a
   refine rn 6 Z ?_
   exact s _ _ a Z Z
  refine AM<|Q _ _ ?_
  refine Aa λbn ag=>Ad<|rm 2 [0] Z<|rL (W8 g) Z<|rz Z<|aE a Z (λah a=> ?_) (λah a=> ?_)
  ·refine AZ Z ?_
   cases a
   exact aR eV1
  refine Ac<|ag _ _ ?_
  refine Aa λbo ai=>AZ Z<|BS _ Z (λu=> ?_) (λu=> ?_)
  ·replace a:=ifn (Bool.eq_false_iff.1 (DG u)) a
   refine AZ Z ?_
   cases a
   exact aR eV1
  replace a:=ifp (DH u) a
  refine Ac<|ai _ _ ?_
  refine Ad<|rm 7 [1,0,0] Z<|kB a λaz aj a=>gV _ (cF eM) (λo w z_=>Mc N m f j _ aj z_.view I (Aa2.mono z_.ro_cell hm) n (z_.r aq))<|rz Z<|Aa λbp ak=>AZ Z<|aN a Z (λal a=> ?_) (λal a=> ?_)
  ·refine AZ Z<|CJ [(4,vI az)] Z (λT=> ?_)
   cases a
   exact aR eV1
  refine Ac<|ak _ _ ?_
  refine Aa λbq am=>Aa λbr an=>Ah<|rm 4 [0] Z<|AS 4 98 [] vB (λb_=>DQ b_=some r) (λbs a T=> ?_) (λs=> ?_)
  ·unfold DQ at a
   refine Aj<|an _ _ ?_
   refine aB a Z (λao a=> ?_) (λao a=> ?_)
   ·refine AZ Z ?_
    cases a
    exact aR eV1
   refine Ac<|am _ _ ?_
   refine AZ Z ?_
   cases a
   exact aR eV1
  rcases D:(decide (i<1))with _|_
  ·replace a:=iF D a
   refine rn 1 Z<|r_y Z<|rm 3 [0] Z ?_
   exact s _ _ a Z Z
  replace a:=iD D a
  refine rn 4 Z ?_
  exact s _ _ a Z Z
 rcases E:(decide (v<0))with _|_
 ·replace a:=iF E a
  refine rn 1 Z<|r_y Z<|rm 3 [0] Z ?_
  exact s _ _ a Z Z
 replace a:=iD E a
 refine rn 4 Z ?_
 exact s _ _ a Z Z
def DP(a:Y3):Y1 Int:=if a=true then some 7 else some 0
def BV(a:Int):Y1 Int:=if a<1 then DP true else DP (decide (a>8))
def DO(a:Y3):Y1 Int:=if a=true then some 9 else BV 1
def DN(b:Int)(a:Int->Y1 Int)(c:Y3):Y1 Int:=if c=true then some 9 else ck (R64 (b+1)) (a (b+1))
def Bx(N:Nat)(m:Ao)(i:Int):Nat->Int->Y1 Int
  |0,_=>none
  |b+1,a=>if a<(((m.2.2.2.2.2.1)[i.toNat]!.2.1).length:Int)then ck (0<=a/\a<(((m.2.2.2.2.2.1)[i.toNat]!.2.1).length:Int)) (if(((m.2.2.2.2.2.1)[i.toNat]!.2.1)[a.toNat]!:Int)<1 then DN a (Bx N m i b) true else ck (0<=a/\a<(((m.2.2.2.2.2.1)[i.toNat]!.2.1).length:Int)) (DN a (Bx N m i b) (decide ((((m.2.2.2.2.2.1)[i.toNat]!.2.1)[a.toNat]!:Int)>128))))else(Gz N m ((m.2.2.2.2.2.1)[i.toNat]!.2.2) (((m.2.2.2.2.2.1)[i.toNat]!.2.1).length:Int)).bind λc=>some c
def DM(m:Ao)(i:Int)(a:Y3):Y1 Int:=if a=true then some 9 else ck (0<=i/\i<(m.2.2.2.2.2.2.2.2.2.2.2.2.1.length:Int)) (BV (((m.2.2.2.2.2.2.2.2.2.2.2.2.1)[i.toNat]!).2.2))
def BQ(m:Ao)(i:Int)(a:Y3):Y1 Int:=if a=true then some 7 else BV (((m.2.2.2.2.2.2.2.2.2.2.2.2.2.2.1)[i.toNat]!).2.1)
def DL(m:Ao)(i:Int)(a:Y3):Y1 Int:=if a=true then ck (0<=i/\i<(m.2.2.2.2.2.2.2.2.2.2.2.2.2.2.1.length:Int)) (if(((m.2.2.2.2.2.2.2.2.2.2.2.2.2.2.1)[i.toNat]!).2.2.1:Int)<0 then BQ m i true else ck (0<=i/\i<(m.2.2.2.2.2.2.2.2.2.2.2.2.2.2.1.length:Int)) (if(((m.2.2.2.2.2.2.2.2.2.2.2.2.2.2.1)[i.toNat]!).2.2.1:Int)>65535 then BQ m i true else ck (0<=i/\i<(m.2.2.2.2.2.2.2.2.2.2.2.2.2.2.1.length:Int)) (if(((m.2.2.2.2.2.2.2.2.2.2.2.2.2.2.1)[i.toNat]!).2.2.2:Int)<1 then BQ m i true else ck (0<=i/\i<(m.2.2.2.2.2.2.2.2.2.2.2.2.2.2.1.length:Int)) (BQ m i (decide ((((m.2.2.2.2.2.2.2.2.2.2.2.2.2.2.1)[i.toNat]!).2.2.2:Int)>1048576))))))else BQ m i false
def FS(N:Nat)(m:Ao)(a i:Int):Y1 Int:=if a=3 then ck (0<=i/\i<(m.2.2.2.1.length:Int)) (if(((m.2.2.2.1)[i.toNat]!).2:Int)<1 then DO true else ck (0<=i/\i<(m.2.2.2.1.length:Int)) (DO (decide ((((m.2.2.2.1)[i.toNat]!).2:Int)>128))))else if a=4 then ck (0<=i/\i<(m.2.2.2.2.1.length:Int)) ((Ek N m ((m.2.2.2.2.1)[i.toNat]!.1) ((m.2.2.2.2.1)[i.toNat]!.2.1) ((m.2.2.2.2.1)[i.toNat]!.2.2.1) ((m.2.2.2.2.1)[i.toNat]!.2.2.2.1) ((m.2.2.2.2.1)[i.toNat]!.2.2.2.2)).bind λc=>some c)else if a=5 then ck (0<=i/\i<(m.2.2.2.2.2.1.length:Int)) (if((((m.2.2.2.2.2.1)[i.toNat]!.2.1).length:Int):Int)>8 then some 2 else Bx N m i N 0)else if a=6 then ck (0<=i/\i<(m.2.2.2.2.2.2.1.length:Int)) ((Ej N m ((m.2.2.2.2.2.2.1)[i.toNat]!.1) ((m.2.2.2.2.2.2.1)[i.toNat]!.2.1) ((m.2.2.2.2.2.2.1)[i.toNat]!.2.2.1) ((m.2.2.2.2.2.2.1)[i.toNat]!.2.2.2.1) ((m.2.2.2.2.2.2.1)[i.toNat]!.2.2.2.2.1) ((m.2.2.2.2.2.2.1)[i.toNat]!.2.2.2.2.2.1) ((m.2.2.2.2.2.2.1)[i.toNat]!.2.2.2.2.2.2)).bind λb=>some b)else if a=12 then ck (0<=i/\i<(m.2.2.2.2.2.2.2.2.2.2.2.2.1.length:Int)) (if(((m.2.2.2.2.2.2.2.2.2.2.2.2.1)[i.toNat]!).2.1:Int)<1 then DM m i true else ck (0<=i/\i<(m.2.2.2.2.2.2.2.2.2.2.2.2.1.length:Int)) (DM m i (decide ((((m.2.2.2.2.2.2.2.2.2.2.2.2.1)[i.toNat]!).2.1:Int)>128))))else if a=13 then ck (0<=i/\i<(m.2.2.2.2.2.2.2.2.2.2.2.2.2.1.length:Int)) (BV (((m.2.2.2.2.2.2.2.2.2.2.2.2.2.1)[i.toNat]!).2))else if a=14 then ck (0<=i/\i<(m.2.2.2.2.2.2.2.2.2.2.2.2.2.2.1.length:Int)) (if(((m.2.2.2.2.2.2.2.2.2.2.2.2.2.2.1)[i.toNat]!).2.1:Int)>=1 then DL m i (decide ((((m.2.2.2.2.2.2.2.2.2.2.2.2.2.2.1)[i.toNat]!).2.1:Int)<=8))else DL m i false)else BV 1
theorem Pw(N m W i r)(a:FS N m W i=some r)(ro)(mv:AC)(b:Aa2 ro mv m):Does prog 29 #[vA (Ab m mv),vI W,vI i] ro [] (pV (vI r)):=by
 unfold FS at a
 refine Ak follows func29 Z 174 Z _ fz3 (λbp=> ?_)
 refine Ad<|rA Z λX=>rz Z<|AZ Z<|Cs (λtt ll=> ∃(e:Int),(BV e=some r)/\Is [(7,vI e)] [] tt ll) ?_ ?_
 ·refine AZ Z<|Ai<|AZ Z<|aE a Z (λai a=> ?_) (λai a=> ?_)
  ·refine Aa λbv aj=>Ah<|rm 3 [0] Z<|kC a λq a=>rI (W8 b.2.2.1) q Z<|rF (W8 b.2.2.1) (Bp q) Z<|rE (Ay b.2.2.1) q 1 Z<|rn 2 Z<|AS 8 28 [(7,vI 1)] vB (λb_=>DO b_=some r) (λbw a T=> ?_) (λd=> ?_)
   ·unfold DO at a
    refine Aj<|aj _ _ ?_
    refine aB a Z (λak a=> ?_) (λak a=> ?_)
    ·refine AZ Z ?_
     cases a
     exact aR eV1
    refine Ac<|fg _ (Sub.of (suC _ suN)) ?_
    exact⟨1,a,Ag Z Z⟩
   rcases I:(decide ((((m.2.2.2.1)[i.toNat]!).2:Int)<1))with _|_
   ·replace a:=iF I a
    refine rn 1 Z<|r_y Z<|rm 2 [0] Z<|r_y Z<|kC a λs a=>rI (W8 b.2.2.1) s Z<|r_y Z<|rF (W8 b.2.2.1) (Bp s) Z<|r_y Z<|rE (Ay b.2.2.1) s 1 Z<|rn 2 Z ?_
    exact d _ _ a Z Z
   replace a:=iD I a
   refine rn 8 Z ?_
   exact d _ _ a Z Z
  refine AZ Z<|aE a Z (λal a=> ?_) (λal a=> ?_)
  ·refine Aa λbx am=>BO [(some 37,false)] (conG prog [(37,cV (Ek N m ((m.2.2.2.2.1)[i.toNat]!.1) ((m.2.2.2.2.1)[i.toNat]!.2.1) ((m.2.2.2.2.1)[i.toNat]!.2.2.1) ((m.2.2.2.2.1)[i.toNat]!.2.2.2.1) ((m.2.2.2.2.1)[i.toNat]!.2.2.2.2)) λY=>vI Y)]) [] (by decide+kernel) (λhn=>AN)<|rm 4 [0,0] Z<|kC a λJ a=> ?_
   obtain⟨_,⟨aa,ab,ac,an,ao,ap,rfl⟩,hat31⟩:=RdN.at (E:=Ad8) b.2.2.2.1 (Cp J)
   refine rI (W9 b.2.2.2.1) J Z<|Mk (vA #[vS ((m.2.2.2.2.1)[i.toNat]!.1),aa,ab,ac,vI ((m.2.2.2.2.1)[i.toNat]!.2.2.2.2)]) (vs:=[vS ((m.2.2.2.2.1)[i.toNat]!.1),aa,ab,ac,vI ((m.2.2.2.2.1)[i.toNat]!.2.2.2.2)]) (i.toNat*5) 0 Z Z (λo w z_=>At.mono z_.ro_cell hat31) Z<|kB a λca K a=>rg _ (cF tV) (λo w z_=>Py N m _ _ _ _ _ _ K z_.view mv (Aa2.mono z_.ro_cell b) aa (z_.r an) ab (z_.r ao) ac (z_.r ap)) (Hq K)<|rz Z<|am _ _ ?_
   cases a
   exact aR eV1
  refine AZ Z<|aE a Z (λaq a=> ?_) (λaq a=> ?_)
  ·refine Ad<|rm 3 [0] Z<|kC a λL a=> ?_
   obtain⟨_,⟨u,p,c,M,rfl⟩,hat42⟩:=RdN.at (E:=Ac7) b.2.2.2.2.1 (Cp L)
   refine rI (W9 b.2.2.2.2.1) L Z<|Mk (vA #[vS ((m.2.2.2.2.2.1)[i.toNat]!.1),u,p]) (vs:=[vS ((m.2.2.2.2.2.1)[i.toNat]!.1),u,p]) (i.toNat*3) 0 Z Z (λo w z_=>At.mono z_.ro_cell hat42) Z<|rA Z λH=>r_s [(H,120, #[vS ((m.2.2.2.2.2.1)[i.toNat]!.1),u,p]),(X,35,(Ab m mv))] 0 _ _ _ _ _ (#[vS ((m.2.2.2.2.2.1)[i.toNat]!.1),u,p]) Z Z Z Z (.ofS Z Z (Ae Z (sR c (sR M AD)))) Z Z<|Aj<|Aa λcb ar=>Ad<|rm 2 [0] Z<|rL (W8 c) Z<|rz Z ?_
   refine aD a Z (λau a=> ?_) (λau a=> ?_)
   ·refine AZ Z ?_
    cases a
    exact aR eV1
   refine Ac<|ar _ _ ?_
   refine Aa λcc av=>AZ Z<|Ai<|AL (λtt ll nn=> ∃(f:Nat) (g:Int),(Bx N m i f g=some r)/\Is [(3,vP X 0),(8,vP H 0),(9,vI g)] [(H,120, #[vS ((m.2.2.2.2.2.1)[i.toNat]!.1),u,p]),(X,35,(Ab m mv))] tt ll/\nn=f+1) (N+1) ?_ ?_
   ·exact⟨N,0,a,Ag Z Z,Z⟩
   clear a;rintro t l _ ⟨f,g,a,⟨⟨T,rfl⟩,rfl⟩,rfl⟩
   rcases f with _|f
   ·exact absurd a (by simp [Bx])
   rw [Bx] at a
   refine Aa λcd aw=>Ad<|rm 3 [0] Z<|rL (W8 c) Z<|rz Z<|aD a Z (λax a=> ?_) (λax a=> ?_)
   ·refine Ac<|aw _ _ ?_
    refine Aa λce ay=>Ai<|Aa λcf az=>Ah<|rm 3 [0] Z<|kC a λO a=>rI (W8 c) O Z<|rE (Ay c) O 0 Z<|rn 2 Z<|AS 7 69 [(3,vP X 0),(8,vP H 0),(9,vI g)] vB (λb_=>DN g (Bx N m i f) b_=some r) (λcg a T=> ?_) (λd=> ?_)
    ·unfold DN at a
     refine Aj<|az _ _ ?_
     refine aB a Z (λba a=> ?_) (λba a=> ?_)
     ·refine AZ Z ?_
      cases a
      exact aR eV1
     refine Ac<|ay _ _ ?_
     refine Ah<|rn 1 Z<|kC a λbb a=>rX bb Z<|rz Z<|fg _ (Sub.of (suK _ (suK _ suN))) ?_
     exact⟨f+1,by omega,f,(g+1),a,Ag Z Z,Z⟩
    rcases P:(decide ((((m.2.2.2.2.2.1)[i.toNat]!.2.1)[g.toNat]!:Int)<1))with _|_
    ·replace a:=iF P a
     refine rn 1 Z<|r_y Z<|rm 2 [0] Z<|r_y Z<|kC a λQ a=>rI (W8 c) Q Z<|r_y Z<|rE (Ay c) Q 0 Z<|rn 2 Z ?_
     exact d _ _ a Z Z
    replace a:=iD P a
    refine rn 7 Z ?_
    exact d _ _ a Z Z
   refine AM<|av _ _ ?_
   refine Ad<|rm 5 [1,0,0] Z<|rL (W8 c) Z<|kB a λch bc a=>gV _ (cF jg) (λo w z_=>Mf N m _ _ _ bc z_.view mv (Aa2.mono z_.ro_cell b) p (z_.r M))<|rz Z ?_
   cases a
   exact aR eV1
  refine AZ Z<|aE a Z (λbd a=> ?_) (λbd a=> ?_)
  ·refine Aa λci be=>BO [(some 85,false)] (conG prog [(85,cV (Ej N m ((m.2.2.2.2.2.2.1)[i.toNat]!.1) ((m.2.2.2.2.2.2.1)[i.toNat]!.2.1) ((m.2.2.2.2.2.2.1)[i.toNat]!.2.2.1) ((m.2.2.2.2.2.2.1)[i.toNat]!.2.2.2.1) ((m.2.2.2.2.2.2.1)[i.toNat]!.2.2.2.2.1) ((m.2.2.2.2.2.2.1)[i.toNat]!.2.2.2.2.2.1) ((m.2.2.2.2.2.2.1)[i.toNat]!.2.2.2.2.2.2)) λY=>vI Y)]) [] (by decide+kernel) (λhn=>AN)<|rm 4 [0,0] Z<|kC a λR a=> ?_
   obtain⟨_,⟨ad,ae,af,bf,bg,bh,rfl⟩,hat76⟩:=RdN.at (E:=Ad4) b.2.2.2.2.2.1 (Cp R)
   refine rI (W9 b.2.2.2.2.2.1) R Z<|Mk (vA #[vS ((m.2.2.2.2.2.2.1)[i.toNat]!.1),vI ((m.2.2.2.2.2.2.1)[i.toNat]!.2.1),ad,ae,vI ((m.2.2.2.2.2.2.1)[i.toNat]!.2.2.2.2.1),af,vI ((m.2.2.2.2.2.2.1)[i.toNat]!.2.2.2.2.2.2)]) (vs:=[vS ((m.2.2.2.2.2.2.1)[i.toNat]!.1),vI ((m.2.2.2.2.2.2.1)[i.toNat]!.2.1),ad,ae,vI ((m.2.2.2.2.2.2.1)[i.toNat]!.2.2.2.2.1),af,vI ((m.2.2.2.2.2.2.1)[i.toNat]!.2.2.2.2.2.2)]) (i.toNat*7) 0 Z Z (λo w z_=>At.mono z_.ro_cell hat76) Z<|kB a λcj S a=>rg _ (cF tU) (λo w z_=>Px N m _ _ _ _ _ _ _ _ S z_.view mv (Aa2.mono z_.ro_cell b) ad (z_.r bf) ae (z_.r bg) af (z_.r bh)) (Hq S)<|rz Z<|be _ _ ?_
   cases a
   exact aR eV1
  refine AZ Z<|aE a Z (λbi a=> ?_) (λbi a=> ?_)
  ·refine Aa λck bj=>Aa λcl bk=>Ah<|rm 3 [0] Z<|kC a λv a=>rI (W8 b.2.2.2.2.2.2.2.2.2.2.2.1) v Z<|rF (W8 b.2.2.2.2.2.2.2.2.2.2.2.1) (Bp v) Z<|rE (Ay b.2.2.2.2.2.2.2.2.2.2.2.1) v 1 Z<|rn 2 Z ?_
   refine AS 8 103 [(2,vI i),(3,vP X 0)] vB (λb_=>DM m i b_=some r) (λcm a T=> ?_) (λd=> ?_)
   ·unfold DM at a
    refine Aj<|bk _ _ ?_
    refine aB a Z (λbl a=> ?_) (λbl a=> ?_)
    ·refine AZ Z ?_
     cases a
     exact aR eV1
    refine Ac<|bj _ _ ?_
    refine Ah<|rm 3 [0] Z<|kC a λx a=>rI (W8 b.2.2.2.2.2.2.2.2.2.2.2.1) x Z<|rF (W8 b.2.2.2.2.2.2.2.2.2.2.2.1) (Bp x) Z<|rE (Ay b.2.2.2.2.2.2.2.2.2.2.2.1) x 2 Z<|rz Z<|fg _ (Sub.of (suC _ suN)) ?_
    exact⟨(((D8 m).2.2.2.2.1)[i.toNat]!).2.2,a,Ag Z Z⟩
   rcases U:(decide (((((D8 m).2.2.2.2.1)[i.toNat]!).2.1:Int)<1))with _|_
   ·replace a:=iF U a
    refine rn 1 Z<|r_y Z<|rm 2 [0] Z<|r_y Z<|kC a λy a=>rI (W8 b.2.2.2.2.2.2.2.2.2.2.2.1) y Z<|r_y Z<|rF (W8 b.2.2.2.2.2.2.2.2.2.2.2.1) (Bp y) Z<|r_y Z<|rE (Ay b.2.2.2.2.2.2.2.2.2.2.2.1) y 1 Z<|rn 2 Z ?_
    exact d _ _ a Z Z
   replace a:=iD U a
   refine rn 8 Z ?_
   exact d _ _ a Z Z
  refine AZ Z<|aE a Z (λbm a=> ?_) (λbm a=> ?_)
  ·refine Ah<|rm 3 [0] Z<|kC a λz a=>rI (W8 b.2.2.2.2.2.2.2.2.2.2.2.2.1) z Z<|rF (W8 b.2.2.2.2.2.2.2.2.2.2.2.2.1) (Bp z) Z<|rE (Ay b.2.2.2.2.2.2.2.2.2.2.2.2.1) z 1 Z<|rz Z<|fg _ (Sub.of (suC _ suN)) ?_
   exact⟨(((D8 m).2.2.2.2.2.1)[i.toNat]!).2,a,Ag Z Z⟩
  refine AZ Z<|aE a Z (λbn a=> ?_) (λbn a=> ?_)
  ·refine Ad<|rm 3 [0] Z<|kC a λA a=>rI (W8 b.2.2.2.2.2.2.2.2.2.2.2.2.2) A Z<|rF (W8 b.2.2.2.2.2.2.2.2.2.2.2.2.2) (Bp A) Z<|rE (Ay b.2.2.2.2.2.2.2.2.2.2.2.2.2) A 1 Z<|rz Z<|Aa λcn bo=>Ah ?_
   refine rn 3 Z<|AS 3 131 [(2,vI i),(3,vP X 0),(7,vI ((((D8 m).2.2.2.2.2.2.1)[i.toNat]!).2.1))] vB (λb_=>DL m i b_=some r) (λbq a T=> ?_) (λd=> ?_)
   ·unfold DL at a
    refine rn 1 Z<|AS 35 167 [(7,vI ((((D8 m).2.2.2.2.2.2.1)[i.toNat]!).2.1))] vB (λb_=>BQ m i b_=some r) (λco a T=> ?_) (λd=> ?_)
    ·unfold BQ at a
     refine Aj<|bo _ _ ?_
     refine aB a Z (λag a=> ?_) (λag a=> ?_)
     ·refine AZ Z ?_
      cases a
      exact aR eV1
     refine Ac<|fg _ (Sub.of (suC _ suN)) ?_
     exact⟨(((D8 m).2.2.2.2.2.2.1)[i.toNat]!).2.1,a,Ag Z Z⟩
    rcases B:bq with _|_
    ·replace a:=iB B a
     refine rn 8 Z<|Ct Z Z<|Ct Z Z<|Ct Z Z<|Ct Z Z<|Ct Z Z<|Ct Z Z<|Ct Z Z<|rn 2 Z<|Ct Z Z<|Ct Z Z<|Ct Z Z<|Ct Z Z<|Ct Z Z<|Ct Z Z<|Ct Z Z<|rn 2 Z<|Ct Z Z<|Ct Z Z<|Ct Z Z<|Ct Z Z<|Ct Z Z<|Ct Z Z<|Ct Z Z<|rn 2 Z ?_
     exact d _ _ a Z Z
    replace a:=ifp B a
    refine rn 1 Z<|r_y Z<|rm 2 [0] Z<|r_y Z<|kC a λh a=>rI (W8 b.2.2.2.2.2.2.2.2.2.2.2.2.2) h Z<|r_y Z<|rF (W8 b.2.2.2.2.2.2.2.2.2.2.2.2.2) (Bp h) Z<|r_y Z<|rE (Ay b.2.2.2.2.2.2.2.2.2.2.2.2.2) h 2 Z ?_
    refine rn 2 Z ?_
    rcases C:(decide (((((D8 m).2.2.2.2.2.2.1)[i.toNat]!).2.2.1:Int)<0))with _|_
    ·replace a:=iF C a
     refine rn 1 Z<|r_y Z<|rm 2 [0] Z<|r_y Z<|kC a λj a=>rI (W8 b.2.2.2.2.2.2.2.2.2.2.2.2.2) j Z<|r_y Z<|rF (W8 b.2.2.2.2.2.2.2.2.2.2.2.2.2) (Bp j) Z<|r_y Z<|rE (Ay b.2.2.2.2.2.2.2.2.2.2.2.2.2) j 2 Z ?_
     refine rn 3 Z<|fJ [(2,vI i),(3,vP X 0),(7,vI ((((D8 m).2.2.2.2.2.2.1)[i.toNat]!).2.1)),(132,vB true),(149,vB (decide (((((D8 m).2.2.2.2.2.2.1)[i.toNat]!).2.2.1:Int)>65535)))] Z (λT=> ?_)
     rcases D:(decide (((((D8 m).2.2.2.2.2.2.1)[i.toNat]!).2.2.1:Int)>65535))with _|_
     ·replace a:=iF D a
      refine rn 1 Z<|r_y Z<|rm 2 [0] Z<|r_y Z<|kC a λk a=>rI (W8 b.2.2.2.2.2.2.2.2.2.2.2.2.2) k Z<|r_y Z<|rF (W8 b.2.2.2.2.2.2.2.2.2.2.2.2.2) (Bp k) Z<|r_y Z<|rE (Ay b.2.2.2.2.2.2.2.2.2.2.2.2.2) k 3 Z ?_
      refine rn 3 Z ?_
      rcases F:(decide (((((D8 m).2.2.2.2.2.2.1)[i.toNat]!).2.2.2:Int)<1))with _|_
      ·replace a:=iF F a
       refine rn 1 Z<|r_y Z<|rm 2 [0] Z<|r_y Z<|kC a λn a=>rI (W8 b.2.2.2.2.2.2.2.2.2.2.2.2.2) n Z<|r_y Z<|rF (W8 b.2.2.2.2.2.2.2.2.2.2.2.2.2) (Bp n) Z<|r_y Z<|rE (Ay b.2.2.2.2.2.2.2.2.2.2.2.2.2) n 3 Z ?_
       refine rn 3 Z ?_
       exact d _ _ a Z Z
      replace a:=iD F a
      refine rn 9 Z ?_
      exact d _ _ a Z Z
     replace a:=iD D a
     refine rn 18 Z ?_
     exact d _ _ a Z Z
    replace a:=iD C a
    refine rn 27 Z ?_
    exact d _ _ a Z Z
   rcases G:(decide (((((D8 m).2.2.2.2.2.2.1)[i.toNat]!).2.1:Int)>=1))with _|_
   ·replace a:=iF G a
    refine rn 3 Z ?_
    exact d _ _ a Z Z
   replace a:=iD G a
   refine rn 3 Z ?_
   exact d _ _ a Z Z
  refine Ac<|fg _ (Sub.of (suC _ suN)) ?_
  exact⟨1,a,Ag Z Z⟩
 clear a;rintro t l ⟨e,a,⟨T,rfl⟩,rfl⟩
 unfold BV at a
 refine Aa λK4 br=>Aa λK5 bs=>Ah<|rn 3 Z<|AS 3 173 [] vB (λb_=>DP b_=some r) (λb6 a T=> ?_) (λd=> ?_)
 ·unfold DP at a
  refine Aj<|bs _ _ ?_
  refine aB a Z (λbt a=> ?_) (λbt a=> ?_)
  ·refine AZ Z ?_
   cases a
   exact aR eV1
  refine Ac<|br _ _ ?_
  refine AZ Z ?_
  cases a
  exact aR eV1
 rcases V:(decide (e<1))with _|_
 ·replace a:=iF V a
  refine rn 3 Z ?_
  exact d _ _ a Z Z
 replace a:=iD V a
 refine rn 3 Z ?_
 exact d _ _ a Z Z
def El(a:Y3):Y1 (Int×Int):=if a=true then some (0,7)else some (0,0)
def Em(m:Ao)(a:Y3):Y1 (Int×Int):=if a=true then El true else El (decide (m.2.2.2.2.2.2.2.2.2.2.2.2.2.2.2.2.2>4))
def Eo(m:Ao)(a:Y3):Y1 (Int×Int):=if a=true then Em m true else Em m (decide (m.2.2.2.2.2.2.2.2.2.2.2.2.2.2.2.2.2<0))
def Ep(m:Ao)(a:Y3):Y1 (Int×Int):=if a=true then Eo m true else Eo m (decide (m.2.2.2.2.2.2.2.2.2.2.2.2.2.2.2.2.1>32))
def Er(m:Ao)(a:Y3):Y1 (Int×Int):=if a=true then Ep m true else Ep m (decide (m.2.2.2.2.2.2.2.2.2.2.2.2.2.2.2.2.1<1))
def Cv(m:Ao)(b:Int)(a:Int->Y1 (Int×Int)):Nat->Int->Y1 (Int×Int)
  |0,_=>none
  |d+1,c=>if c<b then ck (0<=c/\c<(m.2.2.2.2.2.2.2.2.2.1.length:Int)) (ck (0<=b/\b<(m.2.2.2.2.2.2.2.2.2.1.length:Int)) (if((m.2.2.2.2.2.2.2.2.2.1)[c.toNat]!:Int)=(m.2.2.2.2.2.2.2.2.2.1)[b.toNat]! then some (b,6)else ck (R64 (c+1)) ((Cv m b a d) (c+1))))else ck (R64 (b+1)) (a (b+1))
def BP(N:Nat)(m:Ao):Nat->Int->Y1 (Int×Int)
  |0,_=>none
  |b+1,a=>if a<(m.2.2.2.2.2.2.2.2.2.1.length:Int)then ck (0<=a/\a<(m.2.2.2.2.2.2.2.2.2.1.length:Int)) ((Bt N m ((m.2.2.2.2.2.2.2.2.2.1)[a.toNat]!)).bind λc=>if c.2.2.2.2.2.2=true then Cv m a (BP N m b) N 0 else some (a,5))else some (0,0)
def CK(b:Int)(a:Int->Y1 (Int×Int))(c:Int):Y1 (Int×Int):=if(c:Int)≠0 then some (b,c)else ck (R64 (b+1)) (a (b+1))
def CL(N:Nat)(m:Ao)(p b:Int)(a:Int->Y1 (Int×Int))(c:Int):Y1 (Int×Int):=if c=0 then(FS N m p b).bind λd=>CK b a d else CK b a c
def DY(N:Nat)(m:Ao)(p:Int)(d:Y0 (W2))(b:Int)(a:Int->Y1 (Int×Int))(c:Int):Y1 (Int×Int):=if c=0 then ck (R64 (b+1)) (ck (0<=(b+1)/\(b+1)<=(d.length:Int)) ((Hv N (((d).take (((b+1)).toNat)).drop 0)).bind λe=>CL N m p b a e))else CL N m p b a c
def AW(N:Nat)(m:Ao)(p:Int)(b:Y0 (W2)):Nat->Int->Y1 (Int×Int)
  |0,_=>none
  |c+1,a=>if a<(b.length:Int)then if p=1 then ck (0<=a/\a<(m.2.1.length:Int)) ((GZ N ((m.2.1)[a.toNat]!.1) ((m.2.1)[a.toNat]!.2.1) ((m.2.1)[a.toNat]!.2.2.1) ((m.2.1)[a.toNat]!.2.2.2.1) ((m.2.1)[a.toNat]!.2.2.2.2.1) ((m.2.1)[a.toNat]!.2.2.2.2.2)).bind λd=>DY N m p b a (AW N m p b c) d)else DY N m p b a (AW N m p b c) 0 else some (0,0)
def DZ(N:Nat)(m:Ao)(p:Int)(a:Y0 (W2))(b:Y3):Y1 (Int×Int):=if b=true then some (0,5)else if(a.length:Int)>([0,16,0,16,16,32,8,0,0,0,0,0,8,8,8])[p.toNat]! then some (0,2)else AW N m p a N 0
def Gx(N:Nat)(m:Ao)(p:Int):Y1 (Int×Int):=if p=0 then(Hk N m.1).bind λg=>if g=true then if m.2.2.2.2.2.2.2.2.2.2.2.2.2.2.2.1<1 then Er m true else Er m (decide (m.2.2.2.2.2.2.2.2.2.2.2.2.2.2.2.1>64))else some (0,4)else if p=2 then(Hw N m.2.1 m.2.2.1).bind λf=>some (0,f)else if p=7 then(Es N m m.2.2.2.2.2.2.2.1).bind λb=>some (b.1,b.2)else if p=8 then(Es N m m.2.2.2.2.2.2.2.2.1).bind λe=>some (e.1,e.2)else if p=9 then if(m.2.2.2.2.2.2.2.2.2.1.length:Int)>32 then some (0,2)else BP N m N 0 else if p=10 then(ER N m m.2.2.2.2.2.2.2.2.2.2.1).bind λd=>some (d.1,d.2)else if p=11 then(ER N m m.2.2.2.2.2.2.2.2.2.2.2.1).bind λc=>some (c.1,c.2)else(rTm N m p).bind λa=>ck (0<=p/\p<(([0,16,0,16,16,32,8,0,0,0,0,0,8,8,8]).length:Int)) (if p=4 then DZ N m p a (((a.length:Int)==0))else DZ N m p a false)
theorem Qf(N m p r)(a:Gx N m p=some r)(Y)(d:AC)(i:Aa2 Y d m):Does prog 15 #[vA (Ab m d),vI p] Y [] (pV (vT #[vI r.1,vI r.2])):=by
 unfold Gx at a
 refine Ak follows func15 Z 180 Z _ fz2 (λch=> ?_)
 refine Ad<|rA Z λf=>rz Z<|Aa λK3 ci=>AZ Z<|Ai<|AZ Z<|aE a Z (λcj a=> ?_) (λcj a=> ?_)
 ·refine Aa λK7 ck=>Ad<|rm 2 [0] Z<|kB a λr9 aw a=>rc _ (cF jn) (NX N m.1 _ aw)<|rz Z<|BS _ Z (λz=> ?_) (λz=> ?_)
  ·replace a:=ifn (Bool.eq_false_iff.1 (DG z)) a
   refine AZ Z ?_
   cases a
   exact aR eV2
  replace a:=ifp (DH z) a
  refine Ac<|ck _ _ ?_
  refine Aa λcz ax=>Aa λda ay=>Ah<|rm 4 [0] Z<|AS 4 28 [(2,vP f 0)] vB (λb_=>Er m b_=some r) (λcl a T=> ?_) (λn=> ?_)
  ·unfold Er at a
   refine rn 1 Z<|AS 4 33 [(2,vP f 0)] vB (λb_=>Ep m b_=some r) (λcm a T=> ?_) (λn=> ?_)
   ·unfold Ep at a
    refine rn 1 Z<|AS 4 38 [(2,vP f 0)] vB (λb_=>Eo m b_=some r) (λcn a T=> ?_) (λn=> ?_)
    ·unfold Eo at a
     refine rn 1 Z<|AS 4 43 [(2,vP f 0)] vB (λb_=>Em m b_=some r) (λco a T=> ?_) (λn=> ?_)
     ·unfold Em at a
      refine rn 1 Z<|AS 4 48 [] vB (λb_=>El b_=some r) (λdb a T=> ?_) (λn=> ?_)
      ·unfold El at a
       refine Aj<|ay _ _ ?_
       refine aB a Z (λaz a=> ?_) (λaz a=> ?_)
       ·refine AZ Z ?_
        cases a
        exact aR eV2
       refine Ac<|ax _ _ ?_
       refine AZ Z ?_
       cases a
       exact aR eV2
      rcases L:co with _|_
      ·replace a:=iB L a
       refine rn 1 Z<|r_y Z<|rm 3 [0] Z ?_
       exact n _ _ a Z Z
      replace a:=ifp L a
      refine rn 4 Z ?_
      exact n _ _ a Z Z
     rcases M:cn with _|_
     ·replace a:=iB M a
      refine rn 1 Z<|r_y Z<|rm 3 [0] Z ?_
      exact n _ _ a Z Z
     replace a:=ifp M a
     refine rn 4 Z ?_
     exact n _ _ a Z Z
    rcases O:cm with _|_
    ·replace a:=iB O a
     refine rn 1 Z<|r_y Z<|rm 3 [0] Z ?_
     exact n _ _ a Z Z
    replace a:=ifp O a
    refine rn 4 Z ?_
    exact n _ _ a Z Z
   rcases P:cl with _|_
   ·replace a:=iB P a
    refine rn 1 Z<|r_y Z<|rm 3 [0] Z ?_
    exact n _ _ a Z Z
   replace a:=ifp P a
   refine rn 4 Z ?_
   exact n _ _ a Z Z
  rcases Q:(decide ((D8 m).2.2.2.2.2.2.2.1<1))with _|_
  ·replace a:=iF Q a
   refine rn 1 Z<|r_y Z<|rm 3 [0] Z ?_
   exact n _ _ a Z Z
  replace a:=iD Q a
  refine rn 4 Z ?_
  exact n _ _ a Z Z
 refine AZ Z<|aE a Z (λba a=> ?_) (λba a=> ?_)
 ·refine Ad<|rm 4 [0,0] Z<|kB a λdc bb a=>gV _ (cF uy) (λo w z_=>QZ N m.2.1 m.2.2.1 _ bb z_.view d.1 (V1 z_.ro_cell i.1) d.2.1 ((Ay i.2.1) o w z_))<|rz Z ?_
  cases a
  exact aR eV2
 refine AZ Z<|aE a Z (λbc a=> ?_) (λbc a=> ?_)
 ·refine Ad<|rm 3 [0,0] Z<|kB a λdd bd a=>gV _ (cF jm) (λo w z_=>LS N m _ _ bd z_.view d (Aa2.mono z_.ro_cell i) d.2.2.2.2.2.2.1 (V1 z_.ro_cell i.2.2.2.2.2.2.1))<|rz Z ?_
  cases a
  exact aR eV2
 refine AZ Z<|aE a Z (λbe a=> ?_) (λbe a=> ?_)
 ·refine Ad<|rm 3 [0,0] Z<|kB a λde bf a=>gV _ (cF jm) (λo w z_=>LS N m _ _ bf z_.view d (Aa2.mono z_.ro_cell i) d.2.2.2.2.2.2.2.1 (V1 z_.ro_cell i.2.2.2.2.2.2.2.1))<|rz Z ?_
  cases a
  exact aR eV2
 refine AZ Z<|aE a Z (λbg a=> ?_) (λbg a=> ?_)
 ·refine Aa λdf bh=>Ad<|rm 2 [0] Z<|rL (W8 i.2.2.2.2.2.2.2.2.1) Z<|rz Z<|aD a Z (λbi a=> ?_) (λbi a=> ?_)
  ·refine AZ Z ?_
   cases a
   exact aR eV2
  refine Ac<|bh _ _ ?_
  refine Aa λdg bj=>AZ Z<|Ai<|AL (λtt ll nn=> ∃(q:Nat) (j:Int),(BP N m q j=some r)/\Is [(2,vP f 0),(6,vI j)] [(f,35,(Ab m d))] tt ll/\nn=q+1) (N+1) ?_ ?_
  ·exact⟨N,0,a,Ag Z Z,Z⟩
  clear a;rintro t l _ ⟨q,j,a,⟨⟨T,rfl⟩,rfl⟩,rfl⟩
  rcases q with _|q
  ·exact absurd a (by simp [BP])
  rw [BP] at a
  refine Aa λdh bk=>Ad<|rm 3 [0] Z<|rL (W8 i.2.2.2.2.2.2.2.2.1) Z<|rz Z<|aD a Z (λbl a=> ?_) (λbl a=> ?_)
  ·refine Ac<|bk _ _ ?_
   refine Aa λdi bm=>Ai<|Aa λdj bn=>fc (p:= ∀e,Bt N m (((D8 m).2.1)[j.toNat]!)=some e-> ∃s_,Rd Ab3 Y s_ e.2.1) (λw_ hi_ hro_ e cp=>by obtain⟨_,_,⟨_,h_,_⟩⟩:=ct (PP:=(oR Ab3 Y e.2.1 λs_0=>(oE (vT #[vA #[vS e.1,s_0,vI e.2.2.1,vI e.2.2.2.1,vI e.2.2.2.2.1,vI e.2.2.2.2.2.1],vB e.2.2.2.2.2.2]) []))) w_ trivial hro_ (DB N m (((D8 m).2.1)[j.toNat]!) _ cp Y d i);exact⟨_,h_⟩) (λbo=> ?_)
   refine BO [(some 92,false)] (conG prog [(92,λ_ _ v_ L_ U_=> ∀e,Bt N m (((D8 m).2.1)[j.toNat]!)=some e->(pO (V2 []) (oR Ab3 Y e.2.1 λs_0=>(oE (vT #[vA #[vS e.1,s_0,vI e.2.2.1,vI e.2.2.2.1,vI e.2.2.2.2.1,vI e.2.2.2.2.2.1],vB e.2.2.2.2.2.2]) []))) v_ L_ U_)]) [] (by decide+kernel) (λhn=>AN)<|rm 4 [0,0] Z<|kC a λS a=>rI (W8 i.2.2.2.2.2.2.2.2.1) S Z<|rE (Ay i.2.2.2.2.2.2.2.2.1) S 0 Z<|kB a λc A a=>xA (Ls:=[[(f,35,(Ab m d))]]) (RL:=[[(f,35,(Ab m d))]]) (oR Ab3 Y c.2.1 λs_0=>(oE (vT #[vA #[vS c.1,s_0,vI c.2.2.1,vI c.2.2.2.1,vI c.2.2.2.2.1,vI c.2.2.2.2.2.1],vB c.2.2.2.2.2.2]) [])) 92 24 _ Z Z Z (cF TI) (λo w z_=>DoesI.ro_mono (Fw (Ls:=[[(f,35,(Ab m d))]]) (is:=[]) Z z_) (DB N m _ _ A Y d i)) (Hq A) (by rintro v_ O_ ⟨_,_,⟨_,h_⟩⟩;exact h_) (Ac2.sub (R:=[]) (Wc (bo _ A) λs_0=>(Oe Z)) (W5 [] [] Z)) ?_
   rintro _ _ ⟨aa,bp,⟨rfl,rfl⟩⟩
   refine AK (Ls:=[[(f,35,(Ab m d))]]) (Ls':=[[(f,35,(Ab m d))]]) [0] Z Z<|rn 3 Z<|rA Z λcq=>ZX [(cq,97, #[vS c.1,aa,vI c.2.2.1,vI c.2.2.2.1,vI c.2.2.2.2.1,vI c.2.2.2.2.2.1]),(f,35,(Ab m d))] 0 _ _ _ (#[V4 (⟨#[]⟩),nS,vI 0,vI 0,vI 0,vI 0]) (#[vS c.1,aa,vI c.2.2.1,vI c.2.2.2.1,vI c.2.2.2.2.1,vI c.2.2.2.2.2.1]) (#[vS c.1,aa,vI c.2.2.1,vI c.2.2.2.1,vI c.2.2.2.2.1,vI c.2.2.2.2.2.1]) Z Z Z Z Z (.ofS Z Z (Ae Z (sR bp (Ae Z (Ae Z (Ae Z (Ae Z AD))))))) Z Z<|rz Z<|bn _ _ ?_
   refine Aa λdl bq=>AZ Z<|BS _ Z (λB=> ?_) (λB=> ?_)
   ·replace a:=ifn (Bool.eq_false_iff.1 (DG B)) a
    refine AZ Z ?_
    cases a
    exact aR eV2
   replace a:=ifp (DH B) a
   refine Ac<|bq _ _ ?_
   refine AZ Z<|Ai<|BF [(f,35,(Ab m d))] (Sub.of (suC _ (suK _ suN)))<|AL (λtt ll nn=> ∃(s:Nat) (K:Int),(Cv m j (BP N m q) s K=some r)/\Is [(2,vP f 0),(6,vI j),(9,vI K)] [(f,35,(Ab m d))] tt ll/\nn=s+1) (N+1) ?_ ?_
   ·exact⟨N,0,a,Ag Z Z,Z⟩
   clear a;rintro t l _ ⟨s,K,a,⟨⟨T,rfl⟩,rfl⟩,rfl⟩
   rcases s with _|s
   ·exact absurd a (by simp [Cv])
   rw [Cv] at a
   refine Aa λdm br=>AZ Z<|aD a Z (λbs a=> ?_) (λbs a=> ?_)
   ·refine Ac<|br _ _ ?_
    refine Aa λdn bt=>Ai<|Aa λdp bu=>HS [] (by decide+kernel) (λhn=>AN)<|rm 3 [0] Z<|kC a λU a=>rI (W8 i.2.2.2.2.2.2.2.2.1) U Z<|rE (Ay i.2.2.2.2.2.2.2.2.1) U 0 Z<|rm 3 [0] Z<|kC a λV a=>rI (W8 i.2.2.2.2.2.2.2.2.1) V Z<|rE (Ay i.2.2.2.2.2.2.2.2.1) V 0 Z<|rz Z<|bu _ _ ?_
    refine aE a Z (λbv a=> ?_) (λbv a=> ?_)
    ·refine AZ Z ?_
     cases a
     exact aR eV2
    refine Ac<|bt _ _ ?_
    refine Ah<|rn 1 Z<|kC a λbw a=>rX bw Z<|rz Z<|fg _ (Sub.of (suK _ suN)) ?_
    exact⟨s+1,by omega,s,(K+1),a,Ag Z Z,Z⟩
   refine AM<|bm _ _ ?_
   refine Ah<|rn 1 Z<|kC a λbx a=>rX bx Z<|rz Z<|fg _ (Sub.of (suK _ suN)) ?_
   exact⟨q+1,by omega,q,(j+1),a,Ag Z Z,Z⟩
  refine AM<|bj _ _ ?_
  refine AZ Z ?_
  cases a
  exact aR eV2
 refine AZ Z<|aE a Z (λbz a=> ?_) (λbz a=> ?_)
 ·refine Ad<|rm 3 [0,0] Z<|kB a λdq ca a=>gV _ (cF jl) (λo w z_=>Ma N m _ _ ca z_.view d (Aa2.mono z_.ro_cell i) (D8 d).2.1 ((Ay i.2.2.2.2.2.2.2.2.2.1) o w z_))<|rz Z ?_
  cases a
  exact aR eV2
 refine AZ Z<|aE a Z (λcb a=> ?_) (λcb a=> ?_)
 ·refine Ad<|rm 3 [0,0] Z<|kB a λdr cc a=>gV _ (cF jl) (λo w z_=>Ma N m _ _ cc z_.view d (Aa2.mono z_.ro_cell i) (D8 d).2.2.1 ((Ay i.2.2.2.2.2.2.2.2.2.2.1) o w z_))<|rz Z ?_
  cases a
  exact aR eV2
 refine Ac<|ci _ _ ?_
 refine Ad<|rm 2 [0] Z<|kB a λy cd a=>gS (Ls:=[[(f,35,(Ab m d))]]) (cF ux) (λo w z_=>rTg N m p _ cd z_.view d (Aa2.mono z_.ro_cell i)) (λu h C=> ?_)
 refine rz Z<|Ad<|gB (Ls:=[[(f,35,(Ab m d))],h]) 3 Ca [0,16,0,16,16,32,8,0,0,0,0,0,8,8,8] (λds W X=> ?_)
 refine rn 1 Z<|kC a λD a=>rI (W7 X) D Z<|rE (AB X (Al (Ls:=[[(f,35,(Ab m d))],h,W]) (k:=2) Z Z)) D 0 Z<|rz Z<|Aa λcr ab=>Aa λcs ac=>Ah<|rn 3 Z ?_
 refine AS 4 144 [(1,vI p),(2,vP f 0),(10,u),(11,vI (([0,16,0,16,16,32,8,0,0,0,0,0,8,8,8])[p.toNat]!))] vB (λb_=>DZ N m p y b_=some r) (λcu a T=> ?_) (λn=> ?_)
 ·unfold DZ at a
  refine Aj<|ac _ _ ?_
  refine aB a Z (λad a=> ?_) (λad a=> ?_)
  ·refine AZ Z ?_
   cases a
   exact aR eV2
  refine Ac<|ab _ _ ?_
  refine Aa λcv ae=>Ad<|rn 1 Z<|rL (W7 C) Z<|rz Z<|aD a Z (λaf a=> ?_) (λaf a=> ?_)
  ·refine AZ Z ?_
   cases a
   exact aR eV2
  refine Ac<|ae _ _ ?_
  refine Aa λcw ag=>AZ Z<|Ai<|BF _ (W5 [[(f,35,(Ab m d))],h,W] [0,1] Z)<|AL (λtt ll nn=> ∃(g:Nat) (b:Int),(AW N m p y g b=some r)/\Is [(1,vI p),(2,vP f 0),(10,u),(12,vI b)] (V2 [[(f,35,(Ab m d))],h]) tt ll/\nn=g+1) (N+1) ?_ ?_
  ·exact⟨N,0,a,Ag Z Z,Z⟩
  clear a;rintro t l _ ⟨g,b,a,⟨⟨T,rfl⟩,rfl⟩,rfl⟩
  rcases g with _|g
  ·exact absurd a (by simp [AW])
  rw [AW] at a
  refine Aa λcx ah=>Ad<|rn 2 Z<|rL (W7 C) Z<|rz Z<|aD a Z (λai a=> ?_) (λai a=> ?_)
  ·refine Ac<|ah _ _ ?_
   refine Aa λcy aj=>Ai<|AZ Z<|Cs (λtt ll=> ∃(v:Int),(DY N m p y b (AW N m p y g) v=some r)/\Is [(1,vI p),(2,vP f 0),(10,u),(12,vI b),(13,vI v)] (V2 [[(f,35,(Ab m d))],h]) tt ll) ?_ ?_
   ·refine AZ Z<|aE a Z (λak a=> ?_) (λak a=> ?_)
    ·refine Ah<|rm 3 [0] Z<|kC a λF a=> ?_
     obtain⟨_,⟨G,al,rfl⟩,hat139⟩:=RdN.at (E:=Ad1) i.1 (Cp F)
     refine rI (W9 i.1) F Z<|Mk (vA #[vS ((m.2.1)[b.toNat]!.1),G,vI ((m.2.1)[b.toNat]!.2.2.1),vI ((m.2.1)[b.toNat]!.2.2.2.1),vI ((m.2.1)[b.toNat]!.2.2.2.2.1),vI ((m.2.1)[b.toNat]!.2.2.2.2.2)]) (vs:=[vS ((m.2.1)[b.toNat]!.1),G,vI ((m.2.1)[b.toNat]!.2.2.1),vI ((m.2.1)[b.toNat]!.2.2.2.1),vI ((m.2.1)[b.toNat]!.2.2.2.2.1),vI ((m.2.1)[b.toNat]!.2.2.2.2.2)]) (b.toNat*6) 0 Z Z (λo w z_=>At.mono z_.ro_cell hat139) Z<|kB a λce am a=>gV _ (cF uw) (λo w z_=>QO N _ _ _ _ _ _ _ am z_.view G (z_.r al))<|rz Z<|fg _ (W5 [[(f,35,(Ab m d))],h] [0,1] Z) ?_
     exact⟨ce,a,Ag Z Z⟩
    refine Ac<|fg _ (W5 [[(f,35,(Ab m d))],h] [0,1] Z) ?_
    exact⟨0,a,Ag Z Z⟩
   clear a;rintro t l ⟨v,a,⟨T,rfl⟩,rfl⟩
   unfold DY at a
   refine Cs (λtt ll=> ∃(x:Int),(CL N m p b (AW N m p y g) x=some r)/\Is [(1,vI p),(2,vP f 0),(10,u),(12,vI b),(13,vI x)] (V2 [[(f,35,(Ab m d))],h]) tt ll) ?_ ?_
   ·refine AZ Z<|aE a Z (λan a=> ?_) (λan a=> ?_)
    ·refine Ah<|rn 2 Z<|kC a λao a=>rX ao Z<|kC a λH a=>r_W (GX u 0 (((b+1)).toNat) 1) Z (GV (ID Z Z Z Z (W7 C) H))<|kB a λcf ap a=>gV _ (cF uv) (λo w z_=>QY N _ _ ap z_.view (GX u 0 (((b+1)).toNat) 1) ((AB (Sl.take0 C (Fy H.2)) (Al (Ls:=[[(f,35,(Ab m d))],h]) (k:=1) Z Z)) o w z_))<|rz Z<|fg _ (W5 [[(f,35,(Ab m d))],h] [0,1] Z) ?_
     exact⟨cf,a,Ag Z Z⟩
    refine Ac<|fg _ (W5 [[(f,35,(Ab m d))],h] [0,1] Z) ?_
    exact⟨v,a,Ag Z Z⟩
   clear a;rintro t l ⟨x,a,⟨T,rfl⟩,rfl⟩
   unfold CL at a
   refine Cs (λtt ll=> ∃(I:Int),(CK b (AW N m p y g) I=some r)/\Is [(1,vI p),(2,vP f 0),(10,u),(12,vI b),(13,vI I)] (V2 [[(f,35,(Ab m d))],h]) tt ll) ?_ ?_
   ·refine AZ Z<|aE a Z (λaq a=> ?_) (λaq a=> ?_)
    ·refine Ah<|rm 3 [0] Z<|kB a λcg ar a=>gV _ (cF uu) (λo w z_=>Pw N m p b _ ar z_.view d (Aa2.mono z_.ro_cell i))<|rz Z<|fg _ (W5 [[(f,35,(Ab m d))],h] [0,1] Z) ?_
     exact⟨cg,a,Ag Z Z⟩
    refine Ac<|fg _ (W5 [[(f,35,(Ab m d))],h] [0,1] Z) ?_
    exact⟨x,a,Ag Z Z⟩
   clear a;rintro t l ⟨I,a,⟨T,rfl⟩,rfl⟩
   unfold CK at a
   refine AZ Z<|aN a Z (λau a=> ?_) (λau a=> ?_)
   ·refine AZ Z ?_
    cases a
    exact aR eV2
   refine Ac<|aj _ _ ?_
   refine Ah<|rn 1 Z<|kC a λav a=>rX av Z<|rz Z<|fg _ (W5 [[(f,35,(Ab m d))],h] [0,1] Z) ?_
   exact⟨g+1,by omega,g,(b+1),a,Ag Z Z,Z⟩
  refine AM<|ag _ _ ?_
  refine AZ Z ?_
  cases a
  exact aR eV2
 rcases J:(p==4)with _|_
 ·replace a:=iG J a
  refine rn 4 Z ?_
  exact n _ _ a Z Z
 replace a:=iE J a
 refine rn 1 Z<|r_y Z<|rL (W7 C) Z<|rn 2 Z ?_
 exact n _ _ a Z Z
end Go.Proofs.YtjnanfkpdhmnpaaGreatDoor
