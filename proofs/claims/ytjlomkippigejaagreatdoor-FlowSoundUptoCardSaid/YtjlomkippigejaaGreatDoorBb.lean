import Derived.Test.YtjlomkippigejaaGreatDoorBa
namespace Go.Proofs.YtjlomkippigejaaGreatDoor
open Go Go.RowKit Go.Eng _root_.Go.Proofs.Tryz
set_option linter.unusedSimpArgs false
set_option linter.unusedVariables false
set_option maxRecDepth 100000
set_option maxHeartbeats 80000000
abbrev MC(b:Nat)(x0:Int)(x1:Int)(x2:Int)(x3:Int)(x4:W4)(x5:W4):List Bl:=[(b,53, #[vI x0,vI x1,vI x2,vI x3,U x4,U x5])]
abbrev rr(b:Nat)(x0:W2)(x1:Int)(x2:Int)(x3:Int)(x4:Int)(x5:Int)(x6:Int)(x7:Int)(x8:W2):List Bl:=[(b,56, #[vS x0,vI x1,vI x2,vI x3,vI x4,vI x5,vI x6,vI x7,vS x8])]
abbrev SO(b:Nat)(x0:Int)(x1:Int)(x2:Value)(x3:Value)(x4:Int)(x5:Int):List Bl:=[(b,180, #[vI x0,vI x1,x2,x3,vI x4,vI x5])]
abbrev rq(b:Nat)(x0:W2)(x1:Value)(x2:Int)(x3:Int)(x4:Int)(x5:Int):List Bl:=[(b,94, #[vS x0,x1,vI x2,vI x3,vI x4,vI x5])]
def CC(_:Nat)(a:Int)(b:W3):Option Bool:=if a>=1 then if a<=128 then some (decide ((((len128 ((hi b)++(lo b)):Nat):Int):Int)<=a))else some false else some false
theorem GU(N c a r)(b:CC N c a=some r):Gives prog 147 #[vA #[vI c,U (hi a),U (lo a)]] (vB r):=by
 unfold CC at b
 refine Aq follows func147 Z 22 Z _ fz1 (λg=> ?_)
 refine Ad<|rA Z λh=>rz Z<|Aa λi d=>Ia [] (by decide+kernel) (λj=>AK)<|rm 4 [0] Z ?_
 rcases e:(decide (c>=1))with _|_
 ·replace b:=iF e b
  refine rz Z<|d _ _ ?_
  cases b
  exact aR eE1
 replace b:=iD e b
 refine rn 1 Z<|r_y Z<|rm 4 [0] Z ?_
 rcases f:(decide (c<=128))with _|_
 ·replace b:=iF f b
  refine rz Z<|d _ _ ?_
  cases b
  exact aR eE1
 replace b:=iD f b
 refine rn 1 Z<|r_y Z<|rm 2 [0] Z<|r_y Z<|rm 1 [0] Z<|r_y Z<|rc _ (cF dE) (wT (hi a) (lo a))<|r_y Z<|rc _ (cF nJ) (ur ((hi a)++(lo a)))<|rn 1 Z<|r_y Z<|rm 1 [0] Z ?_
 refine rz Z<|d _ _ ?_
 cases b
 exact aR eE1
theorem mm  :prog.eqGuardType prog.depth 51=false:=by kernel_rfl
theorem wr  :prog.stoodInHeld 51=false:=by kernel_rfl
set_option maxRecDepth 100000 in
theorem aL {c:Addr->Option Value}(d g:Int)(a b:W3):ev prog c (Op.equal 51 (.agg #[vI d,U (hi a),U (lo a)]) (.agg #[vI g,U (hi b),U (lo b)]))=some ((d==g)&&(a==b)):=by
 have h:=Uq (P:=prog) (c:=c) 9999 (t:=51) #[vI d,U (hi a),U (lo a)] #[vI g,U (hi b),U (lo b)] Z wr (λf=>if f.offset=0 then(d==g)else if f.offset=1 then(((hi a).toNat:Int)==((hi b).toNat:Int))else(((lo a).toNat:Int)==((lo b).toNat:Int)))
   (λf hf=>by
     simp only [zr,List.not_mem_nil,or_false] at hf
     rcases hf with rfl|rfl|rfl
     · exact⟨by decide,_,_,KU (P:=prog) (t:=3) Z (by intro fs h;cases h) (by intro n e h;cases h) _ _ Z,KU (P:=prog) (t:=3) Z (by intro fs h;cases h) (by intro n e h;cases h) _ _ Z,QV _ _ _ Z⟩
     · exact⟨by decide,_,_,KU (P:=prog) (t:=40) Z (by intro fs h;cases h) (by intro n e h;cases h) _ _ Z,KU (P:=prog) (t:=40) Z (by intro fs h;cases h) (by intro n e h;cases h) _ _ Z,QV _ _ _ Z⟩
     · exact⟨by decide,_,_,KU (P:=prog) (t:=40) Z (by intro fs h;cases h) (by intro n e h;cases h) _ _ Z,KU (P:=prog) (t:=40) Z (by intro fs h;cases h) (by intro n e h;cases h) _ _ Z,QV _ _ _ Z⟩)
 rw [<-bm a b];rw [show Op.equal 51 (.agg #[vI d,U (hi a),U (lo a)]) (.agg #[vI g,U (hi b),U (lo b)])=Op.equalIn (9999+1) 51 (.agg #[vI d,U (hi a),U (lo a)]) (.agg #[vI g,U (hi b),U (lo b)])from Z,h]
 first|(simp;done)|simp [Bool.and_assoc]
def NH(N:Nat)(d:Int)(a:Int)(b:W3)(f:List (W0))(e:Bool):Option Int:=if e=true then some 7 else if((f[d.toNat]!).1)=([112,117,115,104]:W2)then(CC N a b).bind λc=>if c=true then some 0 else some 1 else if((a==0)&&(b==((0#64)++(0#64))))=true then some 0 else some 1
def QD(N:Nat)(a:Int)(f:Int)(e:Int)(b:Int)(c:W3)(d:List (W0))(g:Bool):Option Int:=if g=true then NH N a b c d true else if((d[a.toNat]!).1)=([115,108,105,99,101]:W2)then NH N a b c d (decide (f<e))else NH N a b c d false
def QE(N:Nat)(a:Int)(c:Int)(b:Int)(d:Int)(e:W3)(f:List (W0))(g:Bool):Option Int:=if g=true then QD N a c b d e f true else QD N a c b d e f (decide (b>(f[a.toNat]!).2.2.2.2.2.2.2.1))
def QF(N:Nat)(a:Int)(c:Int)(b:Int)(d:Int)(e:W3)(f:List (W0))(g:Bool):Option Int:=if g=true then QE N a c b d e f true else QE N a c b d e f (decide (b<(f[a.toNat]!).2.2.2.2.2.2.1))
def QG(N:Nat)(a:Int)(b:Int)(d:Int)(e:Int)(f:W3)(g:Bool):Option Int:=if g=true then some 10 else(Gy N).bind λc=>ck (0<=a/\a<(c.length:Int)) (if b<(c[a.toNat]!).2.2.2.2.1 then QF N a b d e f c true else QF N a b d e f c (decide (b>(c[a.toNat]!).2.2.2.2.2.1)))
def Sz(N:Nat)(a:Int)(c:Int)(b:Int)(d:Int)(e:W3):Option Int:=if a<0 then QG N a c b d e true else QG N a c b d e (decide (a>34))
theorem qs(N a g h f d r)(b:Sz N a g h f d=some r):Gives prog 150 #[vA #[vI a,vI g,vI h,vI f,U (hi d),U (lo d)]] (vI r):=by
 unfold Sz at b
 refine Aq follows func150 Z 70 Z _ fz1 (λL=> ?_)
 refine Ad<|rA Z λn=>rz Z<|Aa λK3 M=>Aa λK4 O=>Ah<|rm 4 [0] Z<|AF 4 11 [(1,vP n 0)] vB (λb_=>QG N a g h f d b_=some r) (λb5 b T=> ?_) (λi=> ?_)
 ·unfold QG at b
  refine Ak<|O _ _ ?_
  refine aB b Z (λP b=> ?_) (λP b=> ?_)
  ·refine AZ Z ?_
   cases b
   exact aR eE1
  refine Ab<|M _ _ ?_
  refine Aa λK8 Q=>BB [(some 12,false)] (conG prog [(12,λ_ _ v_ L_ U_=> ∀z,Gy N  =some z->(p1 (λs_=>s_) 56 Ae9 z) v_ L_ U_)]) [] (by decide+kernel) (λhn=>AK)<|kB b λe p b=>Vr (Ls:=[(MC n a g h f (hi d) (lo d))]) (λA=>A) 56 Ae9 e 9 _ Z Z Z (cF TY) (λo w z_=>Ny N  _ p z_.view) (GQ p) (λA B C=> ?_)
  refine rm 2 [0] Z<|kC b λq b=>rI (Sl.shp C) q Z<|rE (Ax C (Aj (Ls:=[(MC n a g h f (hi d) (lo d)),B]) (k:=1) Z Z)) q 0 Z ?_
  refine rA Z λj=>Zz (List.flatten [(rr j ((e[a.toNat]!).1) ((e[a.toNat]!).2.1) ((e[a.toNat]!).2.2.1) ((e[a.toNat]!).2.2.2.1) ((e[a.toNat]!).2.2.2.2.1) ((e[a.toNat]!).2.2.2.2.2.1) ((e[a.toNat]!).2.2.2.2.2.2.1) ((e[a.toNat]!).2.2.2.2.2.2.2.1) ((e[a.toNat]!).2.2.2.2.2.2.2.2)),(MC n a g h f (hi d) (lo d)),B]) 0 _ _ _ (#[Value.string (⟨#[]⟩),vI 0,vI 0,vI 0,vI 0,vI 0,vI 0,vI 0,Value.string (⟨#[]⟩)]) (#[vS ((e[a.toNat]!).1),vI ((e[a.toNat]!).2.1),vI ((e[a.toNat]!).2.2.1),vI ((e[a.toNat]!).2.2.2.1),vI ((e[a.toNat]!).2.2.2.2.1),vI ((e[a.toNat]!).2.2.2.2.2.1),vI ((e[a.toNat]!).2.2.2.2.2.2.1),vI ((e[a.toNat]!).2.2.2.2.2.2.2.1),vS ((e[a.toNat]!).2.2.2.2.2.2.2.2)]) (#[vS ((e[a.toNat]!).1),vI ((e[a.toNat]!).2.1),vI ((e[a.toNat]!).2.2.1),vI ((e[a.toNat]!).2.2.2.1),vI ((e[a.toNat]!).2.2.2.2.1),vI ((e[a.toNat]!).2.2.2.2.2.1),vI ((e[a.toNat]!).2.2.2.2.2.2.1),vI ((e[a.toNat]!).2.2.2.2.2.2.2.1),vS ((e[a.toNat]!).2.2.2.2.2.2.2.2)]) Z Z Z Z Z (.of Z Z) Z Z ?_
  refine Ak<|Q _ _ ?_
  refine Aa λW D=>Aa λX E=>Ah<|rm 7 [1,0] Z<|AF 7 30 [(1,vP n 0),(3,vP j 0)] vB (λb_=>QF N a g h f d e b_=some r) (λR b T=> ?_) (λi=> ?_)
  ·unfold QF at b
   refine rn 1 Z<|AF 7 38 [(1,vP n 0),(3,vP j 0)] vB (λb_=>QE N a g h f d e b_=some r) (λS b T=> ?_) (λi=> ?_)
   ·unfold QE at b
    refine rn 1 Z<|AF 7 46 [(1,vP n 0),(3,vP j 0)] vB (λb_=>QD N a g h f d e b_=some r) (λV b T=> ?_) (λi=> ?_)
    ·unfold QD at b
     refine rn 1 Z<|AF 11 58 [(1,vP n 0),(3,vP j 0)] vB (λb_=>NH N a f d e b_=some r) (λY b T=> ?_) (λi=> ?_)
     ·unfold NH at b
      refine Ak<|E _ _ ?_
      refine aB b Z (λF b=> ?_) (λF b=> ?_)
      ·refine AZ Z ?_
       cases b
       exact aR eE1
      refine Ab<|D _ _ ?_
      refine Aa λaa G=>Ad<|rm 2 [0] Z<|r_W (vB (((e[a.toNat]!).1)==([112,117,115,104]:W2))) Z (Cr Z Z)<|Ak<|aE b Z (λH b=> ?_) (λH b=> ?_)
      ·refine Aa λab I=>Ad<|rm 2 [1] Z<|kB b λac J b=>rc _ (cF PB) (GU N f d _ J)<|rz Z<|BI _ Z (λl=> ?_) (λl=> ?_)
       ·replace b:=ifn (Bool.eq_false_iff.1 (Dk l)) b
        refine AZ Z ?_
        cases b
        exact aR eE1
       replace b:=ifp (Dl l) b
       refine Ab<|I _ _ ?_
       refine AZ Z ?_
       cases b
       exact aR eE1
      refine Ab<|G _ _ ?_
      refine Aa λad K=>Ad<|r_V (vP n 3) Z<|rl (vA #[vI f,U (hi d),U (lo d)]) 1<|r_W (vA #[vI 0,U (0#64),U (0#64)]) Z (Ar Z Z Z Z)<|r_W (vB (!((f==0)&&(d==((0#64)++(0#64)))))) Z (cX Z Z mm (by have h_:=λc=>aL (c:=c) f 0 d ((0#64)++(0#64));simp only [Br] at h_;exact h_ _)) ?_
      refine Ak<|BI _ Z (λm=> ?_) (λm=> ?_)
      ·replace b:=ifn (Bool.eq_false_iff.1 (Dk m)) b
       refine AZ Z ?_
       cases b
       exact aR eE1
      replace b:=ifp (Dl m) b
      refine Ab<|K _ _ ?_
      refine AZ Z ?_
      cases b
      exact aR eE1
     rcases s:V with _|_
     ·replace b:=iB s b
      refine rn 1 Z<|r_y Z<|rm 1 [0] Z<|r_y Z<|r_W (vB (((e[a.toNat]!).1)==([115,108,105,99,101]:W2))) Z (Cr Z Z)<|rn 1 Z ?_
      rcases t:(((e[a.toNat]!).1)==([115,108,105,99,101]:W2))with _|_
      ·replace b:=iG t b
       refine rn 7 Z ?_
       exact i _ _ b Z Z
      replace b:=iE t b
      refine rn 1 Z<|r_y Z<|rm 2 [1] Z<|r_y Z<|rm 4 [1] Z ?_
      exact i _ _ b Z Z
     replace b:=ifp s b
     refine rn 4 Z<|Cd Z Z<|Cd Z Z<|Cd Z Z<|Cd Z Z<|Cd Z Z<|rn 2 Z ?_
     exact i _ _ b Z Z
    rcases u:S with _|_
    ·replace b:=iB u b
     refine rn 1 Z<|r_y Z<|rm 3 [1] Z<|r_y Z<|rm 3 [0] Z ?_
     exact i _ _ b Z Z
    replace b:=ifp u b
    refine rn 7 Z ?_
    exact i _ _ b Z Z
   rcases v:R with _|_
   ·replace b:=iB v b
    refine rn 1 Z<|r_y Z<|rm 3 [1] Z<|r_y Z<|rm 3 [0] Z ?_
    exact i _ _ b Z Z
   replace b:=ifp v b
   refine rn 7 Z ?_
   exact i _ _ b Z Z
  rcases x:(decide (g<(e[a.toNat]!).2.2.2.2.1))with _|_
  ·replace b:=iF x b
   refine rn 1 Z<|r_y Z<|rm 3 [1] Z<|r_y Z<|rm 3 [0] Z ?_
   exact i _ _ b Z Z
  replace b:=iD x b
  refine rn 7 Z ?_
  exact i _ _ b Z Z
 rcases y:(decide (a<0))with _|_
 ·replace b:=iF y b
  refine rn 1 Z<|r_y Z<|rm 3 [0] Z ?_
  exact i _ _ b Z Z
 replace b:=iD y b
 refine rn 4 Z ?_
 exact i _ _ b Z Z
def DO(f:Int)(a:(W2)×(List (W2×Int))×Int×Int×Int×Int×Bool)(b:Bool):Option (Int×Bool):=if b=true then some (0,false)else ck (0<=f/\f<(a.2.1.length:Int)) (some (((a.2.1)[f.toNat]!).2,true))
def DP(f:Int)(a:(W2)×(List (W2×Int))×Int×Int×Int×Int×Bool)(b:Bool):Option (Int×Bool):=if b=true then DO f a true else DO f a (decide (f>=(a.2.1.length:Int)))
def Cj(N:Nat)(m:Ao)(b:Int)(f:Int):Option (Int×Bool):=(Bg N m b).bind λa=>if a.2.2.2.2.2.2=true then DP f a (decide (f<0))else DP f a true
theorem IM(N m e f r)(a:Cj N m e f=some r)(v)(i:AB)(A:Aa1 v i m):Does prog 88 #[vA (Ac m i),vI e,vI f] v [] (pV (vT #[vI r.1,vB r.2])):=by
 unfold Cj at a
 refine Al follows func88 Z 35 Z _ fz3 (λn=> ?_)
 refine Ad<|rA Z λp=>rz Z<|Ad<|rm 2 [0] Z<|kB a λb q a=>gM (Ls:=[[(p,35,(Ac m i))]]) (FL:=[]) [] (cF Tg) (λo w hn_ z_=>rom [] Z z_ (Dr N m e _ q v i A)) ?_
 rintro _ _ ⟨x,c,⟨rfl,rfl⟩⟩
 refine Dv (Ls:=[[(p,35,(Ac m i))]]) (Ls':=[[(p,35,(Ac m i))]]) [0] Z Z<|rn 3 Z<|rA Z λs=>r_s [(s,94, #[vS b.1,x,vI b.2.2.1,vI b.2.2.2.1,vI b.2.2.2.2.1,vI b.2.2.2.2.2.1]),(p,35,(Ac m i))] 0 _ _ _ _ _ (#[vS b.1,x,vI b.2.2.1,vI b.2.2.2.1,vI b.2.2.2.2.1,vI b.2.2.2.2.2.1]) Z Z Z Z (.ofS Z Z (Ae Z (Ae (Shp.one (Rd.shp c)) (Ae Z (Ae Z (Ae Z (Ae Z BA))))))) Z Z<|rz Z<|Aa λB t=>Aa λy j=>Ah<|rn 3 Z<|AF 3 21 [(2,vI f),(8,vP s 0)] vB (λb_=>DP f b b_=some r) (λu a T=> ?_) (λk=> ?_)
 ·unfold DP at a
  refine rn 1 Z<|AF 6 28 [(2,vI f),(8,vP s 0)] vB (λb_=>DO f b b_=some r) (λz a T=> ?_) (λk=> ?_)
  ·unfold DO at a
   refine Ak<|j _ _ ?_
   refine aB a Z (λl a=> ?_) (λl a=> ?_)
   ·refine AZ Z ?_
    cases a
    exact aR eV2
   refine Ab<|t _ _ ?_
   refine Ad<|rm 3 [0] Z<|kC a λd a=>rI (Rd.shp c) d Z<|rF (Rd.shp c) (Bf d) Z<|rE (Aw c) d 1 Z<|rz Z ?_
   cases a
   exact aR eV2
  rcases g:u with _|_
  ·replace a:=iB g a
   refine rn 2 Z<|r_y Z<|rm 1 [0] Z<|r_y Z<|rL (Rd.shp c) Z<|rn 2 Z ?_
   exact k _ _ a Z Z
  replace a:=ifp g a
  refine rn 6 Z ?_
  exact k _ _ a Z Z
 rcases h:(!(b.2.2.2.2.2.2))with _|_
 ·replace a:=ifp (Dl h) a
  refine rn 3 Z ?_
  exact k _ _ a Z Z
 replace a:=ifn (Bool.eq_false_iff.1 (Dk h)) a
 refine rn 3 Z ?_
 exact k _ _ a Z Z
def El(m:Ao)(i:Int)(a:Bool):Option (Int×Bool):=if a=true then ck (R64 (i - 8)) (ck (0<=(i - 8)/\(i - 8)<(m.2.2.2.1.length:Int)) (some (((m.2.2.2.1)[((i - 8)).toNat]!).2,true)))else some (0,false)
def Em(m:Ao)(i:Int)(a:Bool):Option (Int×Bool):=if a=true then ck (0<=i/\i<(([8,8,8,1,8,1,16,8]).length:Int)) (some (([8,8,8,1,8,1,16,8])[i.toNat]!,true))else if i>=8 then ck (R64 (i - 8)) (El m i (decide (((i - 8):Int)<(m.2.2.2.1.length:Int))))else El m i false
def EO(_:Nat)(m:Ao)(i:Int):Option (Int×Bool):=if i>=0 then Em m i (decide (i<8))else Em m i false
theorem LC(N m i r)(a:EO N m i=some r)(x)(s:AB)(t:Aa1 x s m):Does prog 216 #[vA (Ac m s),vI i] x [] (pV (vT #[vI r.1,vB r.2])):=by
 unfold EO at a
 refine Al follows func216 Z 35 Z _ fz2 (λp=> ?_)
 refine Ad<|rA Z λq=>rz Z<|Ad<|gB (Ls:=[[(q,35,(Ac m s))]]) 3 BE [8,8,8,1,8,1,16,8] (λy z w=> ?_)
 refine rz Z<|Aa λD u=>Aa λE v=>Ah<|rn 3 Z<|AF 3 13 [(1,vI i),(2,vP q 0),(6,y)] vB (λb_=>Em m i b_=some r) (λF a T=> ?_) (λf=> ?_)
 ·unfold Em at a
  refine Ak<|v _ _ ?_
  refine aB a Z (λg a=> ?_) (λg a=> ?_)
  ·refine Ad<|rn 2 Z<|kC a λc a=>rI (Sl.shp w) c Z<|rE (Ax w (Aj (Ls:=[[(q,35,(Ac m s))],z]) (k:=1) Z Z)) c 0 Z<|rz Z ?_
   cases a
   exact aR eV2
  refine Ab<|u _ _ ?_
  refine Aa λA h=>Aa λB j=>Ah<|rn 3 Z<|AF 7 27 [(1,vI i),(2,vP q 0)] vB (λb_=>El m i b_=some r) (λC a T=> ?_) (λf=> ?_)
  ·unfold El at a
   refine Ak<|j _ _ ?_
   refine aB a Z (λl a=> ?_) (λl a=> ?_)
   ·refine Ad<|rm 3 [0] Z<|kC a λn a=>rX n Z<|kC a λb a=>rI (Rd.shp t.2.2.1) b Z<|rF (Rd.shp t.2.2.1) (Bf b) Z<|rE (Aw t.2.2.1) b 1 Z<|rz Z ?_
    cases a
    exact aR eV2
   refine Ab<|h _ _ ?_
   refine AZ Z ?_
   cases a
   exact aR eV2
  rcases d:(decide (i>=8))with _|_
  ·replace a:=iF d a
   refine rn 7 Z ?_
   exact f _ _ a Z Z
  replace a:=iD d a
  refine rn 1 Z<|r_y Z<|kC a λo a=>rX o Z<|rn 1 Z<|r_y Z<|rm 1 [0] Z<|r_y Z<|rL (Rd.shp t.2.2.1) Z<|rn 2 Z ?_
  exact f _ _ a Z Z
 rcases e:(decide (i>=0))with _|_
 ·replace a:=iF e a
  refine rn 3 Z ?_
  exact f _ _ a Z Z
 replace a:=iD e a
 refine rn 3 Z ?_
 exact f _ _ a Z Z
def CU(N:Nat)(m:Ao)(a:Int)(c:Bool):Option (Int×Int×Bool):=if c=true then some (0,0,false)else ck (0<=a/\a<=(m.2.2.1.length:Int)) ((De N (((m.2.2.1).take (a.toNat)).drop 0)).bind λb=>ck (0<=a/\a<(m.2.2.1.length:Int)) (some ((b.length:Int),((m.2.2.1)[a.toNat]!).2.2,true)))
def CV(N:Nat)(m:Ao)(a:Int)(b:Bool):Option (Int×Int×Bool):=if b=true then CU N m a true else ck (0<=a/\a<(m.2.2.1.length:Int)) (CU N m a (decide ((((m.2.2.1)[a.toNat]!).2.2:Int)>4)))
def CW(N:Nat)(m:Ao)(a:Int)(b:Bool):Option (Int×Int×Bool):=if b=true then CV N m a true else ck (0<=a/\a<(m.2.2.1.length:Int)) (CV N m a (decide ((((m.2.2.1)[a.toNat]!).2.2:Int)<1)))
def Cq(N:Nat)(m:Ao)(a:Int):Option (Int×Int×Bool):=if a<0 then CW N m a true else CW N m a (decide (a>=(m.2.2.1.length:Int)))
theorem HY(N m a r)(b:Cq N m a=some r)(B)(s:AB)(c:Aa1 B s m):Does prog 39 #[vA (Ac m s),vI a] B [] (pV (vT #[vI r.1,vI r.2.1,vB r.2.2])):=by
 unfold Cq at b
 refine Al follows func39 Z 46 Z _ fz2 (λt=> ?_)
 refine Ad<|rA Z λu=>rz Z<|Aa λG v=>Aa λH x=>Ah<|rn 3 Z<|AF 6 15 [(1,vI a),(2,vP u 0)] vB (λb_=>CW N m a b_=some r) (λC b T=> ?_) (λg=> ?_)
 ·unfold CW at b
  refine rn 1 Z<|AF 8 24 [(1,vI a),(2,vP u 0)] vB (λb_=>CV N m a b_=some r) (λD b T=> ?_) (λg=> ?_)
  ·unfold CV at b
   refine rn 1 Z<|AF 8 33 [(1,vI a),(2,vP u 0)] vB (λb_=>CU N m a b_=some r) (λI b T=> ?_) (λg=> ?_)
   ·unfold CU at b
    refine Ak<|x _ _ ?_
    refine aB b Z (λy b=> ?_) (λy b=> ?_)
    ·refine AZ Z ?_
     cases b
     exact aR eV3
    refine Ab<|v _ _ ?_
    refine Aa λE n=>BB [(some 38,false)] (conG prog [(38,λ_ _ v_ L_ U_=> ∀p,De N (((m.2.2.1).take (a.toNat)).drop 0)=some p->(p1 (λs_=>s_) 54 Sj p) v_ L_ U_)]) [] (by decide+kernel) (λJ=>AK)<|rm 3 [0] Z<|kC b λh b=>r_W (GE s.2.1 0 (a.toNat) 3) Z (Fc (Jb Z Z Z Z (Rd.shp c.2.1) h))<|kB b λz i b=>Vr (Ls:=[[(u,35,(Ac m s))]]) (λq=>q) 54 Sj z 82 _ Z Z Z (cF UZ) (λo w z_=>In N (((m.2.2.1).take (a.toNat)).drop 0) _ i z_.view (GE s.2.1 0 (a.toNat) 3) ((PL (Aw c.2.1) (Nat.zero_le _) (Hp h.2)) o w z_)) (GQ i) (λq F A=> ?_)
    refine rL (Sl.shp A) Z<|rm 3 [0] Z<|kC b λd b=>rI (Rd.shp c.2.1) d Z<|rF (Rd.shp c.2.1) (Bf d) Z<|rE (Aw c.2.1) d 2 Z<|rz Z<|n _ _ ?_
    cases b
    exact aR eV3
   rcases j:D with _|_
   ·replace b:=iB j b
    refine rn 1 Z<|r_y Z<|rm 2 [0] Z<|r_y Z<|kC b λe b=>rI (Rd.shp c.2.1) e Z<|r_y Z<|rF (Rd.shp c.2.1) (Bf e) Z<|r_y Z<|rE (Aw c.2.1) e 2 Z<|rn 2 Z ?_
    exact g _ _ b Z Z
   replace b:=ifp j b
   refine rn 8 Z ?_
   exact g _ _ b Z Z
  rcases k:C with _|_
  ·replace b:=iB k b
   refine rn 1 Z<|r_y Z<|rm 2 [0] Z<|r_y Z<|kC b λf b=>rI (Rd.shp c.2.1) f Z<|r_y Z<|rF (Rd.shp c.2.1) (Bf f) Z<|r_y Z<|rE (Aw c.2.1) f 2 Z<|rn 2 Z ?_
   exact g _ _ b Z Z
  replace b:=ifp k b
  refine rn 8 Z ?_
  exact g _ _ b Z Z
 rcases l:(decide (a<0))with _|_
 ·replace b:=iF l b
  refine rn 2 Z<|r_y Z<|rm 1 [0] Z<|r_y Z<|rL (Rd.shp c.2.1) Z<|rn 2 Z ?_
  exact g _ _ b Z Z
 replace b:=iD l b
 refine rn 6 Z ?_
 exact g _ _ b Z Z
def CQ(N:Nat)(m:Ao)(c:Int)(b:Bool):Option Bool:=if b=true then(Cq N m c).bind λa=>some a.2.2 else some true
def BT(N:Nat)(m:Ao)(a:Int)(b:Int)(c:List (W0))(e:Bool):Option Bool:=if e=true then(Bg N m b).bind λd=>some d.2.2.2.2.2.2 else if((c[a.toNat]!).1)=([112,117,115,104,45,104,101,97,100]:W2)then CQ N m b (((c[a.toNat]!).1)==([112,117,115,104,45,104,101,97,100]:W2))else CQ N m b (((c[a.toNat]!).1)==([112,111,112,45,104,101,97,100]:W2))
def Dm(N:Nat)(m:Ao)(a:Int)(c:Int)(b:List (W0))(d:Bool):Option Bool:=if d=true then some (decide (c<(m.2.2.2.2.2.2.2.2.2.2.2.2.1.length:Int)))else if((b[a.toNat]!).1)=([99,111,117,110,116]:W2)then some (decide (c<(m.2.2.2.2.2.2.2.2.2.2.2.2.2.1.length:Int)))else if((b[a.toNat]!).1)=([109,101,116,101,114]:W2)then some (decide (c<(m.2.2.2.2.2.2.2.2.2.2.2.2.2.2.1.length:Int)))else if((b[a.toNat]!).1)=([118,97,108,105,100]:W2)then BT N m a c b (((b[a.toNat]!).1)==([118,97,108,105,100]:W2))else if((b[a.toNat]!).1)=([115,104,111,119]:W2)then BT N m a c b (((b[a.toNat]!).1)==([115,104,111,119]:W2))else if((b[a.toNat]!).1)=([104,105,100,101]:W2)then BT N m a c b (((b[a.toNat]!).1)==([104,105,100,101]:W2))else BT N m a c b (((b[a.toNat]!).1)==([106,117,109,112,45,103,111,110,101]:W2))
def Dn(N:Nat)(m:Ao)(a:Int)(b:Int)(d:Int)(c:List (W0))(e:Bool):Option Bool:=if e=true then(EO N m b).bind λf=>some f.2 else if((c[a.toNat]!).1)=([112,97,114,97,109]:W2)then some (decide (b<d))else if((c[a.toNat]!).1)=([114,101,103]:W2)then Dm N m a b c (((c[a.toNat]!).1)==([114,101,103]:W2))else Dm N m a b c (((c[a.toNat]!).1)==([112,117,116,45,114,101,103]:W2))
def Dp(N:Nat)(m:Ao)(a:Int)(c:Int)(f:Int)(b:Int)(d:List (W0))(g:Bool):Option Bool:=if g=true then(Cj N m c f).bind λe=>some e.2 else if((d[a.toNat]!).1)=([109,101,116,97]:W2)then Dn N m a c b d (((d[a.toNat]!).1)==([109,101,116,97]:W2))else Dn N m a c b d (((d[a.toNat]!).1)==([112,117,116,45,109,101,116,97]:W2))
def DL(N:Nat)(m:Ao)(a:Int)(e:Int)(d:Int)(_:Int)(_:W3)(b:Int):Option Bool:=(Gy N).bind λc=>ck (0<=a/\a<(c.length:Int)) (if((c[a.toNat]!).1)=([102,105,101,108,100]:W2)then Dp N m a e d b c (((c[a.toNat]!).1)==([102,105,101,108,100]:W2))else Dp N m a e d b c (((c[a.toNat]!).1)==([112,117,116,45,102,105,101,108,100]:W2)))
theorem OK(N m a d g h c f r)(b:DL N m a d g h c f=some r)(ro)(j:AB)(B:Aa1 ro j m):Does prog 151 #[vA (Ac m j),vA #[vI a,vI d,vI g,vI h,U (hi c),U (lo c)],vI f] ro [] (pV (vB r)):=by
 unfold DL at b
 refine Al follows func151 Z 91 Z _ fz3 (λab=> ?_)
 refine Ad<|rA Z λn=>rA Z λp=>rz Z<|AZ Z<|Aa λK5 i=>Aa λK6 ac=>BB [(some 8,false)] (conG prog [(8,λ_ _ v_ L_ U_=> ∀C,Gy N  =some C->(p1 (λs_=>s_) 56 Ae9 C) v_ L_ U_)]) [] (by decide+kernel) (λhn=>AK)<|kB b λe D b=>Vr (Ls:=[(MC p a d g h (hi c) (lo c)),[(n,35,(Ac m j))]]) (λs9=>s9) 56 Ae9 e 9 _ Z Z Z (cF TY) (λo w z_=>Ny N  _ D z_.view) (GQ D) (λs9 s u=> ?_)
 refine rm 2 [0] Z<|kC b λq b=>rI (Sl.shp u) q Z<|rF (Sl.shp u) (Bf q) Z<|rE (Ax u (Aj (Ls:=[(MC p a d g h (hi c) (lo c)),[(n,35,(Ac m j))],s]) (k:=2) Z Z)) q 0 Z<|Ak<|ac _ _ ?_
 refine Ai<|Cb (λtt ll=> ∃(v:Bool),(Dp N m a d g f e v=some r)/\Is [(2,vI f),(3,vP n 0),(4,vP p 0),(7,vB true),(13,vS ((e[a.toNat]!).1)),(14,vB v)] [(p,53, #[vI a,vI d,vI g,vI h,U (hi c),U (lo c)]),(n,35,(Ac m j))] tt ll) ?_ ?_
 ·refine Ad<|r_W (vB (((e[a.toNat]!).1)==([102,105,101,108,100]:W2))) Z (Cr Z Z)<|rz Z<|aE b Z (λE b=> ?_) (λE b=> ?_)
  ·refine Ab<|fg _ (Sub.pick [(MC p a d g h (hi c) (lo c)),[(n,35,(Ac m j))],s] [0,1] Z) ?_
   exact⟨((e[a.toNat]!).1)==([102,105,101,108,100]:W2),b,Ag Z Z⟩
  refine Ah<|r_W (vB (((e[a.toNat]!).1)==([112,117,116,45,102,105,101,108,100]:W2))) Z (Cr Z Z)<|rz Z<|fg _ (Sub.pick [(MC p a d g h (hi c) (lo c)),[(n,35,(Ac m j))],s] [0,1] Z) ?_
  exact⟨((e[a.toNat]!).1)==([112,117,116,45,102,105,101,108,100]:W2),b,Ag Z Z⟩
 clear b;rintro t l ⟨v,b,⟨T,rfl⟩,rfl⟩
 unfold Dp at b
 refine aB b Z (λF b=> ?_) (λF b=> ?_)
 ·refine Ah<|rm 5 [1,0,0] Z<|kB b λag G b=>gV _ (cF aP) (λo w z_=>IM N m d g _ G z_.view j (Aa1.mono z_.ro_cell B))<|rz Z<|i _ _ ?_
  refine AZ Z ?_
  cases b
  exact aR eV1
 refine Cb (λtt ll=> ∃(x:Bool),(Dn N m a d f e x=some r)/\Is [(2,vI f),(3,vP n 0),(4,vP p 0),(7,vB true),(13,vS ((e[a.toNat]!).1)),(26,vB x)] [(p,53, #[vI a,vI d,vI g,vI h,U (hi c),U (lo c)]),(n,35,(Ac m j))] tt ll) ?_ ?_
 ·refine Ad<|r_W (vB (((e[a.toNat]!).1)==([109,101,116,97]:W2))) Z (Cr Z Z)<|rz Z<|aE b Z (λH b=> ?_) (λH b=> ?_)
  ·refine Ab<|fg _ (Sub.of (suK _ (suK _ suN))) ?_
   exact⟨((e[a.toNat]!).1)==([109,101,116,97]:W2),b,Ag Z Z⟩
  refine Ah<|r_W (vB (((e[a.toNat]!).1)==([112,117,116,45,109,101,116,97]:W2))) Z (Cr Z Z)<|rz Z<|fg _ (Sub.of (suK _ (suK _ suN))) ?_
  exact⟨((e[a.toNat]!).1)==([112,117,116,45,109,101,116,97]:W2),b,Ag Z Z⟩
 clear b;rintro t l ⟨x,b,⟨T,rfl⟩,rfl⟩
 unfold Dn at b
 refine aB b Z (λI b=> ?_) (λI b=> ?_)
 ·refine Ah<|rm 3 [1,0] Z<|kB b λah J b=>gV _ (cF dC) (λo w z_=>LC N m d _ J z_.view j (Aa1.mono z_.ro_cell B))<|rz Z<|i _ _ ?_
  refine AZ Z ?_
  cases b
  exact aR eV1
 refine Ad<|r_W (vB (((e[a.toNat]!).1)==([112,97,114,97,109]:W2))) Z (Cr Z Z)<|rz Z<|aE b Z (λK b=> ?_) (λK b=> ?_)
 ·refine Ah<|ry [0] Z<|i _ _ ?_
  refine AZ Z ?_
  cases b
  exact aR eV1
 refine Cb (λtt ll=> ∃(y:Bool),(Dm N m a d e y=some r)/\Is [(3,vP n 0),(4,vP p 0),(7,vB true),(13,vS ((e[a.toNat]!).1)),(42,vB y)] [(p,53, #[vI a,vI d,vI g,vI h,U (hi c),U (lo c)]),(n,35,(Ac m j))] tt ll) ?_ ?_
 ·refine Ad<|r_W (vB (((e[a.toNat]!).1)==([114,101,103]:W2))) Z (Cr Z Z)<|rz Z<|aE b Z (λL b=> ?_) (λL b=> ?_)
  ·refine Ab<|fg _ (Sub.of (suK _ (suK _ suN))) ?_
   exact⟨((e[a.toNat]!).1)==([114,101,103]:W2),b,Ag Z Z⟩
  refine Ah<|r_W (vB (((e[a.toNat]!).1)==([112,117,116,45,114,101,103]:W2))) Z (Cr Z Z)<|rz Z<|fg _ (Sub.of (suK _ (suK _ suN))) ?_
  exact⟨((e[a.toNat]!).1)==([112,117,116,45,114,101,103]:W2),b,Ag Z Z⟩
 clear b;rintro t l ⟨y,b,⟨T,rfl⟩,rfl⟩
 unfold Dm at b
 refine aB b Z (λM b=> ?_) (λM b=> ?_)
 ·refine Ah<|rm 4 [0,1] Z<|rL (Rd.shp B.2.2.2.2.2.2.2.2.2.2.2.1) Z<|rz Z<|i _ _ ?_
  refine AZ Z ?_
  cases b
  exact aR eV1
 refine Ad<|r_W (vB (((e[a.toNat]!).1)==([99,111,117,110,116]:W2))) Z (Cr Z Z)<|rz Z<|aE b Z (λO b=> ?_) (λO b=> ?_)
 ·refine Ah<|rm 4 [0,1] Z<|rL (Rd.shp B.2.2.2.2.2.2.2.2.2.2.2.2.1) Z<|rz Z<|i _ _ ?_
  refine AZ Z ?_
  cases b
  exact aR eV1
 refine Ad<|r_W (vB (((e[a.toNat]!).1)==([109,101,116,101,114]:W2))) Z (Cr Z Z)<|rz Z<|aE b Z (λP b=> ?_) (λP b=> ?_)
 ·refine Ah<|rm 4 [0,1] Z<|rL (Rd.shp B.2.2.2.2.2.2.2.2.2.2.2.2.2) Z<|rz Z<|i _ _ ?_
  refine AZ Z ?_
  cases b
  exact aR eV1
 refine Cb (λtt ll=> ∃(z:Bool),(BT N m a d e z=some r)/\Is [(3,vP n 0),(4,vP p 0),(7,vB true),(13,vS ((e[a.toNat]!).1)),(67,vB z)] [(p,53, #[vI a,vI d,vI g,vI h,U (hi c),U (lo c)]),(n,35,(Ac m j))] tt ll) ?_ ?_
 ·refine Ad<|r_W (vB (((e[a.toNat]!).1)==([118,97,108,105,100]:W2))) Z (Cr Z Z)<|rz Z<|aE b Z (λQ b=> ?_) (λQ b=> ?_)
  ·refine Ab<|fg _ (Sub.of (suK _ (suK _ suN))) ?_
   exact⟨((e[a.toNat]!).1)==([118,97,108,105,100]:W2),b,Ag Z Z⟩
  refine Ad<|r_W (vB (((e[a.toNat]!).1)==([115,104,111,119]:W2))) Z (Cr Z Z)<|rz Z<|aE b Z (λR b=> ?_) (λR b=> ?_)
  ·refine Ab<|fg _ (Sub.of (suK _ (suK _ suN))) ?_
   exact⟨((e[a.toNat]!).1)==([115,104,111,119]:W2),b,Ag Z Z⟩
  refine Ad<|r_W (vB (((e[a.toNat]!).1)==([104,105,100,101]:W2))) Z (Cr Z Z)<|rz Z<|aE b Z (λS b=> ?_) (λS b=> ?_)
  ·refine Ab<|fg _ (Sub.of (suK _ (suK _ suN))) ?_
   exact⟨((e[a.toNat]!).1)==([104,105,100,101]:W2),b,Ag Z Z⟩
  refine Ah<|r_W (vB (((e[a.toNat]!).1)==([106,117,109,112,45,103,111,110,101]:W2))) Z (Cr Z Z)<|rz Z<|fg _ (Sub.of (suK _ (suK _ suN))) ?_
  exact⟨((e[a.toNat]!).1)==([106,117,109,112,45,103,111,110,101]:W2),b,Ag Z Z⟩
 clear b;rintro t l ⟨z,b,⟨T,rfl⟩,rfl⟩
 unfold BT at b
 refine aB b Z (λV b=> ?_) (λV b=> ?_)
 ·refine Ah<|rm 3 [1,0] Z<|kB b λai W b=>gM (Ls:=[(MC p a d g h (hi c) (lo c)),[(n,35,(Ac m j))]]) (FL:=[]) [] (cF Tg) (λo w hn_ z_=>rom [] Z z_ (Dr N m d _ W ro j B)) ?_
  rintro _ _ ⟨aj,af,⟨rfl,rfl⟩⟩
  refine Dv (Ls:=[(MC p a d g h (hi c) (lo c)),[(n,35,(Ac m j))]]) (Ls':=[(MC p a d g h (hi c) (lo c)),[(n,35,(Ac m j))]]) [0,1] Z Z<|rz Z<|i _ _ ?_
  refine AZ Z ?_
  cases b
  exact aR eV1
 refine Cb (λtt ll=> ∃(A:Bool),(CQ N m d A=some r)/\Is [(3,vP n 0),(4,vP p 0),(7,vB true),(79,vB A)] [(p,53, #[vI a,vI d,vI g,vI h,U (hi c),U (lo c)]),(n,35,(Ac m j))] tt ll) ?_ ?_
 ·refine Ad<|r_W (vB (((e[a.toNat]!).1)==([112,117,115,104,45,104,101,97,100]:W2))) Z (Cr Z Z)<|rz Z<|aE b Z (λX b=> ?_) (λX b=> ?_)
  ·refine Ab<|fg _ (Sub.of (suK _ (suK _ suN))) ?_
   exact⟨((e[a.toNat]!).1)==([112,117,115,104,45,104,101,97,100]:W2),b,Ag Z Z⟩
  refine Ah<|r_W (vB (((e[a.toNat]!).1)==([112,111,112,45,104,101,97,100]:W2))) Z (Cr Z Z)<|rz Z<|fg _ (Sub.of (suK _ (suK _ suN))) ?_
  exact⟨((e[a.toNat]!).1)==([112,111,112,45,104,101,97,100]:W2),b,Ag Z Z⟩
 clear b;rintro t l ⟨A,b,⟨T,rfl⟩,rfl⟩
 unfold CQ at b
 refine aB b Z (λY b=> ?_) (λY b=> ?_)
 ·refine Ah<|rm 3 [1,0] Z<|kB b λak aa b=>gV _ (cF aV) (λo w z_=>HY N m d _ aa z_.view j (Aa1.mono z_.ro_cell B))<|rz Z<|i _ _ ?_
  refine AZ Z ?_
  cases b
  exact aR eV1
 refine Ab<|i _ _ ?_
 refine AZ Z ?_
 cases b
 exact aR eV1
def CA(b:Int)(a:Int->Option Int)(c:Bool):Option Int:=if c=true then some 12 else ck (R64 (b+1)) (a (b+1))
def Eo(d:List (W1))(c:Int)(a:Int->Option Int)(b:Int):Option Int:=if b>=0 then if b<=c then CA c a true else CA c a (decide (b>(d.length:Int)))else CA c a false
def Ep(c:List (W1))(b:Int)(a:Int->Option Int)(e:List (W0))(d:Int):Option Int:=if((e[((c[b.toNat]!).1).toNat]!).2.2.2.2.2.2.2.2)=([71,111,110,101]:W2)then ck (0<=b/\b<(c.length:Int)) (Eo c b a ((c[b.toNat]!).2.2.1))else Eo c b a d
def AO(N:Nat)(m:Ao)(b:List (W1))(c:Int):Nat->Int->Option Int
  |0,_=>none
  |e+1,a=>if a<(b.length:Int)then ck (0<=a/\a<(b.length:Int)) ((DL N m ((b[a.toNat]!).1) ((b[a.toNat]!).2.1) ((b[a.toNat]!).2.2.1) ((b[a.toNat]!).2.2.2.1) ((b[a.toNat]!).2.2.2.2) c).bind λf=>if f=true then(Gy N).bind λd=>ck (0<=a/\a<(b.length:Int)) (ck (0<=(b[a.toNat]!).1/\(b[a.toNat]!).1<(d.length:Int)) (if((d[((b[a.toNat]!).1).toNat]!).2.2.2.2.2.2.2.2)=([74,117,109,112]:W2)then ck (0<=a/\a<(b.length:Int)) (Ep b a (AO N m b c e) d ((b[a.toNat]!).2.1))else Ep b a (AO N m b c e) d (-1)))else some 5)else some 0
def CX(N:Nat)(m:Ao)(c:List (W1))(d:Int)(b:Int)(a:Int->Option Int)(f:Bool):Option Int:=if f=true then ck (0<=b/\b<(c.length:Int)) ((Sz N ((c[b.toNat]!).1) ((c[b.toNat]!).2.1) ((c[b.toNat]!).2.2.1) ((c[b.toNat]!).2.2.2.1) ((c[b.toNat]!).2.2.2.2)).bind λe=>if(e:Int)≠0 then some e else ck (R64 (b+1)) (a (b+1)))else if(c.length:Int)>64 then some 2 else AO N m c d N 0
def Bq(N:Nat)(m:Ao)(c:List (W1))(a:Int):Nat->Int->Option Int
  |0,_=>none
  |d+1,b=>if b<(c.length:Int)then CX N m c a b (Bq N m c a d) (decide (b<64))else CX N m c a b (Bq N m c a d) false
def Gh(N:Nat)(m:Ao)(b:List (W1))(a:Int):Option Int:=Bq N m b a N 0
theorem LD(N m e b r)(a:Gh N m e b=some r)(ro)(y:AB)(hm:Aa1 ro y m)(i)(d:Rd Ac8 ro i e):Does prog 91 #[vA (Ac m y),i,vI b] ro [] (pV (vI r)):=by
 unfold Gh at a
 refine Al follows func91 Z 83 Z _ fz3 (λah=> ?_)
 refine Ad<|rA Z λj=>rz Z<|Aa λK3 ai=>AZ Z<|Ai<|AH (λtt ll nn=> ∃(A:Nat) (f:Int),(Bq N m e b A f=some r)/\Is [(1,i),(2,vI b),(3,vP j 0),(7,vI f)] [(j,35,(Ac m y))] tt ll/\nn=A+1) (N+1) ?_ ?_
 ·exact⟨N,0,a,Ag Z Z,Z⟩
 clear a;rintro t l _ ⟨A,f,a,⟨⟨T,rfl⟩,rfl⟩,rfl⟩
 rcases A with _|A
 ·exact absurd a (by simp [Bq])
 rw [Bq] at a
 refine Aa λK6 aj=>Aa λK7 ak=>Ah<|rn 2 Z<|rL (Rd.shp d) Z<|rn 2 Z<|AF 3 19 [(1,i),(2,vI b),(3,vP j 0),(7,vI f)] vB (λb_=>CX N m e b f (Bq N m e b A) b_=some r) (λb8 a T=> ?_) (λK=> ?_)
 ·unfold CX at a
  refine Ak<|ak _ _ ?_
  refine aB a Z (λal a=> ?_) (λal a=> ?_)
  ·refine Ab<|aj _ _ ?_
   refine Aa λan L=>Ai<|Ad<|rn 2 Z<|kC a λB a=>rI (Rd.shp d) B Z<|rE (Aw d) B 0 Z<|kB a λao M a=>rc _ (cF oU) (qs N ((e[f.toNat]!).1) ((e[f.toNat]!).2.1) ((e[f.toNat]!).2.2.1) ((e[f.toNat]!).2.2.2.1) ((e[f.toNat]!).2.2.2.2) _ M)<|rz Z<|AZ Z<|aN a Z (λO a=> ?_) (λO a=> ?_)
   ·refine AZ Z ?_
    cases a
    exact aR eV1
   refine Ab<|L _ _ ?_
   refine Ah<|rn 1 Z<|kC a λP a=>rX P Z<|rz Z<|fg _ (Sub.of (suK _ suN)) ?_
   exact⟨A+1,by omega,A,(f+1),a,Ag Z Z,Z⟩
  refine AG<|ai _ _ ?_
  refine Aa λap Q=>Ad<|rn 1 Z<|rL (Rd.shp d) Z<|rz Z<|aD a Z (λR a=> ?_) (λR a=> ?_)
  ·refine AZ Z ?_
   cases a
   exact aR eV1
  refine Ab<|Q _ _ ?_
  refine Aa λaq S=>AZ Z<|Ai<|AH (λtt ll nn=> ∃(g:Nat) (c:Int),(AO N m e b g c=some r)/\Is [(1,i),(2,vI b),(3,vP j 0),(9,vI c)] [(j,35,(Ac m y))] tt ll/\nn=g+1) (N+1) ?_ ?_
  ·exact⟨N,0,a,Ag Z Z,Z⟩
  clear a;rintro t l _ ⟨g,c,a,⟨⟨T,rfl⟩,rfl⟩,rfl⟩
  rcases g with _|g
  ·exact absurd a (by simp [AO])
  rw [AO] at a
  refine Aa λar U=>Ad<|rn 2 Z<|rL (Rd.shp d) Z<|rz Z<|aD a Z (λV a=> ?_) (λV a=> ?_)
  ·refine Ab<|U _ _ ?_
   refine Aa λau W=>Ai<|Aa λav X=>Aa λaw Y=>BB [(some 45,false)] (conG prog [(45,cV (DL N m ((e[c.toNat]!).1) ((e[c.toNat]!).2.1) ((e[c.toNat]!).2.2.1) ((e[c.toNat]!).2.2.2.1) ((e[c.toNat]!).2.2.2.2) b) λz=>vB z)]) [] (by decide+kernel) (λhn=>AK)<|rm 3 [0] Z<|kC a λC a=>rI (Rd.shp d) C Z<|rE (Aw d) C 0 Z<|rn 1 Z<|kB a λay D a=>rg _ (cF oT) (λo w z_=>OK N m ((e[c.toNat]!).1) ((e[c.toNat]!).2.1) ((e[c.toNat]!).2.2.1) ((e[c.toNat]!).2.2.2.1) ((e[c.toNat]!).2.2.2.2) b _ D z_.view y (Aa1.mono z_.ro_cell hm)) (GQ D)<|rz Z<|Y _ _ ?_
   refine BI _ Z (λp=> ?_) (λp=> ?_)
   ·replace a:=ifn (Bool.eq_false_iff.1 (Dk p)) a
    refine AZ Z ?_
    cases a
    exact aR eV1
   replace a:=ifp (Dl p) a
   refine Ab<|X _ _ ?_
   refine AZ Z<|Aa λaz aa=>BB [(some 47,false)] (conG prog [(47,λ_ _ v_ L_ U_=> ∀z,Gy N  =some z->(p1 (λs_=>s_) 56 Ae9 z) v_ L_ U_)]) [] (by decide+kernel) (λhn=>AK)<|kB a λq E a=>Vr (Ls:=[[(j,35,(Ac m y))]]) (λab=>ab) 56 Ae9 q 9 _ Z Z Z (cF TY) (λo w z_=>Ny N  _ E z_.view) (GQ E) (λab I J=> ?_)
   refine rn 2 Z<|kC a λs a=>rI (Rd.shp d) s Z<|rF (Rd.shp d) (Bf s) Z<|rE (Aw d) s 0 Z<|kC a λu a=>rI (Sl.shp J) u Z<|rF (Sl.shp J) (Bf u) Z<|rE (Ax J (Aj (Ls:=[[(j,35,(Ac m y))],I]) (k:=1) Z Z)) u 8 Z<|rz Z<|aa _ _ ?_
   refine Cb (λtt ll=> ∃(n:Int),(Ep e c (AO N m e b g) q n=some r)/\Is [(1,i),(2,vI b),(3,vP j 0),(9,vI c),(10,vI n),(11,vS ((q[((e[c.toNat]!).1).toNat]!).2.2.2.2.2.2.2.2))] [(j,35,(Ac m y))] tt ll) ?_ ?_
   ·refine Ad<|rn 1 Z<|r_W (vB (((q[((e[c.toNat]!).1).toNat]!).2.2.2.2.2.2.2.2)==([74,117,109,112]:W2))) Z (Cr Z Z)<|Ak<|aE a Z (λac a=> ?_) (λac a=> ?_)
    ·refine Ah<|rn 2 Z<|kC a λv a=>rI (Rd.shp d) v Z<|rF (Rd.shp d) (Bf v) Z<|rE (Aw d) v 1 Z<|rz Z<|fg _ (Sub.pick [[(j,35,(Ac m y))],I] [0] Z) ?_
     exact⟨(e[c.toNat]!).2.1,a,Ag Z Z⟩
    refine Ab<|fg _ (Sub.pick [[(j,35,(Ac m y))],I] [0] Z) ?_
    exact⟨-1,a,Ag Z Z⟩
   clear a;rintro t l ⟨n,a,⟨T,rfl⟩,rfl⟩
   unfold Ep at a
   refine Cb (λtt ll=> ∃(h:Int),(Eo e c (AO N m e b g) h=some r)/\Is [(1,i),(2,vI b),(3,vP j 0),(9,vI c),(10,vI h)] [(j,35,(Ac m y))] tt ll) ?_ ?_
   ·refine Ad<|rn 1 Z<|r_W (vB (((q[((e[c.toNat]!).1).toNat]!).2.2.2.2.2.2.2.2)==([71,111,110,101]:W2))) Z (Cr Z Z)<|Ak<|aE a Z (λad a=> ?_) (λad a=> ?_)
    ·refine Ah<|rn 2 Z<|kC a λx a=>rI (Rd.shp d) x Z<|rF (Rd.shp d) (Bf x) Z<|rE (Aw d) x 2 Z<|rz Z<|fg _ (Sub.of (suK _ suN)) ?_
     exact⟨(e[c.toNat]!).2.2.1,a,Ag Z Z⟩
    refine Ab<|fg _ (Sub.of (suK _ suN)) ?_
    exact⟨n,a,Ag Z Z⟩
   clear a;rintro t l ⟨h,a,⟨T,rfl⟩,rfl⟩
   unfold Eo at a
   refine Aa λba ae=>Ah<|rn 3 Z<|AF 10 82 [(1,i),(2,vI b),(3,vP j 0),(9,vI c)] vB (λb_=>CA c (AO N m e b g) b_=some r) (λbb a T=> ?_) (λK=> ?_)
   ·unfold CA at a
    refine Ak<|ae _ _ ?_
    refine aB a Z (λaf a=> ?_) (λaf a=> ?_)
    ·refine AZ Z ?_
     cases a
     exact aR eV1
    refine Ab<|W _ _ ?_
    refine Ah<|rn 1 Z<|kC a λag a=>rX ag Z<|rz Z<|fg _ (Sub.of (suK _ suN)) ?_
    exact⟨g+1,by omega,g,(c+1),a,Ag Z Z,Z⟩
   rcases F:(decide (h>=0))with _|_
   ·replace a:=iF F a
    refine rn 4 Z<|Cd Z Z<|Cd Z Z<|Cd Z Z<|Cd Z Z<|rn 2 Z ?_
    exact K _ _ a Z Z
   replace a:=iD F a
   refine rn 4 Z ?_
   rcases G:(decide (h<=c))with _|_
   ·replace a:=iF G a
    refine rn 2 Z<|r_y Z<|rL (Rd.shp d) Z<|rn 3 Z ?_
    exact K _ _ a Z Z
   replace a:=iD G a
   refine rn 6 Z ?_
   exact K _ _ a Z Z
  refine AG<|S _ _ ?_
  refine AZ Z ?_
  cases a
  exact aR eV1
 rcases H:(decide (f<(e.length:Int)))with _|_
 ·replace a:=iF H a
  refine rn 3 Z ?_
  exact K _ _ a Z Z
 replace a:=iD H a
 refine rn 3 Z ?_
 exact K _ _ a Z Z
def Ci(N:Nat)(m:Ao)(b:Int)(c:List (Int×W3)):Nat->Int->Option Int
  |0,_=>none
  |e+1,a=>if a<(c.length:Int)then ck (0<=a/\a<(c.length:Int)) ((CC N ((c[a.toNat]!).1) ((c[a.toNat]!).2)).bind λd=>if d=true then ck (0<=a/\a<(c.length:Int)) (ck (0<=a/\a<(((m.2.2.2.2.2.1)[b.toNat]!.2.1).length:Int)) (if((c[a.toNat]!).1:Int)≠((m.2.2.2.2.2.1)[b.toNat]!.2.1)[a.toNat]! then some 9 else ck (R64 (a+1)) ((Ci N m b c e) (a+1))))else some 9)else some 0
def EN(N:Nat)(m:Ao)(a:Int)(b:List (Int×W3)):Option Int:=ck (0<=a/\a<(m.2.2.2.2.2.1.length:Int)) (if(b.length:Int)≠(((m.2.2.2.2.2.1)[a.toNat]!.2.1).length:Int)then some 2 else Ci N m a b N 0)
theorem LA(N m b C r)(a:EN N m b C=some r)(H)(J:AB)(I:Aa1 H J m)(p)(d:Rd Ad0 H p C):Does prog 143 #[vA (Ac m J),vI b,p] H [] (pV (vI r)):=by
 unfold EN at a
 refine Al follows func143 Z 44 Z _ fz3 (λD=> ?_)
 refine Ad<|rA Z λS=>rz Z<|Ad<|rm 3 [0] Z<|kC a λk a=> ?_
 obtain⟨_,⟨F,K,n,L,rfl⟩,hat9⟩:=RdN.at (E:=Ad7) I.2.2.2.2.1 (Dx k)
 refine rI (RdN.shp I.2.2.2.2.1) k Z<|rF (RdN.shp I.2.2.2.2.1) (Bf k) Z<|Oe F (vs:=[vS ((m.2.2.2.2.2.1)[b.toNat]!.1),F,K]) (b.toNat*3) 1 Z Z (λo w z_=>At.mono z_.ro_cell hat9) Z<|rz Z<|Aa λM q=>Ad<|rn 1 Z<|rL (Rd.shp d) Z<|rn 1 Z<|rL (Rd.shp n) Z ?_
 refine rz Z<|aN a Z (λs a=> ?_) (λs a=> ?_)
 ·refine AZ Z ?_
  cases a
  exact aR eV1
 refine Ab<|q _ _ ?_
 refine Aa λO u=>AZ Z<|Ai<|Bs [] (Sub.of (suC _ suN))<|AH (λtt ll nn=> ∃(c:Nat) (f:Int),(Ci N m b C c f=some r)/\Is [(2,p),(7,F),(8,vI f)] [] tt ll/\nn=c+1) (N+1) ?_ ?_
 ·exact⟨N,0,a,Ag Z Z,Z⟩
 clear a;rintro t l _ ⟨c,f,a,⟨⟨T,rfl⟩,rfl⟩,rfl⟩
 rcases c with _|c
 ·exact absurd a (by simp [Ci])
 rw [Ci] at a
 refine Aa λP v=>Ad<|rn 2 Z<|rL (Rd.shp d) Z<|rz Z<|aD a Z (λx a=> ?_) (λx a=> ?_)
 ·refine Ab<|v _ _ ?_
  refine Aa λQ y=>Ai<|Aa λR h=>Ia [] (by decide+kernel) (λU=>AK)<|rn 2 Z<|kC a λi a=>rI (Rd.shp d) i Z<|rE (Aw d) i 0 Z<|kB a λG z a=>rc _ (cF PB) (GU N ((C[f.toNat]!).1) ((C[f.toNat]!).2) _ z)<|rn 2 Z ?_
  rcases e:(!(G))with _|_
  ·replace a:=ifp (Dl e) a
   refine rn 2 Z<|r_y Z<|kC a λg a=>rI (Rd.shp d) g Z<|r_y Z<|rF (Rd.shp d) (Bf g) Z<|r_y Z<|rE (Aw d) g 0 Z<|rn 2 Z<|r_y Z<|kC a λj a=>rI (Rd.shp n) j Z<|r_y Z<|rE (Aw n) j 0 Z<|rz Z<|h _ _ ?_
   refine aN a Z (λA a=> ?_) (λA a=> ?_)
   ·refine AZ Z ?_
    cases a
    exact aR eV1
   refine Ab<|y _ _ ?_
   refine Ah<|rn 1 Z<|kC a λB a=>rX B Z<|rz Z<|fg _ (Sub.of suN) ?_
   exact⟨c+1,by omega,c,(f+1),a,Ag (by first|rfl|(simp only [e];done)|(simp only [e];rfl)|(simp only [Br];rfl)) Z,Z⟩
  replace a:=ifn (Bool.eq_false_iff.1 (Dk e)) a
  refine rz Z<|h _ _ ?_
  refine Nt Z ?_
  refine AZ Z ?_
  cases a
  exact aR eV1
 refine AG<|u _ _ ?_
 refine AZ Z ?_
 cases a
 exact aR eV1
def FD(a:Bool):Option Int:=if a=true then some 12 else some 0
def Eg(a:Int)(i:Int)(n:Int):Option Int:=if a<=i then FD true else FD (decide (a>n))
def Ef(b:Int)(i:Int)(n:Int)(a:Bool):Option Int:=if a=true then some 12 else Eg b i n 
def Eh(N:Nat)(m:Ao)(e:Int)(f:Int)(d:List (Int×W3))(b:Int)(a:Int)(i:Int)(n:Int):Option Int:=if e=2 then(EN N m f d).bind λc=>if(c:Int)≠0 then some c else if(a:Int)≠0 then some 4 else Eg b i n  else if(d.length:Int)>0 then some 4 else if a<=i then Ef b i n true else Ef b i n (decide (a>n))
def CR(N:Nat)(m:Ao)(a:Int)(d:Int)(c:List (W1))(e:List (Int×W3))(g:Int)(b:Int)(i:Int)(n:Int)(h:Bool):Option Int:=if h=true then some 5 else if a=1 then(Gh N m c 0).bind λf=>if(f:Int)≠0 then some f else Eh N m a d e g b i n  else if(c.length:Int)>0 then some 4 else Eh N m a d e g b i n 
def CS(N:Nat)(m:Ao)(a:Int)(d:Int)(c:List (W1))(e:List (Int×W3))(f:Int)(b:Int)(i:Int)(n:Int)(g:(W2)×(List (W2×Int))×Int×Int×Int×Int×Bool)(h:Bool):Option Int:=if h=true then CR N m a d c e f b i n true else if a=3 then CR N m a d c e f b i n (!(g.2.2.2.2.2.2))else CR N m a d c e f b i n false
def Ch(N:Nat)(m:Ao)(a:Int)(b:Int)(d:List (W1))(f:List (Int×W3))(g:Int)(c:Int)(i:Int)(n:Int)(e:(W2)×(List (W2×Int))×Int×Int×Int×Int×Bool)(h:Bool):Option Int:=if h=true then CS N m a b d f g c i n e true else if a=1 then CS N m a b d f g c i n e (b !=0)else CS N m a b d f g c i n e false
def CT(N:Nat)(m:Ao)(b:Int)(a:Int)(d:List (W1))(f:List (Int×W3))(g:Int)(c:Int)(i:Int)(n:Int)(e:(W2)×(List (W2×Int))×Int×Int×Int×Int×Bool)(h:Bool):Option Int:=if h=true then Ch N m b a d f g c i n e true else if b=2 then if a<0 then Ch N m b a d f g c i n e true else Ch N m b a d f g c i n e (decide (a>=(m.2.2.2.2.2.1.length:Int)))else Ch N m b a d f g c i n e false
def Ei(N:Nat)(m:Ao)(b:Int)(a:Int)(d:List (W1))(f:List (Int×W3))(g:Int)(c:Int)(i:Int)(n:Int)(h:Bool):Option Int:=if h=true then some 10 else(Bg N m a).bind λe=>if b=0 then if a<0 then CT N m b a d f g c i n e true else CT N m b a d f g c i n e (decide (a>=(m.2.2.2.2.2.2.1.length:Int)))else CT N m b a d f g c i n e false
def EI(N:Nat)(m:Ao)(a:Int)(d:Int)(c:List (W1))(e:List (Int×W3))(f:Int)(b:Int)(i:Int)(n:Int):Option Int:=if a<0 then Ei N m a d c e f b i n true else Ei N m a d c e f b i n (decide (a>3))
theorem PG(N m b c p k d f i n r)(a:EI N m b c p k d f i n=some r)(ro)(u:AB)(hm:Aa1 ro u m)(g)(I:Rd Ac8 ro g p)(h)(J:Rd Ad0 ro h k):Does prog 87 #[vA (Ac m u),vA #[vI b,vI c,g,h,vI d,vI f],vI i,vI n] ro [] (pV (vI r)):=by
 unfold EI at a
 refine Al follows func87 Z 134 Z _ fz4 (λal=> ?_)
 refine Ad<|rA Z λs=>rA Z λq=>rz Z<|Aa λK4 am=>Aa λK5 an=>Ah<|rm 4 [0] Z<|AF 4 20 [(2,vI i),(3,vI n),(4,vP s 0),(5,vP q 0)] vB (λb_=>Ei N m b c p k d f i n b_=some r) (λb6 a T=> ?_) (λj=> ?_)
 ·unfold Ei at a
  refine Ak<|an _ _ ?_
  refine aB a Z (λao a=> ?_) (λao a=> ?_)
  ·refine AZ Z ?_
   cases a
   exact aR eV1
  refine Ab<|am _ _ ?_
  refine Ad<|rm 3 [1,0] Z<|kB a λe K a=>gM (Ls:=[(SO q b c g h d f),[(s,35,(Ac m u))]]) (FL:=[]) [] (cF Tg) (λo w hn_ z_=>rom [] Z z_ (Dr N m c _ K ro u hm)) ?_
  rintro _ _ ⟨L,M,⟨rfl,rfl⟩⟩
  refine Dv (Ls:=[(SO q b c g h d f),[(s,35,(Ac m u))]]) (Ls':=[(SO q b c g h d f),[(s,35,(Ac m u))]]) [0,1] Z Z<|rn 3 Z<|rA Z λap=>r_s [(ap,94, #[vS e.1,L,vI e.2.2.1,vI e.2.2.2.1,vI e.2.2.2.2.1,vI e.2.2.2.2.2.1]),(q,180, #[vI b,vI c,g,h,vI d,vI f]),(s,35,(Ac m u))] 0 _ _ _ _ _ (#[vS e.1,L,vI e.2.2.1,vI e.2.2.2.1,vI e.2.2.2.2.1,vI e.2.2.2.2.2.1]) Z Z Z Z (.ofS Z Z (Ae Z (Ae (Shp.one (Rd.shp M)) (Ae Z (Ae Z (Ae Z (Ae Z BA))))))) Z Z<|rz Z<|Aa λav O=>Aa λaw P=>Ah<|rm 4 [1] Z ?_
  refine AF 12 43 [(2,vI i),(3,vI n),(4,vP s 0),(5,vP q 0),(10,vB e.2.2.2.2.2.2)] vB (λb_=>CT N m b c p k d f i n e b_=some r) (λaq a T=> ?_) (λj=> ?_)
  ·unfold CT at a
   refine rn 1 Z<|AF 17 61 [(2,vI i),(3,vI n),(4,vP s 0),(5,vP q 0),(10,vB e.2.2.2.2.2.2)] vB (λb_=>Ch N m b c p k d f i n e b_=some r) (λar a T=> ?_) (λj=> ?_)
   ·unfold Ch at a
    refine rn 1 Z<|AF 9 71 [(2,vI i),(3,vI n),(4,vP s 0),(5,vP q 0),(10,vB e.2.2.2.2.2.2)] vB (λb_=>CS N m b c p k d f i n e b_=some r) (λau a T=> ?_) (λj=> ?_)
    ·unfold CS at a
     refine rn 1 Z<|AF 8 80 [(2,vI i),(3,vI n),(4,vP s 0),(5,vP q 0)] vB (λb_=>CR N m b c p k d f i n b_=some r) (λax a T=> ?_) (λj=> ?_)
     ·unfold CR at a
      refine Ak<|P _ _ ?_
      refine aB a Z (λQ a=> ?_) (λQ a=> ?_)
      ·refine AZ Z ?_
       cases a
       exact aR eV1
      refine Ab<|O _ _ ?_
      refine Cb (λtt ll=>(Eh N m b c k d f i n  =some r)/\Is [(2,vI i),(3,vI n),(4,vP s 0),(5,vP q 0)] [(q,180, #[vI b,vI c,g,h,vI d,vI f]),(s,35,(Ac m u))] tt ll) ?_ ?_
      ·refine AY [1] Z<|aE a Z (λR a=> ?_) (λR a=> ?_)
       ·refine Ad<|rm 3 [2,1] Z<|kB a λay S a=>gV _ (cF ia) (λo w z_=>LD N m p 0 _ S z_.view u (Aa1.mono z_.ro_cell hm) g (z_.r I))<|rz Z<|AZ Z<|aN a Z (λU a=> ?_) (λU a=> ?_)
        ·refine AZ Z ?_
         cases a
         exact aR eV1
        refine Ab<|fg _ (Sub.of (suC _ (suK _ (suK _ suN)))) ?_
        exact⟨a,Ag Z Z⟩
       refine Ad<|rm 2 [1] Z<|rL (Rd.shp I) Z<|rz Z<|aD a Z (λV a=> ?_) (λV a=> ?_)
       ·refine AZ Z ?_
        cases a
        exact aR eV1
       refine Ab<|fg _ (Sub.of (suC _ (suK _ (suK _ suN)))) ?_
       exact⟨a,Ag Z Z⟩
      clear a;rintro t l ⟨a,⟨T,rfl⟩,rfl⟩
      unfold Eh at a
      refine Cb (λtt ll=>(Eg d i n  =some r)/\Is [(2,vI i),(3,vI n),(5,vP q 0)] (SO q b c g h d f) tt ll) ?_ ?_
      ·refine AY [0] Z<|aE a Z (λW a=> ?_) (λW a=> ?_)
       ·refine Ad<|rm 5 [1,0,0] Z<|kB a λaz X a=>gV _ (cF dU) (λo w z_=>LA N m c k _ X z_.view u (Aa1.mono z_.ro_cell hm) h (z_.r J))<|rz Z<|Aa λba Y=>AZ Z<|aN a Z (λaa a=> ?_) (λaa a=> ?_)
        ·refine AZ Z ?_
         cases a
         exact aR eV1
        refine Ab<|Y _ _ ?_
        refine AY [0] Z<|aN a Z (λab a=> ?_) (λab a=> ?_)
        ·refine AZ Z ?_
         cases a
         exact aR eV1
        refine Ab<|fg _ (Sub.of (suK _ (suC _ suN))) ?_
        exact⟨a,Ag Z Z⟩
       refine Aa λbb ac=>Ad<|rm 2 [0] Z<|rL (Rd.shp J) Z<|rz Z<|aD a Z (λad a=> ?_) (λad a=> ?_)
       ·refine AZ Z ?_
        cases a
        exact aR eV1
       refine Ab<|ac _ _ ?_
       refine Aa λbc ae=>Ah<|rm 5 [0] Z<|AF 5 123 [(2,vI i),(3,vI n),(5,vP q 0)] vB (λb_=>Ef d i n b_=some r) (λbd a T=> ?_) (λj=> ?_)
       ·unfold Ef at a
        refine Ak<|ae _ _ ?_
        refine aB a Z (λaf a=> ?_) (λaf a=> ?_)
        ·refine AZ Z ?_
         cases a
         exact aR eV1
        refine Ab<|fg _ (Sub.of (suK _ (suC _ suN))) ?_
        exact⟨a,Ag Z Z⟩
       rcases v:(decide (f<=i))with _|_
       ·replace a:=iF v a
        refine rn 1 Z<|r_y Z<|rm 4 [0] Z ?_
        exact j _ _ a Z Z
       replace a:=iD v a
       refine rn 5 Z ?_
       exact j _ _ a Z Z
      clear a;rintro t l ⟨a,⟨T,rfl⟩,rfl⟩
      unfold Eg at a
      refine Aa λbe ag=>Aa λbf ah=>Ah<|rm 5 [0] Z<|AF 5 133 [] vB (λb_=>FD b_=some r) (λbg a T=> ?_) (λj=> ?_)
      ·unfold FD at a
       refine Ak<|ah _ _ ?_
       refine aB a Z (λai a=> ?_) (λai a=> ?_)
       ·refine AZ Z ?_
        cases a
        exact aR eV1
       refine Ab<|ag _ _ ?_
       refine AZ Z ?_
       cases a
       exact aR eV1
      rcases x:(decide (d<=i))with _|_
      ·replace a:=iF x a
       refine rn 1 Z<|r_y Z<|rm 4 [0] Z ?_
       exact j _ _ a Z Z
      replace a:=iD x a
      refine rn 5 Z ?_
      exact j _ _ a Z Z
     rcases y:au with _|_
     ·replace a:=iB y a
      refine rn 1 Z<|r_y Z<|rm 3 [1] Z ?_
      rcases z:(b==3)with _|_
      ·replace a:=iG z a
       refine rn 4 Z ?_
       exact j _ _ a Z Z
      replace a:=iE z a
      refine rn 4 Z ?_
      exact j _ _ a Z Z
     replace a:=ifp y a
     refine rn 4 Z<|Cd Z Z<|Cd Z Z<|rn 2 Z ?_
     exact j _ _ a Z Z
    rcases A:ar with _|_
    ·replace a:=iB A a
     refine rn 1 Z<|r_y Z<|rm 3 [1] Z ?_
     rcases B:(b==1)with _|_
     ·replace a:=iG B a
      refine rn 5 Z ?_
      exact j _ _ a Z Z
     replace a:=iE B a
     refine rn 1 Z<|r_y Z<|rm 4 [1] Z ?_
     exact j _ _ a Z Z
    replace a:=ifp A a
    refine rn 4 Z<|Cd Z Z<|Cd Z Z<|Cd Z Z<|rn 2 Z ?_
    exact j _ _ a Z Z
   rcases C:aq with _|_
   ·replace a:=iB C a
    refine rn 1 Z<|r_y Z<|rm 3 [1] Z ?_
    rcases D:(b==2)with _|_
    ·replace a:=iG D a
     refine rn 4 Z<|Cd Z Z<|Cd Z Z<|Cd Z Z<|Cd Z Z<|Cd Z Z<|Cd Z Z<|rn 3 Z ?_
     exact j _ _ a Z Z
    replace a:=iE D a
    refine rn 1 Z<|r_y Z<|rm 3 [1] Z ?_
    rcases E:(decide (c<0))with _|_
    ·replace a:=iF E a
     refine rn 1 Z<|r_y Z<|rm 2 [1] Z<|r_y Z<|rm 1 [2] Z<|r_y Z<|rL (RdN.shp hm.2.2.2.2.1) Z<|rn 4 Z ?_
     exact j _ _ a Z Z
    replace a:=iD E a
    refine rn 9 Z ?_
    exact j _ _ a Z Z
   replace a:=ifp C a
   refine rn 4 Z<|Cd Z Z<|Cd Z Z<|Cd Z Z<|Cd Z Z<|Cd Z Z<|Cd Z Z<|Cd Z Z<|Cd Z Z<|Cd Z Z<|Cd Z Z<|Cd Z Z<|rn 2 Z ?_
   exact j _ _ a Z Z
  rcases F:(b==0)with _|_
  ·replace a:=iG F a
   refine rn 4 Z<|Cd Z Z<|Cd Z Z<|Cd Z Z<|Cd Z Z<|Cd Z Z<|Cd Z Z<|rn 2 Z ?_
   exact j _ _ a Z Z
  replace a:=iE F a
  refine rn 1 Z<|r_y Z<|rm 3 [1] Z ?_
  rcases G:(decide (c<0))with _|_
  ·replace a:=iF G a
   refine rn 1 Z<|r_y Z<|rm 2 [1] Z<|r_y Z<|rm 1 [2] Z<|r_y Z<|rL (RdN.shp hm.2.2.2.2.2.1) Z<|rn 3 Z ?_
   exact j _ _ a Z Z
  replace a:=iD G a
  refine rn 8 Z ?_
  exact j _ _ a Z Z
 rcases H:(decide (b<0))with _|_
 ·replace a:=iF H a
  refine rn 1 Z<|r_y Z<|rm 3 [0] Z ?_
  exact j _ _ a Z Z
 replace a:=iD H a
 refine rn 4 Z ?_
 exact j _ _ a Z Z
def BY(N:Nat)(m:Ao)(b:List (Int×Int×(List (W1))×(List (Int×W3))×Int×Int)):Nat->Int->Option (Int×Int)
  |0,_=>none
  |d+1,a=>if a<(b.length:Int)then ck (0<=a/\a<(b.length:Int)) ((EI N m (b[a.toNat]!.1) (b[a.toNat]!.2.1) (b[a.toNat]!.2.2.1) (b[a.toNat]!.2.2.2.1) (b[a.toNat]!.2.2.2.2.1) (b[a.toNat]!.2.2.2.2.2) a (b.length:Int)).bind λc=>if(c:Int)≠0 then some (a,c)else ck (R64 (a+1)) ((BY N m b d) (a+1)))else some (0,0)
def Ee(N:Nat)(m:Ao)(a:List (Int×Int×(List (W1))×(List (Int×W3))×Int×Int)):Option (Int×Int):=if(a.length:Int)>32 then some (0,2)else BY N m a N 0
theorem Ll(N m c r)(b:Ee N m c=some r)(F)(z:AB)(L:Aa1 F z m)(j)(d:RdN Ad3 F j c):Does prog 42 #[vA (Ac m z),j] F [] (pV (vT #[vI r.1,vI r.2])):=by
 unfold Ee at b
 refine Al follows func42 Z 30 Z _ fz2 (λy=> ?_)
 refine Ad<|rA Z λG=>rz Z<|Aa λM A=>Ad<|rn 1 Z<|rL (RdN.shp d) Z<|rz Z<|aD b Z (λB b=> ?_) (λB b=> ?_)
 ·refine AZ Z ?_
  cases b
  exact aR eV2
 refine Ab<|A _ _ ?_
 refine Aa λO C=>AZ Z<|Ai<|AH (λtt ll nn=> ∃(g:Nat) (a:Int),(BY N m c g a=some r)/\Is [(1,j),(2,vP G 0),(6,vI a)] [(G,35,(Ac m z))] tt ll/\nn=g+1) (N+1) ?_ ?_
 ·exact⟨N,0,b,Ag Z Z,Z⟩
 clear b;rintro t l _ ⟨g,a,b,⟨⟨T,rfl⟩,rfl⟩,rfl⟩
 rcases g with _|g
 ·exact absurd b (by simp [BY])
 rw [BY] at b
 refine Aa λH k=>Ad<|rn 2 Z<|rL (RdN.shp d) Z<|rz Z<|aD b Z (λn b=> ?_) (λn b=> ?_)
 ·refine Ab<|k _ _ ?_
  refine Aa λI p=>Ai<|Aa λJ q=>BB [(some 25,false)] (conG prog [(25,cV (EI N m (c[a.toNat]!.1) (c[a.toNat]!.2.1) (c[a.toNat]!.2.2.1) (c[a.toNat]!.2.2.2.1) (c[a.toNat]!.2.2.2.2.1) (c[a.toNat]!.2.2.2.2.2) a (c.length:Int)) λD=>vI D)]) [] (by decide+kernel) (λP=>AK)<|rm 3 [0] Z<|kC b λe b=> ?_
  obtain⟨_,⟨h,i,s,u,rfl⟩,hat20⟩:=RdN.at (E:=Ad3) d (Dx e)
  refine rI (RdN.shp d) e Z<|Oe (vA #[vI (c[a.toNat]!.1),vI (c[a.toNat]!.2.1),h,i,vI (c[a.toNat]!.2.2.2.2.1),vI (c[a.toNat]!.2.2.2.2.2)]) (vs:=[vI (c[a.toNat]!.1),vI (c[a.toNat]!.2.1),h,i,vI (c[a.toNat]!.2.2.2.2.1),vI (c[a.toNat]!.2.2.2.2.2)]) (a.toNat*6) 0 Z Z (λo w z_=>At.mono z_.ro_cell hat20) Z<|rn 2 Z<|rL (RdN.shp d) Z<|kB b λK f b=>rg _ (cF sj) (λo w z_=>PG N m (c[a.toNat]!.1) (c[a.toNat]!.2.1) (c[a.toNat]!.2.2.1) (c[a.toNat]!.2.2.2.1) (c[a.toNat]!.2.2.2.2.1) (c[a.toNat]!.2.2.2.2.2) a (c.length:Int) _ f z_.view z (Aa1.mono z_.ro_cell L) h (z_.r s) i (z_.r u)) (GQ f)<|rz Z<|q _ _ ?_
  refine AZ Z<|aN b Z (λv b=> ?_) (λv b=> ?_)
  ·refine AZ Z ?_
   cases b
   exact aR eV2
  refine Ab<|p _ _ ?_
  refine Ah<|rn 1 Z<|kC b λx b=>rX x Z<|rz Z<|fg _ (Sub.of (suK _ suN)) ?_
  exact⟨g+1,by omega,g,(a+1),b,Ag Z Z,Z⟩
 refine AG<|C _ _ ?_
 refine AZ Z ?_
 cases b
 exact aR eV2
def Ck(b:List (W2×Int)):Nat->Int->Int->Option Int
  |0,_,_=>none
  |d+1,c,a=>if a<(b.length:Int)then ck (0<=a/\a<(b.length:Int)) (ck ((R64 (c+(b[a.toNat]!).2))) (ck (R64 (a+1)) ((Ck b d) (c+(b[a.toNat]!).2) (a+1))))else some c
def Gj(N:Nat)(_:W2)(a:List (W2×Int))(_:Int)(_:Int)(_:Int)(_:Int):Option Int:=Ck a N 0 0
theorem PH(N i g j k m n r)(a:Gj N i g j k m n=some r)(y e)(b:Rd Ab3 y e g):Does prog 89 #[vA #[vS i,e,vI j,vI k,vI m,vI n]] y [] (pV (vI r)):=by
 unfold Gj at a
 refine Al follows func89 Z 21 Z _ fz1 (λs=> ?_)
 refine Ad<|rA Z λx=>rz Z<|AZ Z<|Aa λA u=>AZ Z<|Ai<|AH (λtt ll nn=> ∃(h:Nat) (f:Int) (c:Int),(Ck g h f c=some r)/\Is [(1,vP x 0),(3,vI f),(4,vI c)] (rq x i e j k m n) tt ll/\nn=h+1) (N+1) ?_ ?_
 ·exact⟨N,0,0,a,Ag Z Z,Z⟩
 clear a;rintro t l _ ⟨h,f,c,a,⟨⟨T,rfl⟩,rfl⟩,rfl⟩
 rcases h with _|h
 ·exact absurd a (by simp [Ck])
 rw [Ck] at a
 refine Aa λB v=>Ad<|rm 3 [0] Z<|rL (Rd.shp b) Z<|rz Z<|aD a Z (λw a=> ?_) (λw a=> ?_)
 ·refine Ab<|v _ _ ?_
  refine Aa λz o=>Ai<|Ah<|rm 4 [0] Z<|kC a λd a=>rI (Rd.shp b) d Z<|rF (Rd.shp b) (Bf d) Z<|rE (Aw b) d 1 Z<|kC a λp a=>rX p Z<|rz Z<|o _ _ ?_
  refine Ah<|rn 1 Z<|kC a λq a=>rX q Z<|rz Z<|fg _ (Sub.of (suK _ suN)) ?_
  exact⟨h+1,by omega,h,(f+(g[c.toNat]!).2),(c+1),a,Ag Z Z,Z⟩
 refine AG<|u _ _ ?_
 refine AZ Z ?_
 cases a
 exact aR eV1
def Cf(N:Nat)(m:Ao)(b:List (Int×Int)):Nat->Int->Option (Int×Int)
  |0,_=>none
  |f+1,a=>if a<(b.length:Int)then ck (0<=a/\a<(b.length:Int)) (ck (0<=a/\a<(b.length:Int)) ((Cj N m ((b[a.toNat]!).1) ((b[a.toNat]!).2)).bind λe=>if e.2=true then ck (0<=a/\a<(b.length:Int)) ((Bg N m ((b[a.toNat]!).1)).bind λd=>if(e.1:Int)≠16 then some (a,9)else ck (0<=a/\a<(b.length:Int)) (ck (0<=(b[a.toNat]!).2/\(b[a.toNat]!).2<=(d.2.1.length:Int)) ((Gj N ([]) (((d.2.1).take (((b[a.toNat]!).2).toNat)).drop 0) 0 0 0 0).bind λc=>ck (0<=c/\c<=9223372036854775807) (if(c%16:Int)≠0 then some (a,9)else ck (R64 (a+1)) ((Cf N m b f) (a+1))))))else some (a,5)))else some (0,0)
def EH(N:Nat)(m:Ao)(a:List (Int×Int)):Option (Int×Int):=if(a.length:Int)>4 then some (0,2)else Cf N m a N 0
theorem Ly(N m f r)(a:EH N m f=some r)(z)(k:AB)(hm:Aa1 z k m)(A)(e:Rd Ae6 z A f):Does prog 44 #[vA (Ac m k),A] z [] (pV (vT #[vI r.1,vI r.2])):=by
 unfold EH at a
 refine Al follows func44 Z 65 Z _ fz2 (λU=> ?_)
 refine Ad<|rA Z λy=>rz Z<|Aa λK3 V=>Ad<|rn 1 Z<|rL (Rd.shp e) Z<|rz Z<|aD a Z (λW a=> ?_) (λW a=> ?_)
 ·refine AZ Z ?_
  cases a
  exact aR eV2
 refine Ab<|V _ _ ?_
 refine Aa λK7 X=>AZ Z<|Ai<|AH (λtt ll nn=> ∃(E:Nat) (d:Int),(Cf N m f E d=some r)/\Is [(1,A),(2,vP y 0),(6,vI d)] [(y,35,(Ac m k))] tt ll/\nn=E+1) (N+1) ?_ ?_
 ·exact⟨N,0,a,Ag Z Z,Z⟩
 clear a;rintro t l _ ⟨E,d,a,⟨⟨T,rfl⟩,rfl⟩,rfl⟩
 rcases E with _|E
 ·exact absurd a (by simp [Cf])
 rw [Cf] at a
 refine Aa λad F=>Ad<|rn 2 Z<|rL (Rd.shp e) Z<|rz Z<|aD a Z (λG a=> ?_) (λG a=> ?_)
 ·refine Ab<|F _ _ ?_
  refine Aa λae H=>Ai<|Aa λaf I=>BB [(some 32,false)] (conG prog [(32,cV (Cj N m ((f[d.toNat]!).1) ((f[d.toNat]!).2)) λb=>vT #[vI b.1,vB b.2])]) [] (by decide+kernel) (λhn=>AK)<|rm 3 [0] Z<|kC a λn a=>rI (Rd.shp e) n Z<|rF (Rd.shp e) (Bf n) Z<|rE (Aw e) n 0 Z<|rn 2 Z<|kC a λq a=>rI (Rd.shp e) q Z<|rF (Rd.shp e) (Bf q) Z<|rE (Aw e) q 1 Z<|kB a λJ B a=>rg _ (cF aP) (λo w z_=>IM N m ((f[d.toNat]!).1) ((f[d.toNat]!).2) _ B z_.view k (Aa1.mono z_.ro_cell hm)) (GQ B)<|rz Z<|I _ _ ?_
  refine Aa λag K=>AZ Z<|BI _ Z (λs=> ?_) (λs=> ?_)
  ·replace a:=ifn (Bool.eq_false_iff.1 (Dk s)) a
   refine AZ Z<|GS [(4,vI d),(5,vI 5)] Z (λT=> ?_)
   cases a
   exact aR eV2
  replace a:=ifp (Dl s) a
  refine Ab<|K _ _ ?_
  refine Aa λah L=>xD (p:= ∀b,Bg N m ((f[d.toNat]!).1)=some b-> ∃s_,Rd Ab3 z s_ b.2.1) (λw_ hi_ hro_ b Y=>by obtain⟨_,_,⟨_,h_,_⟩⟩:=wL (PP:=(oR Ab3 z b.2.1 λs_0=>(oE (vT #[vA #[vS b.1,s_0,vI b.2.2.1,vI b.2.2.2.1,vI b.2.2.2.2.1,vI b.2.2.2.2.2.1],vB b.2.2.2.2.2.2]) []))) w_ trivial hro_ (Dr N m ((f[d.toNat]!).1) _ Y z k hm);exact⟨_,h_⟩) (λM=> ?_)
  refine BB [(some 45,false)] (conG prog [(45,λ_ _ v_ L_ U_=> ∀b,Bg N m ((f[d.toNat]!).1)=some b->(pO (List.flatten []) (oR Ab3 z b.2.1 λs_0=>(oE (vT #[vA #[vS b.1,s_0,vI b.2.2.1,vI b.2.2.2.1,vI b.2.2.2.2.1,vI b.2.2.2.2.2.1],vB b.2.2.2.2.2.2]) []))) v_ L_ U_)]) [] (by decide+kernel) (λhn=>AK)<|rm 3 [0] Z<|kC a λu a=>rI (Rd.shp e) u Z<|rF (Rd.shp e) (Bf u) Z<|rE (Aw e) u 0 Z<|kB a λc v a=>ww (Ls:=[[(y,35,(Ac m k))]]) (RL:=[[(y,35,(Ac m k))]]) (oR Ab3 z c.2.1 λs_0=>(oE (vT #[vA #[vS c.1,s_0,vI c.2.2.1,vI c.2.2.2.1,vI c.2.2.2.2.1,vI c.2.2.2.2.2.1],vB c.2.2.2.2.2.2]) [])) 45 43 _ Z Z Z (cF Tg) (λo w z_=>DoesI.ro_mono (LH (Ls:=[[(y,35,(Ac m k))]]) (is:=[]) Z z_) (Dr N m ((f[d.toNat]!).1) _ v z k hm)) (GQ v) (by rintro v_ O_ ⟨_,_,⟨_,h_⟩⟩;exact h_) (Ac6.sub (R:=[]) (tQ (M _ v) λs_0=>(Uk Z)) (Sub.pick [] [] Z)) ?_
  rintro _ _ ⟨j,g,⟨rfl,rfl⟩⟩
  refine Dv (Ls:=[[(y,35,(Ac m k))]]) (Ls':=[[(y,35,(Ac m k))]]) [0] Z Z<|rn 3 Z<|rA Z λO=>Zz [(O,94, #[vS c.1,j,vI c.2.2.1,vI c.2.2.2.1,vI c.2.2.2.2.1,vI c.2.2.2.2.2.1]),(y,35,(Ac m k))] 0 _ _ _ (#[Value.string (⟨#[]⟩),nS,vI 0,vI 0,vI 0,vI 0]) (#[vS c.1,j,vI c.2.2.1,vI c.2.2.2.1,vI c.2.2.2.2.1,vI c.2.2.2.2.2.1]) (#[vS c.1,j,vI c.2.2.1,vI c.2.2.2.1,vI c.2.2.2.2.1,vI c.2.2.2.2.2.1]) Z Z Z Z Z (.ofS Z Z (Ae Z (Ae (Shp.one (Rd.shp g)) (Ae Z (Ae Z (Ae Z (Ae Z BA))))))) Z Z<|rz Z<|L _ _ ?_
  refine GS [(1,A),(2,vP y 0),(6,vI d),(7,vI J.1),(9,vP O 0)] Z (λT=> ?_)
  refine Aa λai C=>BB [(some 60,false)] (conG prog [(60,cV (Gj N ([]) (((c.2.1).take (((f[d.toNat]!).2).toNat)).drop 0) 0 0 0 0) λb=>vI b)]) [] (by decide+kernel) (λhn=>AK)<|rn 3 Z ?_
  rcases h:(J.1 !=16)with _|_
  ·replace a:=iM h a
   refine rn 1 Z<|r_y Z<|rm 3 [0] Z<|r_y Z<|kC a λx a=>rI (Rd.shp e) x Z<|r_y Z<|rF (Rd.shp e) (Bf x) Z<|r_y Z<|rE (Aw e) x 1 Z<|r_y Z<|kC a λi a=>r_W (GE j 0 (((f[d.toNat]!).2).toNat) 2) Z (Fc (Jb Z Z Z Z (Rd.shp g) i))<|r_y Z<|r_W (vA #[Value.string (⟨#[]⟩),GE j 0 (((f[d.toNat]!).2).toNat) 2,vI 0,vI 0,vI 0,vI 0]) Z (NW Z Z Z (Jo (Gs Z (qm (Shp.sub (Rd.shp g) (Nat.zero_le _) (Hp i.2)) (vn (Hp i.2)))) QI) Z)<|r_y Z<|kB a λaa D a=>rg _ (cF si) (λo w z_=>PH N ([]) (((c.2.1).take (((f[d.toNat]!).2).toNat)).drop 0) 0 0 0 0 _ D z_.view (GE j 0 (((f[d.toNat]!).2).toNat) 2) ((PL (Aw g) (Nat.zero_le _) (Hp i.2)) o w z_)) (GQ D)<|r_y Z<|kC a λP a=>r_X (vI (aa%16)) Z (SA P.1) Z<|rz Z<|C _ _ ?_
   refine aN a Z (λQ a=> ?_) (λQ a=> ?_)
   ·refine AZ Z ?_
    cases a
    exact aR eV2
   refine Ab<|H _ _ ?_
   refine Ah<|rn 1 Z<|kC a λS a=>rX S Z<|rz Z<|fg _ (Sub.of (suC _ (suK _ suN))) ?_
   exact⟨E+1,by omega,E,(d+1),a,Ag (by first|rfl|(simp only [h];done)|(simp only [h];rfl)|(simp only [Br];rfl)) Z,Z⟩
  replace a:=iN h a
  refine rz Z<|C _ _ ?_
  refine Nt Z ?_
  refine AZ Z ?_
  cases a
  exact aR eV2
 refine AG<|X _ _ ?_
 refine AZ Z ?_
 cases a
 exact aR eV2
end Go.Proofs.YtjlomkippigejaaGreatDoor
