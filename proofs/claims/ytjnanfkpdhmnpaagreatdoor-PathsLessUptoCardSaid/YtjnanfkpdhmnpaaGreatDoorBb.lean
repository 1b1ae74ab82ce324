import Derived.Test.YtjnanfkpdhmnpaaGreatDoorBa
namespace Go.Proofs.YtjnanfkpdhmnpaaGreatDoor
open Go Go.RowKit Go.Eng _root_.Go.Proofs.Tryz
set_option linter.unusedSimpArgs false
set_option linter.unusedVariables false
set_option maxRecDepth 100000
set_option maxHeartbeats 80000000
abbrev Lp(b:Nat)(x0 x1 x2 x3:Int)(x4 x5:W4):Y0 Bl:=[(b,209, #[vI x0,vI x1,vI x2,vI x3,U x4,U x5])]
abbrev mS(b:Nat)(x0:W2)(x1 x2 x3 x4 x5 x6 x7:Int)(x8:W2):Y0 Bl:=[(b,212, #[vS x0,vI x1,vI x2,vI x3,vI x4,vI x5,vI x6,vI x7,vS x8])]
abbrev Vm(b:Nat)(x0 x1:Int)(x2 x3:Y2)(x4 x5:Int):Y0 Bl:=[(b,88, #[vI x0,vI x1,x2,x3,vI x4,vI x5])]
abbrev sL(b:Nat)(x0:W2)(x1:Y2)(x2 x3 x4 x5:Int):Y0 Bl:=[(b,97, #[vS x0,x1,vI x2,vI x3,vI x4,vI x5])]
def CO(_:Nat)(a:Int)(b:W3):Y1 Y3:=if a>=1 then if a<=128 then some (decide ((((len128 ((hi b)++(lo b)):Nat):Int):Int)<=a))else some false else some false
theorem Hl(N c a r)(b:CO N c a=some r):Gives prog 117 #[vA #[vI c,U (hi a),U (lo a)]] (vB r):=by
 unfold CO at b
 refine Au follows func117 Z 22 Z _ fz1 (λg=> ?_)
 refine Ad<|rA Z λh=>rz Z<|Aa λi d=>HS [] (by decide+kernel) (λj=>AN)<|rm 4 [0] Z ?_
 rcases e:(decide (c>=1))with _|_
 ·replace b:=iF e b
  refine rz Z<|d _ _ ?_
  cases b
  exact aR eE1
 replace b:=iD e b
 refine rn 1 Z<|r_y Z<|rm 4 [0] Z ?_
 rcases f:(decide (c<=128))with _|_
 ·replace b:=iF f b
  refine rz Z<|d _ _ ?_
  cases b
  exact aR eE1
 replace b:=iD f b
 refine rn 1 Z<|r_y Z<|rm 2 [0] Z<|r_y Z<|rm 1 [0] Z<|r_y Z<|rc _ (cF et) (xY (hi a) (lo a))<|r_y Z<|rc _ (cF pF) (vJ ((hi a)++(lo a)))<|rn 1 Z<|r_y Z<|rm 1 [0] Z ?_
 refine rz Z<|d _ _ ?_
 cases b
 exact aR eE1
theorem gk  :prog.eqGuardType prog.depth 200=false:=by kernel_rfl
theorem vG  :prog.stoodInHeld 200=false:=by kernel_rfl
set_option maxRecDepth 100000 in
theorem Xa{c:Addr->Y1 Y2}(d g:Int)(a b:W3):ev prog c (Op.equal 200 (.agg #[vI d,U (hi a),U (lo a)]) (.agg #[vI g,U (hi b),U (lo b)]))=some ((d==g)&&(a==b)):=by
 have h:=UK (P:=prog) (c:=c) 9999 (t:=200) #[vI d,U (hi a),U (lo a)] #[vI g,U (hi b),U (lo b)] Z vG (λf=>if f.offset=0 then(d==g)else if f.offset=1 then(((hi a).toNat:Int)==((hi b).toNat:Int))else(((lo a).toNat:Int)==((lo b).toNat:Int)))
   (λf hf=>by
     simp only [zy,List.not_mem_nil,or_false] at hf
     rcases hf with rfl|rfl|rfl
     · exact⟨by decide,_,_,Lw (P:=prog) (t:=3) Z (by intro fs h;cases h) (by intro n e h;cases h) _ _ Z,Lw (P:=prog) (t:=3) Z (by intro fs h;cases h) (by intro n e h;cases h) _ _ Z,RA _ _ _ Z⟩
     · exact⟨by decide,_,_,Lw (P:=prog) (t:=36) Z (by intro fs h;cases h) (by intro n e h;cases h) _ _ Z,Lw (P:=prog) (t:=36) Z (by intro fs h;cases h) (by intro n e h;cases h) _ _ Z,RA _ _ _ Z⟩
     · exact⟨by decide,_,_,Lw (P:=prog) (t:=36) Z (by intro fs h;cases h) (by intro n e h;cases h) _ _ Z,Lw (P:=prog) (t:=36) Z (by intro fs h;cases h) (by intro n e h;cases h) _ _ Z,RA _ _ _ Z⟩)
 rw [<-bL a b];rw [show Op.equal 200 (.agg #[vI d,U (hi a),U (lo a)]) (.agg #[vI g,U (hi b),U (lo b)])=Op.equalIn (9999+1) 200 (.agg #[vI d,U (hi a),U (lo a)]) (.agg #[vI g,U (hi b),U (lo b)])from Z,h]
 first|(simp;done)|simp [Bool.and_assoc]
def Oc(N:Nat)(c b:Int)(a:W3)(f:Y0 (W0))(d:Y3):Y1 Int:=if d=true then some 7 else if((f[c.toNat]!).1)=([112,117,115,104]:W2)then(CO N b a).bind λe=>if e=true then some 0 else some 1 else if((b==0)&&(a==((0#64)++(0#64))))=true then some 0 else some 1
def Rj(N:Nat)(a e f c:Int)(b:W3)(d:Y0 (W0))(g:Y3):Y1 Int:=if g=true then Oc N a c b d true else if((d[a.toNat]!).1)=([115,108,105,99,101]:W2)then Oc N a c b d (decide (e<f))else Oc N a c b d false
def Rk(N:Nat)(a d b e:Int)(c:W3)(f:Y0 (W0))(g:Y3):Y1 Int:=if g=true then Rj N a d b e c f true else Rj N a d b e c f (decide (b>(f[a.toNat]!).2.2.2.2.2.2.2.1))
def Rl(N:Nat)(a d b e:Int)(c:W3)(f:Y0 (W0))(g:Y3):Y1 Int:=if g=true then Rk N a d b e c f true else Rk N a d b e c f (decide (b<(f[a.toNat]!).2.2.2.2.2.2.1))
def Rm(N:Nat)(a b f e:Int)(d:W3)(g:Y3):Y1 Int:=if g=true then some 10 else(JW N).bind λc=>ck (0<=a/\a<(c.length:Int)) (if b<(c[a.toNat]!).2.2.2.2.1 then Rl N a b f e d c true else Rl N a b f e d c (decide (b>(c[a.toNat]!).2.2.2.2.2.1)))
def SX(N:Nat)(a c e d:Int)(b:W3):Y1 Int:=if a<0 then Rm N a c e d b true else Rm N a c e d b (decide (a>34))
theorem rM(N a g h f d r)(b:SX N a g h f d=some r):Gives prog 120 #[vA #[vI a,vI g,vI h,vI f,U (hi d),U (lo d)]] (vI r):=by
 unfold SX at b
 refine Au follows func120 Z 70 Z _ fz1 (λL=> ?_)
 refine Ad<|rA Z λn=>rz Z<|Aa λK3 M=>Aa λK4 O=>Ah<|rm 4 [0] Z<|AS 4 11 [(1,vP n 0)] vB (λb_=>Rm N a g h f d b_=some r) (λb5 b T=> ?_) (λi=> ?_)
 ·unfold Rm at b
  refine Aj<|O _ _ ?_
  refine aB b Z (λP b=> ?_) (λP b=> ?_)
  ·refine AZ Z ?_
   cases b
   exact aR eE1
  refine Ac<|M _ _ ?_
  refine Aa λK8 Q=>BO [(some 12,false)] (conG prog [(12,λ_ _ v_ L_ U_=> ∀z,JW N  =some z->(p1 (λs_=>s_) 212 Af6 z) v_ L_ U_)]) [] (by decide+kernel) (λhn=>AN)<|kB b λe p b=>cj (Ls:=[(Lp n a g h f (hi d) (lo d))]) (λA=>A) 212 Af6 e 122 _ Z Z Z (cF Xu) (λo w z_=>TW N  _ p z_.view) (Hq p) (λA B C=> ?_)
  refine rm 2 [0] Z<|kC b λq b=>rI (W7 C) q Z<|rE (AB C (Al (Ls:=[(Lp n a g h f (hi d) (lo d)),B]) (k:=1) Z Z)) q 0 Z ?_
  refine rA Z λj=>ZX (V2 [(mS j ((e[a.toNat]!).1) ((e[a.toNat]!).2.1) ((e[a.toNat]!).2.2.1) ((e[a.toNat]!).2.2.2.1) ((e[a.toNat]!).2.2.2.2.1) ((e[a.toNat]!).2.2.2.2.2.1) ((e[a.toNat]!).2.2.2.2.2.2.1) ((e[a.toNat]!).2.2.2.2.2.2.2.1) ((e[a.toNat]!).2.2.2.2.2.2.2.2)),(Lp n a g h f (hi d) (lo d)),B]) 0 _ _ _ (#[V4 (⟨#[]⟩),vI 0,vI 0,vI 0,vI 0,vI 0,vI 0,vI 0,V4 (⟨#[]⟩)]) (#[vS ((e[a.toNat]!).1),vI ((e[a.toNat]!).2.1),vI ((e[a.toNat]!).2.2.1),vI ((e[a.toNat]!).2.2.2.1),vI ((e[a.toNat]!).2.2.2.2.1),vI ((e[a.toNat]!).2.2.2.2.2.1),vI ((e[a.toNat]!).2.2.2.2.2.2.1),vI ((e[a.toNat]!).2.2.2.2.2.2.2.1),vS ((e[a.toNat]!).2.2.2.2.2.2.2.2)]) (#[vS ((e[a.toNat]!).1),vI ((e[a.toNat]!).2.1),vI ((e[a.toNat]!).2.2.1),vI ((e[a.toNat]!).2.2.2.1),vI ((e[a.toNat]!).2.2.2.2.1),vI ((e[a.toNat]!).2.2.2.2.2.1),vI ((e[a.toNat]!).2.2.2.2.2.2.1),vI ((e[a.toNat]!).2.2.2.2.2.2.2.1),vS ((e[a.toNat]!).2.2.2.2.2.2.2.2)]) Z Z Z Z Z (.of Z Z) Z Z ?_
  refine Aj<|Q _ _ ?_
  refine Aa λW D=>Aa λX E=>Ah<|rm 7 [1,0] Z<|AS 7 30 [(1,vP n 0),(3,vP j 0)] vB (λb_=>Rl N a g h f d e b_=some r) (λR b T=> ?_) (λi=> ?_)
  ·unfold Rl at b
   refine rn 1 Z<|AS 7 38 [(1,vP n 0),(3,vP j 0)] vB (λb_=>Rk N a g h f d e b_=some r) (λS b T=> ?_) (λi=> ?_)
   ·unfold Rk at b
    refine rn 1 Z<|AS 7 46 [(1,vP n 0),(3,vP j 0)] vB (λb_=>Rj N a g h f d e b_=some r) (λV b T=> ?_) (λi=> ?_)
    ·unfold Rj at b
     refine rn 1 Z<|AS 11 58 [(1,vP n 0),(3,vP j 0)] vB (λb_=>Oc N a f d e b_=some r) (λY b T=> ?_) (λi=> ?_)
     ·unfold Oc at b
      refine Aj<|E _ _ ?_
      refine aB b Z (λF b=> ?_) (λF b=> ?_)
      ·refine AZ Z ?_
       cases b
       exact aR eE1
      refine Ac<|D _ _ ?_
      refine Aa λaa G=>Ad<|rm 2 [0] Z<|r_W (vB (((e[a.toNat]!).1)==([112,117,115,104]:W2))) Z (FQ Z Z)<|Aj<|aE b Z (λH b=> ?_) (λH b=> ?_)
      ·refine Aa λab I=>Ad<|rm 2 [1] Z<|kB b λac J b=>rc _ (cF Qc) (Hl N f d _ J)<|rz Z<|BS _ Z (λl=> ?_) (λl=> ?_)
       ·replace b:=ifn (Bool.eq_false_iff.1 (DG l)) b
        refine AZ Z ?_
        cases b
        exact aR eE1
       replace b:=ifp (DH l) b
       refine Ac<|I _ _ ?_
       refine AZ Z ?_
       cases b
       exact aR eE1
      refine Ac<|G _ _ ?_
      refine Aa λad K=>Ad<|r_V (vP n 3) Z<|rl (vA #[vI f,U (hi d),U (lo d)]) 1<|r_W (vA #[vI 0,U (0#64),U (0#64)]) Z (Ar Z Z Z Z)<|r_W (vB (!((f==0)&&(d==((0#64)++(0#64)))))) Z (dC Z Z gk (by have h_:=λc=>Xa (c:=c) f 0 d ((0#64)++(0#64));simp only [BB] at h_;exact h_ _)) ?_
      refine Aj<|BS _ Z (λm=> ?_) (λm=> ?_)
      ·replace b:=ifn (Bool.eq_false_iff.1 (DG m)) b
       refine AZ Z ?_
       cases b
       exact aR eE1
      replace b:=ifp (DH m) b
      refine Ac<|K _ _ ?_
      refine AZ Z ?_
      cases b
      exact aR eE1
     rcases s:V with _|_
     ·replace b:=iB s b
      refine rn 1 Z<|r_y Z<|rm 1 [0] Z<|r_y Z<|r_W (vB (((e[a.toNat]!).1)==([115,108,105,99,101]:W2))) Z (FQ Z Z)<|rn 1 Z ?_
      rcases t:(((e[a.toNat]!).1)==([115,108,105,99,101]:W2))with _|_
      ·replace b:=iG t b
       refine rn 7 Z ?_
       exact i _ _ b Z Z
      replace b:=iE t b
      refine rn 1 Z<|r_y Z<|rm 2 [1] Z<|r_y Z<|rm 4 [1] Z ?_
      exact i _ _ b Z Z
     replace b:=ifp s b
     refine rn 4 Z<|Ct Z Z<|Ct Z Z<|Ct Z Z<|Ct Z Z<|Ct Z Z<|rn 2 Z ?_
     exact i _ _ b Z Z
    rcases u:S with _|_
    ·replace b:=iB u b
     refine rn 1 Z<|r_y Z<|rm 3 [1] Z<|r_y Z<|rm 3 [0] Z ?_
     exact i _ _ b Z Z
    replace b:=ifp u b
    refine rn 7 Z ?_
    exact i _ _ b Z Z
   rcases v:R with _|_
   ·replace b:=iB v b
    refine rn 1 Z<|r_y Z<|rm 3 [1] Z<|r_y Z<|rm 3 [0] Z ?_
    exact i _ _ b Z Z
   replace b:=ifp v b
   refine rn 7 Z ?_
   exact i _ _ b Z Z
  rcases x:(decide (g<(e[a.toNat]!).2.2.2.2.1))with _|_
  ·replace b:=iF x b
   refine rn 1 Z<|r_y Z<|rm 3 [1] Z<|r_y Z<|rm 3 [0] Z ?_
   exact i _ _ b Z Z
  replace b:=iD x b
  refine rn 7 Z ?_
  exact i _ _ b Z Z
 rcases y:(decide (a<0))with _|_
 ·replace b:=iF y b
  refine rn 1 Z<|r_y Z<|rm 3 [0] Z ?_
  exact i _ _ b Z Z
 replace b:=iD y b
 refine rn 4 Z ?_
 exact i _ _ b Z Z
def Ea(f:Int)(a:(W2)×(Y0 (W2×Int))×Int×Int×Int×Int×Y3)(b:Y3):Y1 (Int×Y3):=if b=true then some (0,false)else ck (0<=f/\f<(a.2.1.length:Int)) (some (((a.2.1)[f.toNat]!).2,true))
def Eb(f:Int)(a:(W2)×(Y0 (W2×Int))×Int×Int×Int×Int×Y3)(b:Y3):Y1 (Int×Y3):=if b=true then Ea f a true else Ea f a (decide (f>=(a.2.1.length:Int)))
def Cy(N:Nat)(m:Ao)(b f:Int):Y1 (Int×Y3):=(Bt N m b).bind λa=>if a.2.2.2.2.2.2=true then Eb f a (decide (f<0))else Eb f a true
theorem Je(N m e f r)(a:Cy N m e f=some r)(v)(i:AC)(A:Aa2 v i m):Does prog 60 #[vA (Ab m i),vI e,vI f] v [] (pV (vT #[vI r.1,vB r.2])):=by
 unfold Cy at a
 refine Ak follows func60 Z 35 Z _ fz3 (λn=> ?_)
 refine Ad<|rA Z λp=>rz Z<|Ad<|rm 2 [0] Z<|kB a λb q a=>gM (Ls:=[[(p,35,(Ab m i))]]) (FL:=[]) [] (cF TI) (λo w hn_ z_=>rom [] Z z_ (DB N m e _ q v i A)) ?_
 rintro _ _ ⟨x,c,⟨rfl,rfl⟩⟩
 refine AK (Ls:=[[(p,35,(Ab m i))]]) (Ls':=[[(p,35,(Ab m i))]]) [0] Z Z<|rn 3 Z<|rA Z λs=>r_s [(s,97, #[vS b.1,x,vI b.2.2.1,vI b.2.2.2.1,vI b.2.2.2.2.1,vI b.2.2.2.2.2.1]),(p,35,(Ab m i))] 0 _ _ _ _ _ (#[vS b.1,x,vI b.2.2.1,vI b.2.2.2.1,vI b.2.2.2.2.1,vI b.2.2.2.2.2.1]) Z Z Z Z (.ofS Z Z (Ae Z (sR c (Ae Z (Ae Z (Ae Z (Ae Z AD))))))) Z Z<|rz Z<|Aa λB t=>Aa λy j=>Ah<|rn 3 Z<|AS 3 21 [(2,vI f),(8,vP s 0)] vB (λb_=>Eb f b b_=some r) (λu a T=> ?_) (λk=> ?_)
 ·unfold Eb at a
  refine rn 1 Z<|AS 6 28 [(2,vI f),(8,vP s 0)] vB (λb_=>Ea f b b_=some r) (λz a T=> ?_) (λk=> ?_)
  ·unfold Ea at a
   refine Aj<|j _ _ ?_
   refine aB a Z (λl a=> ?_) (λl a=> ?_)
   ·refine AZ Z ?_
    cases a
    exact aR eV2
   refine Ac<|t _ _ ?_
   refine Ad<|rm 3 [0] Z<|kC a λd a=>rI (W8 c) d Z<|rF (W8 c) (Bp d) Z<|rE (Ay c) d 1 Z<|rz Z ?_
   cases a
   exact aR eV2
  rcases g:u with _|_
  ·replace a:=iB g a
   refine rn 2 Z<|r_y Z<|rm 1 [0] Z<|r_y Z<|rL (W8 c) Z<|rn 2 Z ?_
   exact k _ _ a Z Z
  replace a:=ifp g a
  refine rn 6 Z ?_
  exact k _ _ a Z Z
 rcases h:(!(b.2.2.2.2.2.2))with _|_
 ·replace a:=ifp (DH h) a
  refine rn 3 Z ?_
  exact k _ _ a Z Z
 replace a:=ifn (Bool.eq_false_iff.1 (DG h)) a
 refine rn 3 Z ?_
 exact k _ _ a Z Z
def Ez(m:Ao)(i:Int)(a:Y3):Y1 (Int×Y3):=if a=true then ck (R64 (i - 8)) (ck (0<=(i - 8)/\(i - 8)<(m.2.2.2.1.length:Int)) (some (((m.2.2.2.1)[((i - 8)).toNat]!).2,true)))else some (0,false)
def EA(m:Ao)(i:Int)(a:Y3):Y1 (Int×Y3):=if a=true then ck (0<=i/\i<(([8,8,8,1,8,1,16,8]).length:Int)) (some (([8,8,8,1,8,1,16,8])[i.toNat]!,true))else if i>=8 then ck (R64 (i - 8)) (Ez m i (decide (((i - 8):Int)<(m.2.2.2.1.length:Int))))else Ez m i false
def EY(_:Nat)(m:Ao)(i:Int):Y1 (Int×Y3):=if i>=0 then EA m i (decide (i<8))else EA m i false
theorem Me(N m i r)(a:EY N m i=some r)(x)(s:AC)(t:Aa2 x s m):Does prog 194 #[vA (Ab m s),vI i] x [] (pV (vT #[vI r.1,vB r.2])):=by
 unfold EY at a
 refine Ak follows func194 Z 35 Z _ fz2 (λp=> ?_)
 refine Ad<|rA Z λq=>rz Z<|Ad<|gB (Ls:=[[(q,35,(Ab m s))]]) 3 Ca [8,8,8,1,8,1,16,8] (λy z w=> ?_)
 refine rz Z<|Aa λD u=>Aa λE v=>Ah<|rn 3 Z<|AS 3 13 [(1,vI i),(2,vP q 0),(6,y)] vB (λb_=>EA m i b_=some r) (λF a T=> ?_) (λf=> ?_)
 ·unfold EA at a
  refine Aj<|v _ _ ?_
  refine aB a Z (λg a=> ?_) (λg a=> ?_)
  ·refine Ad<|rn 2 Z<|kC a λc a=>rI (W7 w) c Z<|rE (AB w (Al (Ls:=[[(q,35,(Ab m s))],z]) (k:=1) Z Z)) c 0 Z<|rz Z ?_
   cases a
   exact aR eV2
  refine Ac<|u _ _ ?_
  refine Aa λA h=>Aa λB j=>Ah<|rn 3 Z<|AS 7 27 [(1,vI i),(2,vP q 0)] vB (λb_=>Ez m i b_=some r) (λC a T=> ?_) (λf=> ?_)
  ·unfold Ez at a
   refine Aj<|j _ _ ?_
   refine aB a Z (λl a=> ?_) (λl a=> ?_)
   ·refine Ad<|rm 3 [0] Z<|kC a λn a=>rX n Z<|kC a λb a=>rI (W8 t.2.2.1) b Z<|rF (W8 t.2.2.1) (Bp b) Z<|rE (Ay t.2.2.1) b 1 Z<|rz Z ?_
    cases a
    exact aR eV2
   refine Ac<|h _ _ ?_
   refine AZ Z ?_
   cases a
   exact aR eV2
  rcases d:(decide (i>=8))with _|_
  ·replace a:=iF d a
   refine rn 7 Z ?_
   exact f _ _ a Z Z
  replace a:=iD d a
  refine rn 1 Z<|r_y Z<|kC a λo a=>rX o Z<|rn 1 Z<|r_y Z<|rm 1 [0] Z<|r_y Z<|rL (W8 t.2.2.1) Z<|rn 2 Z ?_
  exact f _ _ a Z Z
 rcases e:(decide (i>=0))with _|_
 ·replace a:=iF e a
  refine rn 3 Z ?_
  exact f _ _ a Z Z
 replace a:=iD e a
 refine rn 3 Z ?_
 exact f _ _ a Z Z
def Df(N:Nat)(m:Ao)(a:Int)(c:Y3):Y1 (Int×Int×Y3):=if c=true then some (0,0,false)else ck (0<=a/\a<=(m.2.2.1.length:Int)) ((Dp N (((m.2.2.1).take (a.toNat)).drop 0)).bind λb=>ck (0<=a/\a<(m.2.2.1.length:Int)) (some ((b.length:Int),((m.2.2.1)[a.toNat]!).2.2,true)))
def Dg(N:Nat)(m:Ao)(a:Int)(b:Y3):Y1 (Int×Int×Y3):=if b=true then Df N m a true else ck (0<=a/\a<(m.2.2.1.length:Int)) (Df N m a (decide ((((m.2.2.1)[a.toNat]!).2.2:Int)>4)))
def Dh(N:Nat)(m:Ao)(a:Int)(b:Y3):Y1 (Int×Int×Y3):=if b=true then Dg N m a true else ck (0<=a/\a<(m.2.2.1.length:Int)) (Dg N m a (decide ((((m.2.2.1)[a.toNat]!).2.2:Int)<1)))
def Dz(N:Nat)(m:Ao)(a:Int):Y1 (Int×Int×Y3):=if a<0 then Dh N m a true else Dh N m a (decide (a>=(m.2.2.1.length:Int)))
theorem Lk(N m b r)(a:Dz N m b=some r)(B)(s:AC)(c:Aa2 B s m):Does prog 188 #[vA (Ab m s),vI b] B [] (pV (vT #[vI r.1,vI r.2.1,vB r.2.2])):=by
 unfold Dz at a
 refine Ak follows func188 Z 46 Z _ fz2 (λt=> ?_)
 refine Ad<|rA Z λu=>rz Z<|Aa λG v=>Aa λH x=>Ah<|rn 3 Z<|AS 6 15 [(1,vI b),(2,vP u 0)] vB (λb_=>Dh N m b b_=some r) (λC a T=> ?_) (λg=> ?_)
 ·unfold Dh at a
  refine rn 1 Z<|AS 8 24 [(1,vI b),(2,vP u 0)] vB (λb_=>Dg N m b b_=some r) (λD a T=> ?_) (λg=> ?_)
  ·unfold Dg at a
   refine rn 1 Z<|AS 8 33 [(1,vI b),(2,vP u 0)] vB (λb_=>Df N m b b_=some r) (λI a T=> ?_) (λg=> ?_)
   ·unfold Df at a
    refine Aj<|x _ _ ?_
    refine aB a Z (λy a=> ?_) (λy a=> ?_)
    ·refine AZ Z ?_
     cases a
     exact aR eV3
    refine Ac<|v _ _ ?_
    refine Aa λE n=>BO [(some 38,false)] (conG prog [(38,λ_ _ v_ L_ U_=> ∀p,Dp N (((m.2.2.1).take (b.toNat)).drop 0)=some p->(p1 (λs_=>s_) 129 QC p) v_ L_ U_)]) [] (by decide+kernel) (λJ=>AN)<|rm 3 [0] Z<|kC a λh a=>r_W (GX s.2.1 0 (b.toNat) 3) Z (GV (ID Z Z Z Z (W8 c.2.1) h))<|kB a λz i a=>cj (Ls:=[[(u,35,(Ab m s))]]) (λq=>q) 129 QC z 58 _ Z Z Z (cF Vu) (λo w z_=>IF N _ _ i z_.view (GX s.2.1 0 (b.toNat) 3) ((Ql (Ay c.2.1) (Nat.zero_le _) (Fy h.2)) o w z_)) (Hq i) (λq F A=> ?_)
    refine rL (W7 A) Z<|rm 3 [0] Z<|kC a λd a=>rI (W8 c.2.1) d Z<|rF (W8 c.2.1) (Bp d) Z<|rE (Ay c.2.1) d 2 Z<|rz Z<|n _ _ ?_
    cases a
    exact aR eV3
   rcases j:D with _|_
   ·replace a:=iB j a
    refine rn 1 Z<|r_y Z<|rm 2 [0] Z<|r_y Z<|kC a λe a=>rI (W8 c.2.1) e Z<|r_y Z<|rF (W8 c.2.1) (Bp e) Z<|r_y Z<|rE (Ay c.2.1) e 2 Z<|rn 2 Z ?_
    exact g _ _ a Z Z
   replace a:=ifp j a
   refine rn 8 Z ?_
   exact g _ _ a Z Z
  rcases k:C with _|_
  ·replace a:=iB k a
   refine rn 1 Z<|r_y Z<|rm 2 [0] Z<|r_y Z<|kC a λf a=>rI (W8 c.2.1) f Z<|r_y Z<|rF (W8 c.2.1) (Bp f) Z<|r_y Z<|rE (Ay c.2.1) f 2 Z<|rn 2 Z ?_
   exact g _ _ a Z Z
  replace a:=ifp k a
  refine rn 8 Z ?_
  exact g _ _ a Z Z
 rcases l:(decide (b<0))with _|_
 ·replace a:=iF l a
  refine rn 2 Z<|r_y Z<|rm 1 [0] Z<|r_y Z<|rL (W8 c.2.1) Z<|rn 2 Z ?_
  exact g _ _ a Z Z
 replace a:=iD l a
 refine rn 6 Z ?_
 exact g _ _ a Z Z
def Db(N:Nat)(m:Ao)(b:Int)(a:Y3):Y1 Y3:=if a=true then(Dz N m b).bind λc=>some c.2.2 else some true
def Cf(N:Nat)(m:Ao)(b a:Int)(c:Y0 (W0))(e:Y3):Y1 Y3:=if e=true then(Bt N m a).bind λd=>some d.2.2.2.2.2.2 else if((c[b.toNat]!).1)=([112,117,115,104,45,104,101,97,100]:W2)then Db N m a (((c[b.toNat]!).1)==([112,117,115,104,45,104,101,97,100]:W2))else Db N m a (((c[b.toNat]!).1)==([112,111,112,45,104,101,97,100]:W2))
def Dw(N:Nat)(m:Ao)(a c:Int)(b:Y0 (W0))(d:Y3):Y1 Y3:=if d=true then some (decide (c<(m.2.2.2.2.2.2.2.2.2.2.2.2.1.length:Int)))else if((b[a.toNat]!).1)=([99,111,117,110,116]:W2)then some (decide (c<(m.2.2.2.2.2.2.2.2.2.2.2.2.2.1.length:Int)))else if((b[a.toNat]!).1)=([109,101,116,101,114]:W2)then some (decide (c<(m.2.2.2.2.2.2.2.2.2.2.2.2.2.2.1.length:Int)))else if((b[a.toNat]!).1)=([118,97,108,105,100]:W2)then Cf N m a c b (((b[a.toNat]!).1)==([118,97,108,105,100]:W2))else if((b[a.toNat]!).1)=([115,104,111,119]:W2)then Cf N m a c b (((b[a.toNat]!).1)==([115,104,111,119]:W2))else if((b[a.toNat]!).1)=([104,105,100,101]:W2)then Cf N m a c b (((b[a.toNat]!).1)==([104,105,100,101]:W2))else Cf N m a c b (((b[a.toNat]!).1)==([106,117,109,112,45,103,111,110,101]:W2))
def Dx(N:Nat)(m:Ao)(a b d:Int)(c:Y0 (W0))(e:Y3):Y1 Y3:=if e=true then(EY N m b).bind λf=>some f.2 else if((c[a.toNat]!).1)=([112,97,114,97,109]:W2)then some (decide (b<d))else if((c[a.toNat]!).1)=([114,101,103]:W2)then Dw N m a b c (((c[a.toNat]!).1)==([114,101,103]:W2))else Dw N m a b c (((c[a.toNat]!).1)==([112,117,116,45,114,101,103]:W2))
def Dy(N:Nat)(m:Ao)(a c f b:Int)(d:Y0 (W0))(g:Y3):Y1 Y3:=if g=true then(Cy N m c f).bind λe=>some e.2 else if((d[a.toNat]!).1)=([109,101,116,97]:W2)then Dx N m a c b d (((d[a.toNat]!).1)==([109,101,116,97]:W2))else Dx N m a c b d (((d[a.toNat]!).1)==([112,117,116,45,109,101,116,97]:W2))
def DX(N:Nat)(m:Ao)(a d e _:Int)(_:W3)(b:Int):Y1 Y3:=(JW N).bind λc=>ck (0<=a/\a<(c.length:Int)) (if((c[a.toNat]!).1)=([102,105,101,108,100]:W2)then Dy N m a d e b c (((c[a.toNat]!).1)==([102,105,101,108,100]:W2))else Dy N m a d e b c (((c[a.toNat]!).1)==([112,117,116,45,102,105,101,108,100]:W2)))
theorem Pe(N m a d g h c f r)(b:DX N m a d g h c f=some r)(ro)(j:AC)(B:Aa2 ro j m):Does prog 121 #[vA (Ab m j),vA #[vI a,vI d,vI g,vI h,U (hi c),U (lo c)],vI f] ro [] (pV (vB r)):=by
 unfold DX at b
 refine Ak follows func121 Z 91 Z _ fz3 (λab=> ?_)
 refine Ad<|rA Z λn=>rA Z λp=>rz Z<|AZ Z<|Aa λK5 i=>Aa λK6 ac=>BO [(some 8,false)] (conG prog [(8,λ_ _ v_ L_ U_=> ∀C,JW N  =some C->(p1 (λs_=>s_) 212 Af6 C) v_ L_ U_)]) [] (by decide+kernel) (λhn=>AN)<|kB b λe D b=>cj (Ls:=[(Lp p a d g h (hi c) (lo c)),[(n,35,(Ab m j))]]) (λs9=>s9) 212 Af6 e 122 _ Z Z Z (cF Xu) (λo w z_=>TW N  _ D z_.view) (Hq D) (λs9 s u=> ?_)
 refine rm 2 [0] Z<|kC b λq b=>rI (W7 u) q Z<|rF (W7 u) (Bp q) Z<|rE (AB u (Al (Ls:=[(Lp p a d g h (hi c) (lo c)),[(n,35,(Ab m j))],s]) (k:=2) Z Z)) q 0 Z<|Aj<|ac _ _ ?_
 refine Ai<|Cs (λtt ll=> ∃(v:Y3),(Dy N m a d g f e v=some r)/\Is [(2,vI f),(3,vP n 0),(4,vP p 0),(7,vB true),(13,vS ((e[a.toNat]!).1)),(14,vB v)] [(p,209, #[vI a,vI d,vI g,vI h,U (hi c),U (lo c)]),(n,35,(Ab m j))] tt ll) ?_ ?_
 ·refine Ad<|r_W (vB (((e[a.toNat]!).1)==([102,105,101,108,100]:W2))) Z (FQ Z Z)<|rz Z<|aE b Z (λE b=> ?_) (λE b=> ?_)
  ·refine Ac<|fg _ (W5 [(Lp p a d g h (hi c) (lo c)),[(n,35,(Ab m j))],s] [0,1] Z) ?_
   exact⟨((e[a.toNat]!).1)==([102,105,101,108,100]:W2),b,Ag Z Z⟩
  refine Ah<|r_W (vB (((e[a.toNat]!).1)==([112,117,116,45,102,105,101,108,100]:W2))) Z (FQ Z Z)<|rz Z<|fg _ (W5 [(Lp p a d g h (hi c) (lo c)),[(n,35,(Ab m j))],s] [0,1] Z) ?_
  exact⟨((e[a.toNat]!).1)==([112,117,116,45,102,105,101,108,100]:W2),b,Ag Z Z⟩
 clear b;rintro t l ⟨v,b,⟨T,rfl⟩,rfl⟩
 unfold Dy at b
 refine aB b Z (λF b=> ?_) (λF b=> ?_)
 ·refine Ah<|rm 5 [1,0,0] Z<|kB b λag G b=>gV _ (cF bA) (λo w z_=>Je N m d g _ G z_.view j (Aa2.mono z_.ro_cell B))<|rz Z<|i _ _ ?_
  refine AZ Z ?_
  cases b
  exact aR eV1
 refine Cs (λtt ll=> ∃(x:Y3),(Dx N m a d f e x=some r)/\Is [(2,vI f),(3,vP n 0),(4,vP p 0),(7,vB true),(13,vS ((e[a.toNat]!).1)),(26,vB x)] [(p,209, #[vI a,vI d,vI g,vI h,U (hi c),U (lo c)]),(n,35,(Ab m j))] tt ll) ?_ ?_
 ·refine Ad<|r_W (vB (((e[a.toNat]!).1)==([109,101,116,97]:W2))) Z (FQ Z Z)<|rz Z<|aE b Z (λH b=> ?_) (λH b=> ?_)
  ·refine Ac<|fg _ (Sub.of (suK _ (suK _ suN))) ?_
   exact⟨((e[a.toNat]!).1)==([109,101,116,97]:W2),b,Ag Z Z⟩
  refine Ah<|r_W (vB (((e[a.toNat]!).1)==([112,117,116,45,109,101,116,97]:W2))) Z (FQ Z Z)<|rz Z<|fg _ (Sub.of (suK _ (suK _ suN))) ?_
  exact⟨((e[a.toNat]!).1)==([112,117,116,45,109,101,116,97]:W2),b,Ag Z Z⟩
 clear b;rintro t l ⟨x,b,⟨T,rfl⟩,rfl⟩
 unfold Dx at b
 refine aB b Z (λI b=> ?_) (λI b=> ?_)
 ·refine Ah<|rm 3 [1,0] Z<|kB b λah J b=>gV _ (cF eo) (λo w z_=>Me N m d _ J z_.view j (Aa2.mono z_.ro_cell B))<|rz Z<|i _ _ ?_
  refine AZ Z ?_
  cases b
  exact aR eV1
 refine Ad<|r_W (vB (((e[a.toNat]!).1)==([112,97,114,97,109]:W2))) Z (FQ Z Z)<|rz Z<|aE b Z (λK b=> ?_) (λK b=> ?_)
 ·refine Ah<|ry [0] Z<|i _ _ ?_
  refine AZ Z ?_
  cases b
  exact aR eV1
 refine Cs (λtt ll=> ∃(y:Y3),(Dw N m a d e y=some r)/\Is [(3,vP n 0),(4,vP p 0),(7,vB true),(13,vS ((e[a.toNat]!).1)),(42,vB y)] [(p,209, #[vI a,vI d,vI g,vI h,U (hi c),U (lo c)]),(n,35,(Ab m j))] tt ll) ?_ ?_
 ·refine Ad<|r_W (vB (((e[a.toNat]!).1)==([114,101,103]:W2))) Z (FQ Z Z)<|rz Z<|aE b Z (λL b=> ?_) (λL b=> ?_)
  ·refine Ac<|fg _ (Sub.of (suK _ (suK _ suN))) ?_
   exact⟨((e[a.toNat]!).1)==([114,101,103]:W2),b,Ag Z Z⟩
  refine Ah<|r_W (vB (((e[a.toNat]!).1)==([112,117,116,45,114,101,103]:W2))) Z (FQ Z Z)<|rz Z<|fg _ (Sub.of (suK _ (suK _ suN))) ?_
  exact⟨((e[a.toNat]!).1)==([112,117,116,45,114,101,103]:W2),b,Ag Z Z⟩
 clear b;rintro t l ⟨y,b,⟨T,rfl⟩,rfl⟩
 unfold Dw at b
 refine aB b Z (λM b=> ?_) (λM b=> ?_)
 ·refine Ah<|rm 4 [0,1] Z<|rL (W8 B.2.2.2.2.2.2.2.2.2.2.2.1) Z<|rz Z<|i _ _ ?_
  refine AZ Z ?_
  cases b
  exact aR eV1
 refine Ad<|r_W (vB (((e[a.toNat]!).1)==([99,111,117,110,116]:W2))) Z (FQ Z Z)<|rz Z<|aE b Z (λO b=> ?_) (λO b=> ?_)
 ·refine Ah<|rm 4 [0,1] Z<|rL (W8 B.2.2.2.2.2.2.2.2.2.2.2.2.1) Z<|rz Z<|i _ _ ?_
  refine AZ Z ?_
  cases b
  exact aR eV1
 refine Ad<|r_W (vB (((e[a.toNat]!).1)==([109,101,116,101,114]:W2))) Z (FQ Z Z)<|rz Z<|aE b Z (λP b=> ?_) (λP b=> ?_)
 ·refine Ah<|rm 4 [0,1] Z<|rL (W8 B.2.2.2.2.2.2.2.2.2.2.2.2.2) Z<|rz Z<|i _ _ ?_
  refine AZ Z ?_
  cases b
  exact aR eV1
 refine Cs (λtt ll=> ∃(z:Y3),(Cf N m a d e z=some r)/\Is [(3,vP n 0),(4,vP p 0),(7,vB true),(13,vS ((e[a.toNat]!).1)),(67,vB z)] [(p,209, #[vI a,vI d,vI g,vI h,U (hi c),U (lo c)]),(n,35,(Ab m j))] tt ll) ?_ ?_
 ·refine Ad<|r_W (vB (((e[a.toNat]!).1)==([118,97,108,105,100]:W2))) Z (FQ Z Z)<|rz Z<|aE b Z (λQ b=> ?_) (λQ b=> ?_)
  ·refine Ac<|fg _ (Sub.of (suK _ (suK _ suN))) ?_
   exact⟨((e[a.toNat]!).1)==([118,97,108,105,100]:W2),b,Ag Z Z⟩
  refine Ad<|r_W (vB (((e[a.toNat]!).1)==([115,104,111,119]:W2))) Z (FQ Z Z)<|rz Z<|aE b Z (λR b=> ?_) (λR b=> ?_)
  ·refine Ac<|fg _ (Sub.of (suK _ (suK _ suN))) ?_
   exact⟨((e[a.toNat]!).1)==([115,104,111,119]:W2),b,Ag Z Z⟩
  refine Ad<|r_W (vB (((e[a.toNat]!).1)==([104,105,100,101]:W2))) Z (FQ Z Z)<|rz Z<|aE b Z (λS b=> ?_) (λS b=> ?_)
  ·refine Ac<|fg _ (Sub.of (suK _ (suK _ suN))) ?_
   exact⟨((e[a.toNat]!).1)==([104,105,100,101]:W2),b,Ag Z Z⟩
  refine Ah<|r_W (vB (((e[a.toNat]!).1)==([106,117,109,112,45,103,111,110,101]:W2))) Z (FQ Z Z)<|rz Z<|fg _ (Sub.of (suK _ (suK _ suN))) ?_
  exact⟨((e[a.toNat]!).1)==([106,117,109,112,45,103,111,110,101]:W2),b,Ag Z Z⟩
 clear b;rintro t l ⟨z,b,⟨T,rfl⟩,rfl⟩
 unfold Cf at b
 refine aB b Z (λV b=> ?_) (λV b=> ?_)
 ·refine Ah<|rm 3 [1,0] Z<|kB b λai W b=>gM (Ls:=[(Lp p a d g h (hi c) (lo c)),[(n,35,(Ab m j))]]) (FL:=[]) [] (cF TI) (λo w hn_ z_=>rom [] Z z_ (DB N m d _ W ro j B)) ?_
  rintro _ _ ⟨aj,af,⟨rfl,rfl⟩⟩
  refine AK (Ls:=[(Lp p a d g h (hi c) (lo c)),[(n,35,(Ab m j))]]) (Ls':=[(Lp p a d g h (hi c) (lo c)),[(n,35,(Ab m j))]]) [0,1] Z Z<|rz Z<|i _ _ ?_
  refine AZ Z ?_
  cases b
  exact aR eV1
 refine Cs (λtt ll=> ∃(A:Y3),(Db N m d A=some r)/\Is [(3,vP n 0),(4,vP p 0),(7,vB true),(79,vB A)] [(p,209, #[vI a,vI d,vI g,vI h,U (hi c),U (lo c)]),(n,35,(Ab m j))] tt ll) ?_ ?_
 ·refine Ad<|r_W (vB (((e[a.toNat]!).1)==([112,117,115,104,45,104,101,97,100]:W2))) Z (FQ Z Z)<|rz Z<|aE b Z (λX b=> ?_) (λX b=> ?_)
  ·refine Ac<|fg _ (Sub.of (suK _ (suK _ suN))) ?_
   exact⟨((e[a.toNat]!).1)==([112,117,115,104,45,104,101,97,100]:W2),b,Ag Z Z⟩
  refine Ah<|r_W (vB (((e[a.toNat]!).1)==([112,111,112,45,104,101,97,100]:W2))) Z (FQ Z Z)<|rz Z<|fg _ (Sub.of (suK _ (suK _ suN))) ?_
  exact⟨((e[a.toNat]!).1)==([112,111,112,45,104,101,97,100]:W2),b,Ag Z Z⟩
 clear b;rintro t l ⟨A,b,⟨T,rfl⟩,rfl⟩
 unfold Db at b
 refine aB b Z (λY b=> ?_) (λY b=> ?_)
 ·refine Ah<|rm 3 [1,0] Z<|kB b λak aa b=>gV _ (cF ew) (λo w z_=>Lk N m d _ aa z_.view j (Aa2.mono z_.ro_cell B))<|rz Z<|i _ _ ?_
  refine AZ Z ?_
  cases b
  exact aR eV1
 refine Ac<|i _ _ ?_
 refine AZ Z ?_
 cases b
 exact aR eV1
def CM(b:Int)(a:Int->Y1 Int)(c:Y3):Y1 Int:=if c=true then some 12 else ck (R64 (b+1)) (a (b+1))
def EB(d:Y0 (W1))(c:Int)(a:Int->Y1 Int)(b:Int):Y1 Int:=if b>=0 then if b<=c then CM c a true else CM c a (decide (b>(d.length:Int)))else CM c a false
def EC(c:Y0 (W1))(b:Int)(a:Int->Y1 Int)(e:Y0 (W0))(d:Int):Y1 Int:=if((e[((c[b.toNat]!).1).toNat]!).2.2.2.2.2.2.2.2)=([71,111,110,101]:W2)then ck (0<=b/\b<(c.length:Int)) (EB c b a ((c[b.toNat]!).2.2.1))else EB c b a d
def AV(N:Nat)(m:Ao)(b:Y0 (W1))(c:Int):Nat->Int->Y1 Int
  |0,_=>none
  |e+1,a=>if a<(b.length:Int)then ck (0<=a/\a<(b.length:Int)) ((DX N m ((b[a.toNat]!).1) ((b[a.toNat]!).2.1) ((b[a.toNat]!).2.2.1) ((b[a.toNat]!).2.2.2.1) ((b[a.toNat]!).2.2.2.2) c).bind λf=>if f=true then(JW N).bind λd=>ck (0<=a/\a<(b.length:Int)) (ck (0<=(b[a.toNat]!).1/\(b[a.toNat]!).1<(d.length:Int)) (if((d[((b[a.toNat]!).1).toNat]!).2.2.2.2.2.2.2.2)=([74,117,109,112]:W2)then ck (0<=a/\a<(b.length:Int)) (EC b a (AV N m b c e) d ((b[a.toNat]!).2.1))else EC b a (AV N m b c e) d (-1)))else some 5)else some 0
def Di(N:Nat)(m:Ao)(c:Y0 (W1))(d b:Int)(a:Int->Y1 Int)(f:Y3):Y1 Int:=if f=true then ck (0<=b/\b<(c.length:Int)) ((SX N ((c[b.toNat]!).1) ((c[b.toNat]!).2.1) ((c[b.toNat]!).2.2.1) ((c[b.toNat]!).2.2.2.1) ((c[b.toNat]!).2.2.2.2)).bind λe=>if(e:Int)≠0 then some e else ck (R64 (b+1)) (a (b+1)))else if(c.length:Int)>64 then some 2 else AV N m c d N 0
def BD(N:Nat)(m:Ao)(c:Y0 (W1))(a:Int):Nat->Int->Y1 Int
  |0,_=>none
  |d+1,b=>if b<(c.length:Int)then Di N m c a b (BD N m c a d) (decide (b<64))else Di N m c a b (BD N m c a d) false
def Gz(N:Nat)(m:Ao)(b:Y0 (W1))(a:Int):Y1 Int:=BD N m b a N 0
theorem Mf(N m e b r)(a:Gz N m e b=some r)(ro)(y:AC)(hm:Aa2 ro y m)(h)(d:Rd Ad5 ro h e):Does prog 63 #[vA (Ab m y),h,vI b] ro [] (pV (vI r)):=by
 unfold Gz at a
 refine Ak follows func63 Z 83 Z _ fz3 (λah=> ?_)
 refine Ad<|rA Z λj=>rz Z<|Aa λK3 ai=>AZ Z<|Ai<|AL (λtt ll nn=> ∃(A:Nat) (i:Int),(BD N m e b A i=some r)/\Is [(1,h),(2,vI b),(3,vP j 0),(7,vI i)] [(j,35,(Ab m y))] tt ll/\nn=A+1) (N+1) ?_ ?_
 ·exact⟨N,0,a,Ag Z Z,Z⟩
 clear a;rintro t l _ ⟨A,i,a,⟨⟨T,rfl⟩,rfl⟩,rfl⟩
 rcases A with _|A
 ·exact absurd a (by simp [BD])
 rw [BD] at a
 refine Aa λK6 aj=>Aa λK7 ak=>Ah<|rn 2 Z<|rL (W8 d) Z<|rn 2 Z<|AS 3 19 [(1,h),(2,vI b),(3,vP j 0),(7,vI i)] vB (λb_=>Di N m e b i (BD N m e b A) b_=some r) (λb8 a T=> ?_) (λK=> ?_)
 ·unfold Di at a
  refine Aj<|ak _ _ ?_
  refine aB a Z (λal a=> ?_) (λal a=> ?_)
  ·refine Ac<|aj _ _ ?_
   refine Aa λan L=>Ai<|Ad<|rn 2 Z<|kC a λB a=>rI (W8 d) B Z<|rE (Ay d) B 0 Z<|kB a λao M a=>rc _ (cF qH) (rM N _ _ _ _ _ _ M)<|rz Z<|AZ Z<|aN a Z (λO a=> ?_) (λO a=> ?_)
   ·refine AZ Z ?_
    cases a
    exact aR eV1
   refine Ac<|L _ _ ?_
   refine Ah<|rn 1 Z<|kC a λP a=>rX P Z<|rz Z<|fg _ (Sub.of (suK _ suN)) ?_
   exact⟨A+1,by omega,A,(i+1),a,Ag Z Z,Z⟩
  refine AM<|ai _ _ ?_
  refine Aa λap Q=>Ad<|rn 1 Z<|rL (W8 d) Z<|rz Z<|aD a Z (λR a=> ?_) (λR a=> ?_)
  ·refine AZ Z ?_
   cases a
   exact aR eV1
  refine Ac<|Q _ _ ?_
  refine Aa λaq S=>AZ Z<|Ai<|AL (λtt ll nn=> ∃(f:Nat) (c:Int),(AV N m e b f c=some r)/\Is [(1,h),(2,vI b),(3,vP j 0),(9,vI c)] [(j,35,(Ab m y))] tt ll/\nn=f+1) (N+1) ?_ ?_
  ·exact⟨N,0,a,Ag Z Z,Z⟩
  clear a;rintro t l _ ⟨f,c,a,⟨⟨T,rfl⟩,rfl⟩,rfl⟩
  rcases f with _|f
  ·exact absurd a (by simp [AV])
  rw [AV] at a
  refine Aa λar U=>Ad<|rn 2 Z<|rL (W8 d) Z<|rz Z<|aD a Z (λV a=> ?_) (λV a=> ?_)
  ·refine Ac<|U _ _ ?_
   refine Aa λau W=>Ai<|Aa λav X=>Aa λaw Y=>BO [(some 45,false)] (conG prog [(45,cV (DX N m ((e[c.toNat]!).1) ((e[c.toNat]!).2.1) ((e[c.toNat]!).2.2.1) ((e[c.toNat]!).2.2.2.1) ((e[c.toNat]!).2.2.2.2) b) λz=>vB z)]) [] (by decide+kernel) (λhn=>AN)<|rm 3 [0] Z<|kC a λC a=>rI (W8 d) C Z<|rE (Ay d) C 0 Z<|rn 1 Z<|kB a λay D a=>rg _ (cF qG) (λo w z_=>Pe N m _ _ _ _ _ b _ D z_.view y (Aa2.mono z_.ro_cell hm)) (Hq D)<|rz Z<|Y _ _ ?_
   refine BS _ Z (λp=> ?_) (λp=> ?_)
   ·replace a:=ifn (Bool.eq_false_iff.1 (DG p)) a
    refine AZ Z ?_
    cases a
    exact aR eV1
   replace a:=ifp (DH p) a
   refine Ac<|X _ _ ?_
   refine AZ Z<|Aa λaz aa=>BO [(some 47,false)] (conG prog [(47,λ_ _ v_ L_ U_=> ∀z,JW N  =some z->(p1 (λs_=>s_) 212 Af6 z) v_ L_ U_)]) [] (by decide+kernel) (λhn=>AN)<|kB a λq E a=>cj (Ls:=[[(j,35,(Ab m y))]]) (λab=>ab) 212 Af6 q 122 _ Z Z Z (cF Xu) (λo w z_=>TW N  _ E z_.view) (Hq E) (λab I J=> ?_)
   refine rn 2 Z<|kC a λs a=>rI (W8 d) s Z<|rF (W8 d) (Bp s) Z<|rE (Ay d) s 0 Z<|kC a λu a=>rI (W7 J) u Z<|rF (W7 J) (Bp u) Z<|rE (AB J (Al (Ls:=[[(j,35,(Ab m y))],I]) (k:=1) Z Z)) u 8 Z<|rz Z<|aa _ _ ?_
   refine Cs (λtt ll=> ∃(n:Int),(EC e c (AV N m e b f) q n=some r)/\Is [(1,h),(2,vI b),(3,vP j 0),(9,vI c),(10,vI n),(11,vS ((q[((e[c.toNat]!).1).toNat]!).2.2.2.2.2.2.2.2))] [(j,35,(Ab m y))] tt ll) ?_ ?_
   ·refine Ad<|rn 1 Z<|r_W (vB (((q[((e[c.toNat]!).1).toNat]!).2.2.2.2.2.2.2.2)==([74,117,109,112]:W2))) Z (FQ Z Z)<|Aj<|aE a Z (λac a=> ?_) (λac a=> ?_)
    ·refine Ah<|rn 2 Z<|kC a λv a=>rI (W8 d) v Z<|rF (W8 d) (Bp v) Z<|rE (Ay d) v 1 Z<|rz Z<|fg _ (W5 [[(j,35,(Ab m y))],I] [0] Z) ?_
     exact⟨(e[c.toNat]!).2.1,a,Ag Z Z⟩
    refine Ac<|fg _ (W5 [[(j,35,(Ab m y))],I] [0] Z) ?_
    exact⟨-1,a,Ag Z Z⟩
   clear a;rintro t l ⟨n,a,⟨T,rfl⟩,rfl⟩
   unfold EC at a
   refine Cs (λtt ll=> ∃(g:Int),(EB e c (AV N m e b f) g=some r)/\Is [(1,h),(2,vI b),(3,vP j 0),(9,vI c),(10,vI g)] [(j,35,(Ab m y))] tt ll) ?_ ?_
   ·refine Ad<|rn 1 Z<|r_W (vB (((q[((e[c.toNat]!).1).toNat]!).2.2.2.2.2.2.2.2)==([71,111,110,101]:W2))) Z (FQ Z Z)<|Aj<|aE a Z (λad a=> ?_) (λad a=> ?_)
    ·refine Ah<|rn 2 Z<|kC a λx a=>rI (W8 d) x Z<|rF (W8 d) (Bp x) Z<|rE (Ay d) x 2 Z<|rz Z<|fg _ (Sub.of (suK _ suN)) ?_
     exact⟨(e[c.toNat]!).2.2.1,a,Ag Z Z⟩
    refine Ac<|fg _ (Sub.of (suK _ suN)) ?_
    exact⟨n,a,Ag Z Z⟩
   clear a;rintro t l ⟨g,a,⟨T,rfl⟩,rfl⟩
   unfold EB at a
   refine Aa λba ae=>Ah<|rn 3 Z<|AS 10 82 [(1,h),(2,vI b),(3,vP j 0),(9,vI c)] vB (λb_=>CM c (AV N m e b f) b_=some r) (λbb a T=> ?_) (λK=> ?_)
   ·unfold CM at a
    refine Aj<|ae _ _ ?_
    refine aB a Z (λaf a=> ?_) (λaf a=> ?_)
    ·refine AZ Z ?_
     cases a
     exact aR eV1
    refine Ac<|W _ _ ?_
    refine Ah<|rn 1 Z<|kC a λag a=>rX ag Z<|rz Z<|fg _ (Sub.of (suK _ suN)) ?_
    exact⟨f+1,by omega,f,(c+1),a,Ag Z Z,Z⟩
   rcases F:(decide (g>=0))with _|_
   ·replace a:=iF F a
    refine rn 4 Z<|Ct Z Z<|Ct Z Z<|Ct Z Z<|Ct Z Z<|rn 2 Z ?_
    exact K _ _ a Z Z
   replace a:=iD F a
   refine rn 4 Z ?_
   rcases G:(decide (g<=c))with _|_
   ·replace a:=iF G a
    refine rn 2 Z<|r_y Z<|rL (W8 d) Z<|rn 3 Z ?_
    exact K _ _ a Z Z
   replace a:=iD G a
   refine rn 6 Z ?_
   exact K _ _ a Z Z
  refine AM<|S _ _ ?_
  refine AZ Z ?_
  cases a
  exact aR eV1
 rcases H:(decide (i<(e.length:Int)))with _|_
 ·replace a:=iF H a
  refine rn 3 Z ?_
  exact K _ _ a Z Z
 replace a:=iD H a
 refine rn 3 Z ?_
 exact K _ _ a Z Z
def Cx(N:Nat)(m:Ao)(b:Int)(c:Y0 (Int×W3)):Nat->Int->Y1 Int
  |0,_=>none
  |e+1,a=>if a<(c.length:Int)then ck (0<=a/\a<(c.length:Int)) ((CO N ((c[a.toNat]!).1) ((c[a.toNat]!).2)).bind λd=>if d=true then ck (0<=a/\a<(c.length:Int)) (ck (0<=a/\a<(((m.2.2.2.2.2.1)[b.toNat]!.2.1).length:Int)) (if((c[a.toNat]!).1:Int)≠((m.2.2.2.2.2.1)[b.toNat]!.2.1)[a.toNat]! then some 9 else ck (R64 (a+1)) ((Cx N m b c e) (a+1))))else some 9)else some 0
def EX(N:Nat)(m:Ao)(a:Int)(b:Y0 (Int×W3)):Y1 Int:=ck (0<=a/\a<(m.2.2.2.2.2.1.length:Int)) (if(b.length:Int)≠(((m.2.2.2.2.2.1)[a.toNat]!.2.1).length:Int)then some 2 else Cx N m a b N 0)
theorem Mc(N m b G r)(a:EX N m b G=some r)(H)(J:AC)(I:Aa2 H J m)(p)(d:Rd Ac6 H p G):Does prog 113 #[vA (Ab m J),vI b,p] H [] (pV (vI r)):=by
 unfold EX at a
 refine Ak follows func113 Z 44 Z _ fz3 (λC=> ?_)
 refine Ad<|rA Z λS=>rz Z<|Ad<|rm 3 [0] Z<|kC a λk a=> ?_
 obtain⟨_,⟨D,K,n,L,rfl⟩,hat9⟩:=RdN.at (E:=Ac7) I.2.2.2.2.1 (Cp k)
 refine rI (W9 I.2.2.2.2.1) k Z<|rF (W9 I.2.2.2.2.1) (Bp k) Z<|Mk D (vs:=[vS ((m.2.2.2.2.2.1)[b.toNat]!.1),D,K]) (b.toNat*3) 1 Z Z (λo w z_=>At.mono z_.ro_cell hat9) Z<|rz Z<|Aa λM q=>Ad<|rn 1 Z<|rL (W8 d) Z<|rn 1 Z<|rL (W8 n) Z ?_
 refine rz Z<|aN a Z (λs a=> ?_) (λs a=> ?_)
 ·refine AZ Z ?_
  cases a
  exact aR eV1
 refine Ac<|q _ _ ?_
 refine Aa λO u=>AZ Z<|Ai<|BF [] (Sub.of (suC _ suN))<|AL (λtt ll nn=> ∃(c:Nat) (g:Int),(Cx N m b G c g=some r)/\Is [(2,p),(7,D),(8,vI g)] [] tt ll/\nn=c+1) (N+1) ?_ ?_
 ·exact⟨N,0,a,Ag Z Z,Z⟩
 clear a;rintro t l _ ⟨c,g,a,⟨⟨T,rfl⟩,rfl⟩,rfl⟩
 rcases c with _|c
 ·exact absurd a (by simp [Cx])
 rw [Cx] at a
 refine Aa λP v=>Ad<|rn 2 Z<|rL (W8 d) Z<|rz Z<|aD a Z (λx a=> ?_) (λx a=> ?_)
 ·refine Ac<|v _ _ ?_
  refine Aa λQ y=>Ai<|Aa λR h=>HS [] (by decide+kernel) (λU=>AN)<|rn 2 Z<|kC a λi a=>rI (W8 d) i Z<|rE (Ay d) i 0 Z<|kB a λF z a=>rc _ (cF Qc) (Hl N _ _ _ z)<|rn 2 Z ?_
  rcases e:(!(F))with _|_
  ·replace a:=ifp (DH e) a
   refine rn 2 Z<|r_y Z<|kC a λf a=>rI (W8 d) f Z<|r_y Z<|rF (W8 d) (Bp f) Z<|r_y Z<|rE (Ay d) f 0 Z<|rn 2 Z<|r_y Z<|kC a λj a=>rI (W8 n) j Z<|r_y Z<|rE (Ay n) j 0 Z<|rz Z<|h _ _ ?_
   refine aN a Z (λA a=> ?_) (λA a=> ?_)
   ·refine AZ Z ?_
    cases a
    exact aR eV1
   refine Ac<|y _ _ ?_
   refine Ah<|rn 1 Z<|kC a λB a=>rX B Z<|rz Z<|fg _ (Sub.of suN) ?_
   exact⟨c+1,by omega,c,(g+1),a,Ag (by first|rfl|(simp only [e];done)|(simp only [e];rfl)|(simp only [BB];rfl)) Z,Z⟩
  replace a:=ifn (Bool.eq_false_iff.1 (DG e)) a
  refine rz Z<|h _ _ ?_
  refine JO Z ?_
  refine AZ Z ?_
  cases a
  exact aR eV1
 refine AM<|u _ _ ?_
 refine AZ Z ?_
 cases a
 exact aR eV1
def FT(a:Y3):Y1 Int:=if a=true then some 12 else some 0
def Eu(a i n:Int):Y1 Int:=if a<=i then FT true else FT (decide (a>n))
def Et(a i n:Int)(b:Y3):Y1 Int:=if b=true then some 12 else Eu a i n 
def Ev(N:Nat)(m:Ao)(f e:Int)(c:Y0 (Int×W3))(a b i n:Int):Y1 Int:=if f=2 then(EX N m e c).bind λd=>if(d:Int)≠0 then some d else if(b:Int)≠0 then some 4 else Eu a i n  else if(c.length:Int)>0 then some 4 else if b<=i then Et a i n true else Et a i n (decide (b>n))
def Dc(N:Nat)(m:Ao)(a e:Int)(g:Y0 (W1))(f:Y0 (Int×W3))(b d i n:Int)(h:Y3):Y1 Int:=if h=true then some 5 else if a=1 then(Gz N m g 0).bind λc=>if(c:Int)≠0 then some c else Ev N m a e f b d i n  else if(g.length:Int)>0 then some 4 else Ev N m a e f b d i n 
def Dd(N:Nat)(m:Ao)(a d:Int)(f:Y0 (W1))(e:Y0 (Int×W3))(b c i n:Int)(g:(W2)×(Y0 (W2×Int))×Int×Int×Int×Int×Y3)(h:Y3):Y1 Int:=if h=true then Dc N m a d f e b c i n true else if a=3 then Dc N m a d f e b c i n (!(g.2.2.2.2.2.2))else Dc N m a d f e b c i n false
def Cw(N:Nat)(m:Ao)(b a:Int)(g:Y0 (W1))(f:Y0 (Int×W3))(c d i n:Int)(e:(W2)×(Y0 (W2×Int))×Int×Int×Int×Int×Y3)(h:Y3):Y1 Int:=if h=true then Dd N m b a g f c d i n e true else if b=1 then Dd N m b a g f c d i n e (a !=0)else Dd N m b a g f c d i n e false
def De(N:Nat)(m:Ao)(b a:Int)(g:Y0 (W1))(f:Y0 (Int×W3))(c d i n:Int)(e:(W2)×(Y0 (W2×Int))×Int×Int×Int×Int×Y3)(h:Y3):Y1 Int:=if h=true then Cw N m b a g f c d i n e true else if b=2 then if a<0 then Cw N m b a g f c d i n e true else Cw N m b a g f c d i n e (decide (a>=(m.2.2.2.2.2.1.length:Int)))else Cw N m b a g f c d i n e false
def Ew(N:Nat)(m:Ao)(b a:Int)(g:Y0 (W1))(f:Y0 (Int×W3))(c d i n:Int)(h:Y3):Y1 Int:=if h=true then some 10 else(Bt N m a).bind λe=>if b=0 then if a<0 then De N m b a g f c d i n e true else De N m b a g f c d i n e (decide (a>=(m.2.2.2.2.2.2.1.length:Int)))else De N m b a g f c d i n e false
def ES(N:Nat)(m:Ao)(a d:Int)(f:Y0 (W1))(e:Y0 (Int×W3))(b c i n:Int):Y1 Int:=if a<0 then Ew N m a d f e b c i n true else Ew N m a d f e b c i n (decide (a>3))
theorem Qg(N m b c p k d f i n r)(a:ES N m b c p k d f i n=some r)(ro)(u:AC)(hm:Aa2 ro u m)(g)(I:Rd Ad5 ro g p)(h)(J:Rd Ac6 ro h k):Does prog 59 #[vA (Ab m u),vA #[vI b,vI c,g,h,vI d,vI f],vI i,vI n] ro [] (pV (vI r)):=by
 unfold ES at a
 refine Ak follows func59 Z 134 Z _ fz4 (λal=> ?_)
 refine Ad<|rA Z λs=>rA Z λq=>rz Z<|Aa λK4 am=>Aa λK5 an=>Ah<|rm 4 [0] Z<|AS 4 20 [(2,vI i),(3,vI n),(4,vP s 0),(5,vP q 0)] vB (λb_=>Ew N m b c p k d f i n b_=some r) (λb6 a T=> ?_) (λj=> ?_)
 ·unfold Ew at a
  refine Aj<|an _ _ ?_
  refine aB a Z (λao a=> ?_) (λao a=> ?_)
  ·refine AZ Z ?_
   cases a
   exact aR eV1
  refine Ac<|am _ _ ?_
  refine Ad<|rm 3 [1,0] Z<|kB a λe K a=>gM (Ls:=[(Vm q b c g h d f),[(s,35,(Ab m u))]]) (FL:=[]) [] (cF TI) (λo w hn_ z_=>rom [] Z z_ (DB N m c _ K ro u hm)) ?_
  rintro _ _ ⟨L,M,⟨rfl,rfl⟩⟩
  refine AK (Ls:=[(Vm q b c g h d f),[(s,35,(Ab m u))]]) (Ls':=[(Vm q b c g h d f),[(s,35,(Ab m u))]]) [0,1] Z Z<|rn 3 Z<|rA Z λap=>r_s [(ap,97, #[vS e.1,L,vI e.2.2.1,vI e.2.2.2.1,vI e.2.2.2.2.1,vI e.2.2.2.2.2.1]),(q,88, #[vI b,vI c,g,h,vI d,vI f]),(s,35,(Ab m u))] 0 _ _ _ _ _ (#[vS e.1,L,vI e.2.2.1,vI e.2.2.2.1,vI e.2.2.2.2.1,vI e.2.2.2.2.2.1]) Z Z Z Z (.ofS Z Z (Ae Z (sR M (Ae Z (Ae Z (Ae Z (Ae Z AD))))))) Z Z<|rz Z<|Aa λav O=>Aa λaw P=>Ah<|rm 4 [1] Z ?_
  refine AS 12 43 [(2,vI i),(3,vI n),(4,vP s 0),(5,vP q 0),(10,vB e.2.2.2.2.2.2)] vB (λb_=>De N m b c p k d f i n e b_=some r) (λaq a T=> ?_) (λj=> ?_)
  ·unfold De at a
   refine rn 1 Z<|AS 17 61 [(2,vI i),(3,vI n),(4,vP s 0),(5,vP q 0),(10,vB e.2.2.2.2.2.2)] vB (λb_=>Cw N m b c p k d f i n e b_=some r) (λar a T=> ?_) (λj=> ?_)
   ·unfold Cw at a
    refine rn 1 Z<|AS 9 71 [(2,vI i),(3,vI n),(4,vP s 0),(5,vP q 0),(10,vB e.2.2.2.2.2.2)] vB (λb_=>Dd N m b c p k d f i n e b_=some r) (λau a T=> ?_) (λj=> ?_)
    ·unfold Dd at a
     refine rn 1 Z<|AS 8 80 [(2,vI i),(3,vI n),(4,vP s 0),(5,vP q 0)] vB (λb_=>Dc N m b c p k d f i n b_=some r) (λax a T=> ?_) (λj=> ?_)
     ·unfold Dc at a
      refine Aj<|P _ _ ?_
      refine aB a Z (λQ a=> ?_) (λQ a=> ?_)
      ·refine AZ Z ?_
       cases a
       exact aR eV1
      refine Ac<|O _ _ ?_
      refine Cs (λtt ll=>(Ev N m b c k d f i n  =some r)/\Is [(2,vI i),(3,vI n),(4,vP s 0),(5,vP q 0)] [(q,88, #[vI b,vI c,g,h,vI d,vI f]),(s,35,(Ab m u))] tt ll) ?_ ?_
      ·refine AY [1] Z<|aE a Z (λR a=> ?_) (λR a=> ?_)
       ·refine Ad<|rm 3 [2,1] Z<|kB a λay S a=>gV _ (cF jg) (λo w z_=>Mf N m p 0 _ S z_.view u (Aa2.mono z_.ro_cell hm) g (z_.r I))<|rz Z<|AZ Z<|aN a Z (λU a=> ?_) (λU a=> ?_)
        ·refine AZ Z ?_
         cases a
         exact aR eV1
        refine Ac<|fg _ (Sub.of (suC _ (suK _ (suK _ suN)))) ?_
        exact⟨a,Ag Z Z⟩
       refine Ad<|rm 2 [1] Z<|rL (W8 I) Z<|rz Z<|aD a Z (λV a=> ?_) (λV a=> ?_)
       ·refine AZ Z ?_
        cases a
        exact aR eV1
       refine Ac<|fg _ (Sub.of (suC _ (suK _ (suK _ suN)))) ?_
       exact⟨a,Ag Z Z⟩
      clear a;rintro t l ⟨a,⟨T,rfl⟩,rfl⟩
      unfold Ev at a
      refine Cs (λtt ll=>(Eu d i n  =some r)/\Is [(2,vI i),(3,vI n),(5,vP q 0)] (Vm q b c g h d f) tt ll) ?_ ?_
      ·refine AY [0] Z<|aE a Z (λW a=> ?_) (λW a=> ?_)
       ·refine Ad<|rm 5 [1,0,0] Z<|kB a λaz X a=>gV _ (cF eM) (λo w z_=>Mc N m c k _ X z_.view u (Aa2.mono z_.ro_cell hm) h (z_.r J))<|rz Z<|Aa λba Y=>AZ Z<|aN a Z (λaa a=> ?_) (λaa a=> ?_)
        ·refine AZ Z ?_
         cases a
         exact aR eV1
        refine Ac<|Y _ _ ?_
        refine AY [0] Z<|aN a Z (λab a=> ?_) (λab a=> ?_)
        ·refine AZ Z ?_
         cases a
         exact aR eV1
        refine Ac<|fg _ (Sub.of (suK _ (suC _ suN))) ?_
        exact⟨a,Ag Z Z⟩
       refine Aa λbb ac=>Ad<|rm 2 [0] Z<|rL (W8 J) Z<|rz Z<|aD a Z (λad a=> ?_) (λad a=> ?_)
       ·refine AZ Z ?_
        cases a
        exact aR eV1
       refine Ac<|ac _ _ ?_
       refine Aa λbc ae=>Ah<|rm 5 [0] Z<|AS 5 123 [(2,vI i),(3,vI n),(5,vP q 0)] vB (λb_=>Et d i n b_=some r) (λbd a T=> ?_) (λj=> ?_)
       ·unfold Et at a
        refine Aj<|ae _ _ ?_
        refine aB a Z (λaf a=> ?_) (λaf a=> ?_)
        ·refine AZ Z ?_
         cases a
         exact aR eV1
        refine Ac<|fg _ (Sub.of (suK _ (suC _ suN))) ?_
        exact⟨a,Ag Z Z⟩
       rcases v:(decide (f<=i))with _|_
       ·replace a:=iF v a
        refine rn 1 Z<|r_y Z<|rm 4 [0] Z ?_
        exact j _ _ a Z Z
       replace a:=iD v a
       refine rn 5 Z ?_
       exact j _ _ a Z Z
      clear a;rintro t l ⟨a,⟨T,rfl⟩,rfl⟩
      unfold Eu at a
      refine Aa λbe ag=>Aa λbf ah=>Ah<|rm 5 [0] Z<|AS 5 133 [] vB (λb_=>FT b_=some r) (λbg a T=> ?_) (λj=> ?_)
      ·unfold FT at a
       refine Aj<|ah _ _ ?_
       refine aB a Z (λai a=> ?_) (λai a=> ?_)
       ·refine AZ Z ?_
        cases a
        exact aR eV1
       refine Ac<|ag _ _ ?_
       refine AZ Z ?_
       cases a
       exact aR eV1
      rcases x:(decide (d<=i))with _|_
      ·replace a:=iF x a
       refine rn 1 Z<|r_y Z<|rm 4 [0] Z ?_
       exact j _ _ a Z Z
      replace a:=iD x a
      refine rn 5 Z ?_
      exact j _ _ a Z Z
     rcases y:au with _|_
     ·replace a:=iB y a
      refine rn 1 Z<|r_y Z<|rm 3 [1] Z ?_
      rcases z:(b==3)with _|_
      ·replace a:=iG z a
       refine rn 4 Z ?_
       exact j _ _ a Z Z
      replace a:=iE z a
      refine rn 4 Z ?_
      exact j _ _ a Z Z
     replace a:=ifp y a
     refine rn 4 Z<|Ct Z Z<|Ct Z Z<|rn 2 Z ?_
     exact j _ _ a Z Z
    rcases A:ar with _|_
    ·replace a:=iB A a
     refine rn 1 Z<|r_y Z<|rm 3 [1] Z ?_
     rcases B:(b==1)with _|_
     ·replace a:=iG B a
      refine rn 5 Z ?_
      exact j _ _ a Z Z
     replace a:=iE B a
     refine rn 1 Z<|r_y Z<|rm 4 [1] Z ?_
     exact j _ _ a Z Z
    replace a:=ifp A a
    refine rn 4 Z<|Ct Z Z<|Ct Z Z<|Ct Z Z<|rn 2 Z ?_
    exact j _ _ a Z Z
   rcases C:aq with _|_
   ·replace a:=iB C a
    refine rn 1 Z<|r_y Z<|rm 3 [1] Z ?_
    rcases D:(b==2)with _|_
    ·replace a:=iG D a
     refine rn 4 Z<|Ct Z Z<|Ct Z Z<|Ct Z Z<|Ct Z Z<|Ct Z Z<|Ct Z Z<|rn 3 Z ?_
     exact j _ _ a Z Z
    replace a:=iE D a
    refine rn 1 Z<|r_y Z<|rm 3 [1] Z ?_
    rcases E:(decide (c<0))with _|_
    ·replace a:=iF E a
     refine rn 1 Z<|r_y Z<|rm 2 [1] Z<|r_y Z<|rm 1 [2] Z<|r_y Z<|rL (W9 hm.2.2.2.2.1) Z<|rn 4 Z ?_
     exact j _ _ a Z Z
    replace a:=iD E a
    refine rn 9 Z ?_
    exact j _ _ a Z Z
   replace a:=ifp C a
   refine rn 4 Z<|Ct Z Z<|Ct Z Z<|Ct Z Z<|Ct Z Z<|Ct Z Z<|Ct Z Z<|Ct Z Z<|Ct Z Z<|Ct Z Z<|Ct Z Z<|Ct Z Z<|rn 2 Z ?_
   exact j _ _ a Z Z
  rcases F:(b==0)with _|_
  ·replace a:=iG F a
   refine rn 4 Z<|Ct Z Z<|Ct Z Z<|Ct Z Z<|Ct Z Z<|Ct Z Z<|Ct Z Z<|rn 2 Z ?_
   exact j _ _ a Z Z
  replace a:=iE F a
  refine rn 1 Z<|r_y Z<|rm 3 [1] Z ?_
  rcases G:(decide (c<0))with _|_
  ·replace a:=iF G a
   refine rn 1 Z<|r_y Z<|rm 2 [1] Z<|r_y Z<|rm 1 [2] Z<|r_y Z<|rL (W9 hm.2.2.2.2.2.1) Z<|rn 3 Z ?_
   exact j _ _ a Z Z
  replace a:=iD G a
  refine rn 8 Z ?_
  exact j _ _ a Z Z
 rcases H:(decide (b<0))with _|_
 ·replace a:=iF H a
  refine rn 1 Z<|r_y Z<|rm 3 [0] Z ?_
  exact j _ _ a Z Z
 replace a:=iD H a
 refine rn 4 Z ?_
 exact j _ _ a Z Z
def Ck(N:Nat)(m:Ao)(b:Y0 (Int×Int×(Y0 (W1))×(Y0 (Int×W3))×Int×Int)):Nat->Int->Y1 (Int×Int)
  |0,_=>none
  |d+1,a=>if a<(b.length:Int)then ck (0<=a/\a<(b.length:Int)) ((ES N m (b[a.toNat]!.1) (b[a.toNat]!.2.1) (b[a.toNat]!.2.2.1) (b[a.toNat]!.2.2.2.1) (b[a.toNat]!.2.2.2.2.1) (b[a.toNat]!.2.2.2.2.2) a (b.length:Int)).bind λc=>if(c:Int)≠0 then some (a,c)else ck (R64 (a+1)) ((Ck N m b d) (a+1)))else some (0,0)
def Es(N:Nat)(m:Ao)(a:Y0 (Int×Int×(Y0 (W1))×(Y0 (Int×W3))×Int×Int)):Y1 (Int×Int):=if(a.length:Int)>32 then some (0,2)else Ck N m a N 0
theorem LS(N m c r)(b:Es N m c=some r)(F)(z:AC)(L:Aa2 F z m)(j)(d:RdN Ab9 F j c):Does prog 23 #[vA (Ab m z),j] F [] (pV (vT #[vI r.1,vI r.2])):=by
 unfold Es at b
 refine Ak follows func23 Z 30 Z _ fz2 (λy=> ?_)
 refine Ad<|rA Z λG=>rz Z<|Aa λM A=>Ad<|rn 1 Z<|rL (W9 d) Z<|rz Z<|aD b Z (λB b=> ?_) (λB b=> ?_)
 ·refine AZ Z ?_
  cases b
  exact aR eV2
 refine Ac<|A _ _ ?_
 refine Aa λO C=>AZ Z<|Ai<|AL (λtt ll nn=> ∃(g:Nat) (a:Int),(Ck N m c g a=some r)/\Is [(1,j),(2,vP G 0),(6,vI a)] [(G,35,(Ab m z))] tt ll/\nn=g+1) (N+1) ?_ ?_
 ·exact⟨N,0,b,Ag Z Z,Z⟩
 clear b;rintro t l _ ⟨g,a,b,⟨⟨T,rfl⟩,rfl⟩,rfl⟩
 rcases g with _|g
 ·exact absurd b (by simp [Ck])
 rw [Ck] at b
 refine Aa λH k=>Ad<|rn 2 Z<|rL (W9 d) Z<|rz Z<|aD b Z (λn b=> ?_) (λn b=> ?_)
 ·refine Ac<|k _ _ ?_
  refine Aa λI p=>Ai<|Aa λJ q=>BO [(some 25,false)] (conG prog [(25,cV (ES N m (c[a.toNat]!.1) (c[a.toNat]!.2.1) (c[a.toNat]!.2.2.1) (c[a.toNat]!.2.2.2.1) (c[a.toNat]!.2.2.2.2.1) (c[a.toNat]!.2.2.2.2.2) a (c.length:Int)) λD=>vI D)]) [] (by decide+kernel) (λP=>AN)<|rm 3 [0] Z<|kC b λe b=> ?_
  obtain⟨_,⟨h,i,s,u,rfl⟩,hat20⟩:=RdN.at (E:=Ab9) d (Cp e)
  refine rI (W9 d) e Z<|Mk (vA #[vI (c[a.toNat]!.1),vI (c[a.toNat]!.2.1),h,i,vI (c[a.toNat]!.2.2.2.2.1),vI (c[a.toNat]!.2.2.2.2.2)]) (vs:=[vI (c[a.toNat]!.1),vI (c[a.toNat]!.2.1),h,i,vI (c[a.toNat]!.2.2.2.2.1),vI (c[a.toNat]!.2.2.2.2.2)]) (a.toNat*6) 0 Z Z (λo w z_=>At.mono z_.ro_cell hat20) Z<|rn 2 Z<|rL (W9 d) Z<|kB b λK f b=>rg _ (cF tX) (λo w z_=>Qg N m _ _ _ _ _ _ a _ _ f z_.view z (Aa2.mono z_.ro_cell L) h (z_.r s) i (z_.r u)) (Hq f)<|rz Z<|q _ _ ?_
  refine AZ Z<|aN b Z (λv b=> ?_) (λv b=> ?_)
  ·refine AZ Z ?_
   cases b
   exact aR eV2
  refine Ac<|p _ _ ?_
  refine Ah<|rn 1 Z<|kC b λx b=>rX x Z<|rz Z<|fg _ (Sub.of (suK _ suN)) ?_
  exact⟨g+1,by omega,g,(a+1),b,Ag Z Z,Z⟩
 refine AM<|C _ _ ?_
 refine AZ Z ?_
 cases b
 exact aR eV2
def Cz(b:Y0 (W2×Int)):Nat->Int->Int->Y1 Int
  |0,_,_=>none
  |d+1,c,a=>if a<(b.length:Int)then ck (0<=a/\a<(b.length:Int)) (ck ((R64 (c+(b[a.toNat]!).2))) (ck (R64 (a+1)) ((Cz b d) (c+(b[a.toNat]!).2) (a+1))))else some c
def GB(N:Nat)(_:W2)(a:Y0 (W2×Int))(_ _ _ _:Int):Y1 Int:=Cz a N 0 0
theorem Qh(N i g j k m n r)(a:GB N i g j k m n=some r)(y e)(b:Rd Ab3 y e g):Does prog 61 #[vA #[vS i,e,vI j,vI k,vI m,vI n]] y [] (pV (vI r)):=by
 unfold GB at a
 refine Ak follows func61 Z 21 Z _ fz1 (λs=> ?_)
 refine Ad<|rA Z λx=>rz Z<|AZ Z<|Aa λA u=>AZ Z<|Ai<|AL (λtt ll nn=> ∃(h:Nat) (f:Int) (c:Int),(Cz g h f c=some r)/\Is [(1,vP x 0),(3,vI f),(4,vI c)] (sL x i e j k m n) tt ll/\nn=h+1) (N+1) ?_ ?_
 ·exact⟨N,0,0,a,Ag Z Z,Z⟩
 clear a;rintro t l _ ⟨h,f,c,a,⟨⟨T,rfl⟩,rfl⟩,rfl⟩
 rcases h with _|h
 ·exact absurd a (by simp [Cz])
 rw [Cz] at a
 refine Aa λB v=>Ad<|rm 3 [0] Z<|rL (W8 b) Z<|rz Z<|aD a Z (λw a=> ?_) (λw a=> ?_)
 ·refine Ac<|v _ _ ?_
  refine Aa λz o=>Ai<|Ah<|rm 4 [0] Z<|kC a λd a=>rI (W8 b) d Z<|rF (W8 b) (Bp d) Z<|rE (Ay b) d 1 Z<|kC a λp a=>rX p Z<|rz Z<|o _ _ ?_
  refine Ah<|rn 1 Z<|kC a λq a=>rX q Z<|rz Z<|fg _ (Sub.of (suK _ suN)) ?_
  exact⟨h+1,by omega,h,(f+(g[c.toNat]!).2),(c+1),a,Ag Z Z,Z⟩
 refine AM<|u _ _ ?_
 refine AZ Z ?_
 cases a
 exact aR eV1
def Cu(N:Nat)(m:Ao)(b:Y0 (Int×Int)):Nat->Int->Y1 (Int×Int)
  |0,_=>none
  |f+1,a=>if a<(b.length:Int)then ck (0<=a/\a<(b.length:Int)) (ck (0<=a/\a<(b.length:Int)) ((Cy N m ((b[a.toNat]!).1) ((b[a.toNat]!).2)).bind λd=>if d.2=true then ck (0<=a/\a<(b.length:Int)) ((Bt N m ((b[a.toNat]!).1)).bind λe=>if(d.1:Int)≠16 then some (a,9)else ck (0<=a/\a<(b.length:Int)) (ck (0<=(b[a.toNat]!).2/\(b[a.toNat]!).2<=(e.2.1.length:Int)) ((GB N ([]) (((e.2.1).take (((b[a.toNat]!).2).toNat)).drop 0) 0 0 0 0).bind λc=>ck (0<=c/\c<=9223372036854775807) (if(c%16:Int)≠0 then some (a,9)else ck (R64 (a+1)) ((Cu N m b f) (a+1))))))else some (a,5)))else some (0,0)
def ER(N:Nat)(m:Ao)(a:Y0 (Int×Int)):Y1 (Int×Int):=if(a.length:Int)>4 then some (0,2)else Cu N m a N 0
theorem Ma(N m j r)(a:ER N m j=some r)(z)(k:AC)(hm:Aa2 z k m)(A)(e:Rd Ad3 z A j):Does prog 25 #[vA (Ab m k),A] z [] (pV (vT #[vI r.1,vI r.2])):=by
 unfold ER at a
 refine Ak follows func25 Z 65 Z _ fz2 (λU=> ?_)
 refine Ad<|rA Z λy=>rz Z<|Aa λK3 V=>Ad<|rn 1 Z<|rL (W8 e) Z<|rz Z<|aD a Z (λW a=> ?_) (λW a=> ?_)
 ·refine AZ Z ?_
  cases a
  exact aR eV2
 refine Ac<|V _ _ ?_
 refine Aa λK7 X=>AZ Z<|Ai<|AL (λtt ll nn=> ∃(E:Nat) (d:Int),(Cu N m j E d=some r)/\Is [(1,A),(2,vP y 0),(6,vI d)] [(y,35,(Ab m k))] tt ll/\nn=E+1) (N+1) ?_ ?_
 ·exact⟨N,0,a,Ag Z Z,Z⟩
 clear a;rintro t l _ ⟨E,d,a,⟨⟨T,rfl⟩,rfl⟩,rfl⟩
 rcases E with _|E
 ·exact absurd a (by simp [Cu])
 rw [Cu] at a
 refine Aa λad F=>Ad<|rn 2 Z<|rL (W8 e) Z<|rz Z<|aD a Z (λG a=> ?_) (λG a=> ?_)
 ·refine Ac<|F _ _ ?_
  refine Aa λae H=>Ai<|Aa λaf I=>BO [(some 32,false)] (conG prog [(32,cV (Cy N m ((j[d.toNat]!).1) ((j[d.toNat]!).2)) λb=>vT #[vI b.1,vB b.2])]) [] (by decide+kernel) (λhn=>AN)<|rm 3 [0] Z<|kC a λn a=>rI (W8 e) n Z<|rF (W8 e) (Bp n) Z<|rE (Ay e) n 0 Z<|rn 2 Z<|kC a λq a=>rI (W8 e) q Z<|rF (W8 e) (Bp q) Z<|rE (Ay e) q 1 Z<|kB a λJ B a=>rg _ (cF bA) (λo w z_=>Je N m _ _ _ B z_.view k (Aa2.mono z_.ro_cell hm)) (Hq B)<|rz Z<|I _ _ ?_
  refine Aa λag K=>AZ Z<|BS _ Z (λs=> ?_) (λs=> ?_)
  ·replace a:=ifn (Bool.eq_false_iff.1 (DG s)) a
   refine AZ Z<|CJ [(4,vI d),(5,vI 5)] Z (λT=> ?_)
   cases a
   exact aR eV2
  replace a:=ifp (DH s) a
  refine Ac<|K _ _ ?_
  refine Aa λah L=>fc (p:= ∀b,Bt N m ((j[d.toNat]!).1)=some b-> ∃s_,Rd Ab3 z s_ b.2.1) (λw_ hi_ hro_ b Y=>by obtain⟨_,_,⟨_,h_,_⟩⟩:=ct (PP:=(oR Ab3 z b.2.1 λs_0=>(oE (vT #[vA #[vS b.1,s_0,vI b.2.2.1,vI b.2.2.2.1,vI b.2.2.2.2.1,vI b.2.2.2.2.2.1],vB b.2.2.2.2.2.2]) []))) w_ trivial hro_ (DB N m ((j[d.toNat]!).1) _ Y z k hm);exact⟨_,h_⟩) (λM=> ?_)
  refine BO [(some 45,false)] (conG prog [(45,λ_ _ v_ L_ U_=> ∀b,Bt N m ((j[d.toNat]!).1)=some b->(pO (V2 []) (oR Ab3 z b.2.1 λs_0=>(oE (vT #[vA #[vS b.1,s_0,vI b.2.2.1,vI b.2.2.2.1,vI b.2.2.2.2.1,vI b.2.2.2.2.2.1],vB b.2.2.2.2.2.2]) []))) v_ L_ U_)]) [] (by decide+kernel) (λhn=>AN)<|rm 3 [0] Z<|kC a λu a=>rI (W8 e) u Z<|rF (W8 e) (Bp u) Z<|rE (Ay e) u 0 Z<|kB a λc v a=>xA (Ls:=[[(y,35,(Ab m k))]]) (RL:=[[(y,35,(Ab m k))]]) (oR Ab3 z c.2.1 λs_0=>(oE (vT #[vA #[vS c.1,s_0,vI c.2.2.1,vI c.2.2.2.1,vI c.2.2.2.2.1,vI c.2.2.2.2.2.1],vB c.2.2.2.2.2.2]) [])) 45 24 _ Z Z Z (cF TI) (λo w z_=>DoesI.ro_mono (Fw (Ls:=[[(y,35,(Ab m k))]]) (is:=[]) Z z_) (DB N m _ _ v z k hm)) (Hq v) (by rintro v_ O_ ⟨_,_,⟨_,h_⟩⟩;exact h_) (Ac2.sub (R:=[]) (Wc (M _ v) λs_0=>(Oe Z)) (W5 [] [] Z)) ?_
  rintro _ _ ⟨i,f,⟨rfl,rfl⟩⟩
  refine AK (Ls:=[[(y,35,(Ab m k))]]) (Ls':=[[(y,35,(Ab m k))]]) [0] Z Z<|rn 3 Z<|rA Z λO=>ZX [(O,97, #[vS c.1,i,vI c.2.2.1,vI c.2.2.2.1,vI c.2.2.2.2.1,vI c.2.2.2.2.2.1]),(y,35,(Ab m k))] 0 _ _ _ (#[V4 (⟨#[]⟩),nS,vI 0,vI 0,vI 0,vI 0]) (#[vS c.1,i,vI c.2.2.1,vI c.2.2.2.1,vI c.2.2.2.2.1,vI c.2.2.2.2.2.1]) (#[vS c.1,i,vI c.2.2.1,vI c.2.2.2.1,vI c.2.2.2.2.1,vI c.2.2.2.2.2.1]) Z Z Z Z Z (.ofS Z Z (Ae Z (sR f (Ae Z (Ae Z (Ae Z (Ae Z AD))))))) Z Z<|rz Z<|L _ _ ?_
  refine CJ [(1,A),(2,vP y 0),(6,vI d),(7,vI J.1),(9,vP O 0)] Z (λT=> ?_)
  refine Aa λai C=>BO [(some 60,false)] (conG prog [(60,cV (GB N ([]) (((c.2.1).take (((j[d.toNat]!).2).toNat)).drop 0) 0 0 0 0) λb=>vI b)]) [] (by decide+kernel) (λhn=>AN)<|rn 3 Z ?_
  rcases g:(J.1 !=16)with _|_
  ·replace a:=iM g a
   refine rn 1 Z<|r_y Z<|rm 3 [0] Z<|r_y Z<|kC a λx a=>rI (W8 e) x Z<|r_y Z<|rF (W8 e) (Bp x) Z<|r_y Z<|rE (Ay e) x 1 Z<|r_y Z<|kC a λh a=>r_W (GX i 0 (((j[d.toNat]!).2).toNat) 2) Z (GV (ID Z Z Z Z (W8 f) h))<|r_y Z<|r_W (vA #[V4 (⟨#[]⟩),GX i 0 (((j[d.toNat]!).2).toNat) 2,vI 0,vI 0,vI 0,vI 0]) Z (MM Z Z Z (FJ (CR Z (ZM (Shp.sub (W8 f) (Nat.zero_le _) (Fy h.2)) (fR (Fy h.2)))) Qp) Z)<|r_y Z<|kB a λaa D a=>rg _ (cF tW) (λo w z_=>Qh N ([]) _ 0 0 0 0 _ D z_.view (GX i 0 (((j[d.toNat]!).2).toNat) 2) ((Ql (Ay f) (Nat.zero_le _) (Fy h.2)) o w z_)) (Hq D)<|r_y Z<|kC a λP a=>r_X (vI (aa%16)) Z (SY P.1) Z<|rz Z<|C _ _ ?_
   refine aN a Z (λQ a=> ?_) (λQ a=> ?_)
   ·refine AZ Z ?_
    cases a
    exact aR eV2
   refine Ac<|H _ _ ?_
   refine Ah<|rn 1 Z<|kC a λS a=>rX S Z<|rz Z<|fg _ (Sub.of (suC _ (suK _ suN))) ?_
   exact⟨E+1,by omega,E,(d+1),a,Ag (by first|rfl|(simp only [g];done)|(simp only [g];rfl)|(simp only [BB];rfl)) Z,Z⟩
  replace a:=iN g a
  refine rz Z<|C _ _ ?_
  refine JO Z ?_
  refine AZ Z ?_
  cases a
  exact aR eV2
 refine AM<|X _ _ ?_
 refine AZ Z ?_
 cases a
 exact aR eV2
end Go.Proofs.YtjnanfkpdhmnpaaGreatDoor
