import Derived.Test.YthmpbldidnmenaaGreatDoorBa
namespace Go.Proofs.YthmpbldidnmenaaGreatDoor
open Go Go.RowKit Go.Eng _root_.Go.Proofs.Tryz
set_option linter.unusedSimpArgs false
set_option linter.unusedVariables false
set_option maxRecDepth 100000
set_option maxHeartbeats 80000000
abbrev KE(b:Nat)(x0:Int)(x1:Int)(x2:Int)(x3:Int)(x4:BitVec 64)(x5:BitVec 64):List Bl:=[(b,41, #[vI x0,vI x1,vI x2,vI x3,U x4,U x5])]
abbrev nT(b:Nat)(x0:List UInt8)(x1:Int)(x2:Int)(x3:Int)(x4:Int)(x5:Int)(x6:Int)(x7:Int)(x8:List UInt8):List Bl:=[(b,76, #[vS x0,vI x1,vI x2,vI x3,vI x4,vI x5,vI x6,vI x7,vS x8])]
abbrev RE(b:Nat)(x0:Int)(x1:Int)(x2:Value)(x3:Value)(x4:Int)(x5:Int):List Bl:=[(b,182, #[vI x0,vI x1,x2,x3,vI x4,vI x5])]
abbrev iK(b:Nat)(x0:List UInt8)(x1:Value)(x2:Int)(x3:Int)(x4:Int)(x5:Int):List Bl:=[(b,106, #[vS x0,x1,vI x2,vI x3,vI x4,vI x5])]
def Co(_:Nat)(a:Int)(b:BitVec 128):Option Bool:=if a≥1 then if a≤128 then some (decide ((((len128 ((hi b)++(lo b)):Nat):Int):Int)≤a))else some false else some false
theorem Gi(N v_0 v_1 r)(a:Co N v_0 v_1=some r):Gives prog 21 #[vA #[vI v_0,U (hi v_1),U (lo v_1)]] (vB r):=by
 unfold Co at a
 refine As follows func21 rfl 22 rfl _ fz1 (fun e=> ?_)
 refine Ad<|rA rfl fun f=>rz rfl<|Aa fun g b=>Hb [] (by decide+kernel) (fun h=>AH)<|rm 4 [0] rfl ?_
 rcases c:(decide (v_0≥1))with _|_
 ·replace a:=iF c a
  refine rz rfl<|b _ _ ?_
  cases a
  exact aR eE1
 replace a:=iD c a
 refine rn 1 rfl<|r_y rfl<|rm 4 [0] rfl ?_
 rcases d:(decide (v_0≤128))with _|_
 ·replace a:=iF d a
  refine rz rfl<|b _ _ ?_
  cases a
  exact aR eE1
 replace a:=iD d a
 refine rn 1 rfl<|r_y rfl<|rm 2 [0] rfl<|r_y rfl<|rm 1 [0] rfl<|r_y rfl<|rc _ (cF eI) (sa (hi v_1) (lo v_1))<|r_y rfl<|rc _ (cF po) (qu ((hi v_1)++(lo v_1)))<|rn 1 rfl<|r_y rfl<|rm 1 [0] rfl ?_
 refine rz rfl<|b _ _ ?_
 cases a
 exact aR eE1
theorem jk  :prog.eqGuardType prog.depth 39=false:=by kernel_rfl
theorem rQ  :prog.stoodInHeld 39=false:=by kernel_rfl
set_option maxRecDepth 100000 in
theorem Zd {c:Addr→Option Value}(b y0:Int)(a y1:BitVec 128):ev prog c (Op.equal 39 (.agg #[vI b,U (hi a),U (lo a)]) (.agg #[vI y0,U (hi y1),U (lo y1)]))=some ((b==y0)&&(a==y1)):=by
 have h:=Tf (P:=prog) (c:=c) 9999 (t:=39) #[vI b,U (hi a),U (lo a)] #[vI y0,U (hi y1),U (lo y1)] rfl rQ (fun f=>if f.offset=0 then(b==y0)else if f.offset=1 then(((hi a).toNat:Int)==((hi y1).toNat:Int))else(((lo a).toNat:Int)==((lo y1).toNat:Int)))
   (fun f hf=>by
     simp only [zr,List.not_mem_nil,or_false] at hf
     rcases hf with rfl|rfl|rfl
     · exact⟨by decide,_,_,Ib (P:=prog) (t:=3) rfl (by intro fs h;cases h) (by intro n e h;cases h) _ _ rfl,Ib (P:=prog) (t:=3) rfl (by intro fs h;cases h) (by intro n e h;cases h) _ _ rfl,PW _ _ _ rfl⟩
     · exact⟨by decide,_,_,Ib (P:=prog) (t:=37) rfl (by intro fs h;cases h) (by intro n e h;cases h) _ _ rfl,Ib (P:=prog) (t:=37) rfl (by intro fs h;cases h) (by intro n e h;cases h) _ _ rfl,PW _ _ _ rfl⟩
     · exact⟨by decide,_,_,Ib (P:=prog) (t:=37) rfl (by intro fs h;cases h) (by intro n e h;cases h) _ _ rfl,Ib (P:=prog) (t:=37) rfl (by intro fs h;cases h) (by intro n e h;cases h) _ _ rfl,PW _ _ _ rfl⟩)
 rw [←Zy a y1];rw [show Op.equal 39 (.agg #[vI b,U (hi a),U (lo a)]) (.agg #[vI y0,U (hi y1),U (lo y1)])=Op.equalIn (9999+1) 39 (.agg #[vI b,U (hi a),U (lo a)]) (.agg #[vI y0,U (hi y1),U (lo y1)])from rfl,h]
 first|(simp;done)|simp [Bool.and_assoc]
def LW(N:Nat)(c:Int)(a:Int)(b:BitVec 128)(f:List (List UInt8×Int×Int×Int×Int×Int×Int×Int×List UInt8))(d:Bool):Option Int:=if d=true then some 7 else if((f[c.toNat]!).1)=([112,117,115,104]:List UInt8)then(Co N a b).bind fun e=>if e=true then some 0 else some 1 else if((a==0)&&(b==((0#64)++(0#64))))=true then some 0 else some 1
def Pr(N:Nat)(a:Int)(f:Int)(e:Int)(b:Int)(c:BitVec 128)(d:List (List UInt8×Int×Int×Int×Int×Int×Int×Int×List UInt8))(g:Bool):Option Int:=if g=true then LW N a b c d true else if((d[a.toNat]!).1)=([115,108,105,99,101]:List UInt8)then LW N a b c d (decide (f<e))else LW N a b c d false
def Ps(N:Nat)(b:Int)(d:Int)(a:Int)(c:Int)(e:BitVec 128)(f:List (List UInt8×Int×Int×Int×Int×Int×Int×Int×List UInt8))(g:Bool):Option Int:=if g=true then Pr N b d a c e f true else Pr N b d a c e f (decide (a>(f[b.toNat]!).2.2.2.2.2.2.2.1))
def Pt(N:Nat)(b:Int)(d:Int)(a:Int)(c:Int)(e:BitVec 128)(f:List (List UInt8×Int×Int×Int×Int×Int×Int×Int×List UInt8))(g:Bool):Option Int:=if g=true then Ps N b d a c e f true else Ps N b d a c e f (decide (a<(f[b.toNat]!).2.2.2.2.2.2.1))
def Pu(N:Nat)(a:Int)(b:Int)(e:Int)(d:Int)(f:BitVec 128)(g:Bool):Option Int:=if g=true then some 10 else(Hk N).bind fun c=>ck (0≤a∧a<(c.length:Int)) (if b<(c[a.toNat]!).2.2.2.2.1 then Pt N a b e d f c true else Pt N a b e d f c (decide (b>(c[a.toNat]!).2.2.2.2.2.1)))
def Qk(N:Nat)(a:Int)(d:Int)(c:Int)(b:Int)(e:BitVec 128):Option Int:=if a<0 then Pu N a d c b e true else Pu N a d c b e (decide (a>34))
theorem dI(N x_0 x_1 x_2 x_3 x_4 r)(a:Qk N x_0 x_1 x_2 x_3 x_4=some r):Gives prog 7 #[vA #[vI x_0,vI x_1,vI x_2,vI x_3,U (hi x_4),U (lo x_4)]] (vI r):=by
 unfold Qk at a
 refine As follows func7 rfl 70 rfl _ fz1 (fun G=> ?_)
 refine Ad<|rA rfl fun h=>rz rfl<|Aa fun Y H=>Aa fun Z I=>Ag<|rm 4 [0] rfl<|AG 4 11 [(1,vP h 0)] vB (fun b_=>Pu N x_0 x_1 x_2 x_3 x_4 b_=some r) (fun b5 a T=> ?_) (fun d=> ?_)
 ·unfold Pu at a
  refine Ak<|I _ _ ?_
  refine aB a rfl (fun J a=> ?_) (fun J a=> ?_)
  ·refine AZ rfl ?_
   cases a
   exact aR eE1
  refine Ab<|H _ _ ?_
  refine Aa fun K8 K=>Bw [(some 12,false)] (conG prog [(12,fun _ _ v_ L_ U_=> ∀t,Hk N  =some t→(p1 (fun s_=>s_) 76 Ny t) v_ L_ U_)]) [] (by decide+kernel) (fun hn=>AH)<|kB a fun b i a=>Ym (Ls:=[(KE h x_0 x_1 x_2 x_3 (hi x_4) (lo x_4))]) (fun u=>u) 76 Ny b 20 _ rfl rfl rfl (cF TS) (fun o w z_=>Qj N  _ i z_.view) (GB i) (fun u v x=> ?_)
  refine rm 2 [0] rfl<|kC a fun j a=>rI (Sl.shp x) j rfl<|rE (Av x (Ai (Ls:=[(KE h x_0 x_1 x_2 x_3 (hi x_4) (lo x_4)),v]) (k:=1) rfl rfl)) j 0 rfl ?_
  refine rA rfl fun e=>Yl (List.flatten [(nT e ((b[x_0.toNat]!).1) ((b[x_0.toNat]!).2.1) ((b[x_0.toNat]!).2.2.1) ((b[x_0.toNat]!).2.2.2.1) ((b[x_0.toNat]!).2.2.2.2.1) ((b[x_0.toNat]!).2.2.2.2.2.1) ((b[x_0.toNat]!).2.2.2.2.2.2.1) ((b[x_0.toNat]!).2.2.2.2.2.2.2.1) ((b[x_0.toNat]!).2.2.2.2.2.2.2.2)),(KE h x_0 x_1 x_2 x_3 (hi x_4) (lo x_4)),v]) 0 _ _ _ (#[Value.string (⟨#[]⟩),vI 0,vI 0,vI 0,vI 0,vI 0,vI 0,vI 0,Value.string (⟨#[]⟩)]) (#[vS ((b[x_0.toNat]!).1),vI ((b[x_0.toNat]!).2.1),vI ((b[x_0.toNat]!).2.2.1),vI ((b[x_0.toNat]!).2.2.2.1),vI ((b[x_0.toNat]!).2.2.2.2.1),vI ((b[x_0.toNat]!).2.2.2.2.2.1),vI ((b[x_0.toNat]!).2.2.2.2.2.2.1),vI ((b[x_0.toNat]!).2.2.2.2.2.2.2.1),vS ((b[x_0.toNat]!).2.2.2.2.2.2.2.2)]) (#[vS ((b[x_0.toNat]!).1),vI ((b[x_0.toNat]!).2.1),vI ((b[x_0.toNat]!).2.2.1),vI ((b[x_0.toNat]!).2.2.2.1),vI ((b[x_0.toNat]!).2.2.2.2.1),vI ((b[x_0.toNat]!).2.2.2.2.2.1),vI ((b[x_0.toNat]!).2.2.2.2.2.2.1),vI ((b[x_0.toNat]!).2.2.2.2.2.2.2.1),vS ((b[x_0.toNat]!).2.2.2.2.2.2.2.2)]) rfl rfl rfl rfl rfl (.of rfl rfl) rfl rfl ?_
  refine Ak<|K _ _ ?_
  refine Aa fun P y=>Aa fun Q z=>Ag<|rm 7 [1,0] rfl<|AG 7 30 [(1,vP h 0),(3,vP e 0)] vB (fun b_=>Pt N x_0 x_1 x_2 x_3 x_4 b b_=some r) (fun L a T=> ?_) (fun d=> ?_)
  ·unfold Pt at a
   refine rn 1 rfl<|AG 7 38 [(1,vP h 0),(3,vP e 0)] vB (fun b_=>Ps N x_0 x_1 x_2 x_3 x_4 b b_=some r) (fun M a T=> ?_) (fun d=> ?_)
   ·unfold Ps at a
    refine rn 1 rfl<|AG 7 46 [(1,vP h 0),(3,vP e 0)] vB (fun b_=>Pr N x_0 x_1 x_2 x_3 x_4 b b_=some r) (fun O a T=> ?_) (fun d=> ?_)
    ·unfold Pr at a
     refine rn 1 rfl<|AG 11 58 [(1,vP h 0),(3,vP e 0)] vB (fun b_=>LW N x_0 x_3 x_4 b b_=some r) (fun R a T=> ?_) (fun d=> ?_)
     ·unfold LW at a
      refine Ak<|z _ _ ?_
      refine aB a rfl (fun A a=> ?_) (fun A a=> ?_)
      ·refine AZ rfl ?_
       cases a
       exact aR eE1
      refine Ab<|y _ _ ?_
      refine Aa fun S B=>Ad<|rm 2 [0] rfl<|r_W (vB (((b[x_0.toNat]!).1)==([112,117,115,104]:List UInt8))) rfl (Df rfl rfl)<|Ak<|aE a rfl (fun C a=> ?_) (fun C a=> ?_)
      ·refine Aa fun V D=>Ad<|rm 2 [1] rfl<|kB a fun W E a=>rc _ (cF Qr) (Gi N x_3 x_4 _ E)<|rz rfl<|Bv _ rfl (fun f=> ?_) (fun f=> ?_)
       ·replace a:=ifn (Bool.eq_false_iff.1 (CM f)) a
        refine AZ rfl ?_
        cases a
        exact aR eE1
       replace a:=ifp (CN f) a
       refine Ab<|D _ _ ?_
       refine AZ rfl ?_
       cases a
       exact aR eE1
      refine Ab<|B _ _ ?_
      refine Aa fun X F=>Ad<|r_V (vP h 3) rfl<|rl (vA #[vI x_3,U (hi x_4),U (lo x_4)]) 1<|r_W (vA #[vI 0,U (0#64),U (0#64)]) rfl (Ap rfl rfl rfl rfl)<|r_W (vB (!((x_3==0)&&(x_4==((0#64)++(0#64)))))) rfl (RN rfl rfl jk (by have h_:=fun c=>Zd (c:=c) x_3 0 x_4 ((0#64)++(0#64));simp only [Bn] at h_;exact h_ _)) ?_
      refine Ak<|Bv _ rfl (fun g=> ?_) (fun g=> ?_)
      ·replace a:=ifn (Bool.eq_false_iff.1 (CM g)) a
       refine AZ rfl ?_
       cases a
       exact aR eE1
      replace a:=ifp (CN g) a
      refine Ab<|F _ _ ?_
      refine AZ rfl ?_
      cases a
      exact aR eE1
     rcases l:O with _|_
     ·replace a:=iB l a
      refine rn 1 rfl<|r_y rfl<|rm 1 [0] rfl<|r_y rfl<|r_W (vB (((b[x_0.toNat]!).1)==([115,108,105,99,101]:List UInt8))) rfl (Df rfl rfl)<|rn 1 rfl ?_
      rcases m:(((b[x_0.toNat]!).1)==([115,108,105,99,101]:List UInt8))with _|_
      ·replace a:=iG m a
       refine rn 7 rfl ?_
       first|exact d _ _ a rfl rfl|exact lx_cn _ _ (d _ _ a rfl rfl)
      replace a:=iE m a
      refine rn 1 rfl<|r_y rfl<|rm 2 [1] rfl<|r_y rfl<|rm 4 [1] rfl ?_
      first|exact d _ _ a rfl rfl|exact lx_cn _ _ (d _ _ a rfl rfl)
     replace a:=ifp l a
     refine rn 4 rfl<|BT rfl rfl<|BT rfl rfl<|BT rfl rfl<|BT rfl rfl<|BT rfl rfl<|rn 2 rfl ?_
     first|exact d _ _ a rfl rfl|exact lx_cn _ _ (d _ _ a rfl rfl)
    rcases n:M with _|_
    ·replace a:=iB n a
     refine rn 1 rfl<|r_y rfl<|rm 3 [1] rfl<|r_y rfl<|rm 3 [0] rfl ?_
     first|exact d _ _ a rfl rfl|exact lx_cn _ _ (d _ _ a rfl rfl)
    replace a:=ifp n a
    refine rn 7 rfl ?_
    first|exact d _ _ a rfl rfl|exact lx_cn _ _ (d _ _ a rfl rfl)
   rcases p:L with _|_
   ·replace a:=iB p a
    refine rn 1 rfl<|r_y rfl<|rm 3 [1] rfl<|r_y rfl<|rm 3 [0] rfl ?_
    first|exact d _ _ a rfl rfl|exact lx_cn _ _ (d _ _ a rfl rfl)
   replace a:=ifp p a
   refine rn 7 rfl ?_
   first|exact d _ _ a rfl rfl|exact lx_cn _ _ (d _ _ a rfl rfl)
  rcases q:(decide (x_1<(b[x_0.toNat]!).2.2.2.2.1))with _|_
  ·replace a:=iF q a
   refine rn 1 rfl<|r_y rfl<|rm 3 [1] rfl<|r_y rfl<|rm 3 [0] rfl ?_
   first|exact d _ _ a rfl rfl|exact lx_cn _ _ (d _ _ a rfl rfl)
  replace a:=iD q a
  refine rn 7 rfl ?_
  first|exact d _ _ a rfl rfl|exact lx_cn _ _ (d _ _ a rfl rfl)
 rcases s:(decide (x_0<0))with _|_
 ·replace a:=iF s a
  refine rn 1 rfl<|r_y rfl<|rm 3 [0] rfl ?_
  first|exact d _ _ a rfl rfl|exact lx_cn _ _ (d _ _ a rfl rfl)
 replace a:=iD s a
 refine rn 4 rfl ?_
 first|exact d _ _ a rfl rfl|exact lx_cn _ _ (d _ _ a rfl rfl)
def Dx(f:Int)(a:(List UInt8)×(List (List UInt8×Int))×Int×Int×Int×Int×Bool)(b:Bool):Option (Int×Bool):=if b=true then some (0,false)else ck (0≤f∧f<(a.2.1.length:Int)) (some (((a.2.1)[f.toNat]!).2,true))
def Dy(f:Int)(a:(List UInt8)×(List (List UInt8×Int))×Int×Int×Int×Int×Bool)(b:Bool):Option (Int×Bool):=if b=true then Dx f a true else Dx f a (decide (f≥(a.2.1.length:Int)))
def BY(N:Nat)(m:An)(a:Int)(f:Int):Option (Int×Bool):=(Bc N m a).bind fun b=>if b.2.2.2.2.2.2=true then Dy f b (decide (f<0))else Dy f b true
theorem Hv(N m slot f r)(a:BY N m slot f=some r)(ro)(mv:Ay)(hm:Aa2 ro mv m):Does prog 72 #[vA (Ac m mv),vI slot,vI f] ro [] (pV (vT #[vI r.1,vB r.2])):=by
 unfold BY at a
 refine Aj follows func72 rfl 35 rfl _ fz3 (fun k=> ?_)
 refine Ad<|rA rfl fun l=>rz rfl<|Ad<|rm 2 [0] rfl<|kB a fun b n a=>gM (Ls:=[[(l,35,(Ac m mv))]]) (FL:=[]) [] (cF RV) (fun o w hn_ z_=>rom [] rfl z_ (CX N m slot _ n ro mv hm)) ?_
 rintro _ _ ⟨t,c,⟨rfl,rfl⟩⟩
 refine Db (Ls:=[[(l,35,(Ac m mv))]]) (Ls':=[[(l,35,(Ac m mv))]]) [0] rfl rfl<|rn 3 rfl<|rA rfl fun p=>r_s [(p,106, #[vS b.1,t,vI b.2.2.1,vI b.2.2.2.1,vI b.2.2.2.2.1,vI b.2.2.2.2.2.1]),(l,35,(Ac m mv))] 0 _ _ _ _ _ (#[vS b.1,t,vI b.2.2.1,vI b.2.2.2.1,vI b.2.2.2.2.1,vI b.2.2.2.2.2.1]) rfl rfl rfl rfl (.ofS rfl rfl (Ae rfl (Ae (Shp.one (Rd.shp c)) (Ae rfl (Ae rfl (Ae rfl (Ae rfl Bt))))))) rfl rfl<|rz rfl<|Aa fun x q=>Aa fun u i=>Ag<|rn 3 rfl<|AG 3 21 [(2,vI f),(8,vP p 0)] vB (fun b_=>Dy f b b_=some r) (fun s a T=> ?_) (fun e=> ?_)
 ·unfold Dy at a
  refine rn 1 rfl<|AG 6 28 [(2,vI f),(8,vP p 0)] vB (fun b_=>Dx f b b_=some r) (fun v a T=> ?_) (fun e=> ?_)
  ·unfold Dx at a
   refine Ak<|i _ _ ?_
   refine aB a rfl (fun j a=> ?_) (fun j a=> ?_)
   ·refine AZ rfl ?_
    cases a
    exact aR eV2
   refine Ab<|q _ _ ?_
   refine Ad<|rm 3 [0] rfl<|kC a fun d a=>rI (Rd.shp c) d rfl<|rF (Rd.shp c) (Bb d) rfl<|rE (Au c) d 1 rfl<|rz rfl ?_
   cases a
   exact aR eV2
  rcases g:s with _|_
  ·replace a:=iB g a
   refine rn 2 rfl<|r_y rfl<|rm 1 [0] rfl<|r_y rfl<|rL (Rd.shp c) rfl<|rn 2 rfl ?_
   first|exact e _ _ a rfl rfl|exact lx_cn _ _ (e _ _ a rfl rfl)
  replace a:=ifp g a
  refine rn 6 rfl ?_
  first|exact e _ _ a rfl rfl|exact lx_cn _ _ (e _ _ a rfl rfl)
 rcases h:(!(b.2.2.2.2.2.2))with _|_
 ·replace a:=ifp (CN h) a
  refine rn 3 rfl ?_
  first|exact e _ _ a rfl rfl|exact lx_cn _ _ (e _ _ a rfl rfl)
 replace a:=ifn (Bool.eq_false_iff.1 (CM h)) a
 refine rn 3 rfl ?_
 first|exact e _ _ a rfl rfl|exact lx_cn _ _ (e _ _ a rfl rfl)
def DV(m:An)(i:Int)(a:Bool):Option (Int×Bool):=if a=true then ck (R64 (i - 8)) (ck (0≤(i - 8)∧(i - 8)<(m.2.2.2.1.length:Int)) (some (((m.2.2.2.1)[((i - 8)).toNat]!).2,true)))else some (0,false)
def DW(m:An)(i:Int)(a:Bool):Option (Int×Bool):=if a=true then ck (0≤i∧i<(([8,8,8,1,8,1,16,8]).length:Int)) (some (([8,8,8,1,8,1,16,8])[i.toNat]!,true))else if i≥8 then ck (R64 (i - 8)) (DV m i (decide (((i - 8):Int)<(m.2.2.2.1.length:Int))))else DV m i false
def Ev(_:Nat)(m:An)(i:Int):Option (Int×Bool):=if i≥0 then DW m i (decide (i<8))else DW m i false
theorem Ju(N m i r)(a:Ev N m i=some r)(ro)(mv:Ay)(hm:Aa2 ro mv m):Does prog 166 #[vA (Ac m mv),vI i] ro [] (pV (vT #[vI r.1,vB r.2])):=by
 unfold Ev at a
 refine Aj follows func166 rfl 35 rfl _ fz2 (fun p=> ?_)
 refine Ad<|rA rfl fun q=>rz rfl<|Ad<|gB (Ls:=[[(q,35,(Ac m mv))]]) 3 BJ [8,8,8,1,8,1,16,8] (fun v w u=> ?_)
 refine rz rfl<|Aa fun A s=>Aa fun B t=>Ag<|rn 3 rfl<|AG 3 13 [(1,vI i),(2,vP q 0),(6,v)] vB (fun b_=>DW m i b_=some r) (fun C a T=> ?_) (fun c=> ?_)
 ·unfold DW at a
  refine Ak<|t _ _ ?_
  refine aB a rfl (fun g a=> ?_) (fun g a=> ?_)
  ·refine Ad<|rn 2 rfl<|kC a fun d a=>rI (Sl.shp u) d rfl<|rE (Av u (Ai (Ls:=[[(q,35,(Ac m mv))],w]) (k:=1) rfl rfl)) d 0 rfl<|rz rfl ?_
   cases a
   exact aR eV2
  refine Ab<|s _ _ ?_
  refine Aa fun x h=>Aa fun y j=>Ag<|rn 3 rfl<|AG 7 27 [(1,vI i),(2,vP q 0)] vB (fun b_=>DV m i b_=some r) (fun z a T=> ?_) (fun c=> ?_)
  ·unfold DV at a
   refine Ak<|j _ _ ?_
   refine aB a rfl (fun l a=> ?_) (fun l a=> ?_)
   ·refine Ad<|rm 3 [0] rfl<|kC a fun n a=>rX n rfl<|kC a fun b a=>rI (Rd.shp hm.2.2.1) b rfl<|rF (Rd.shp hm.2.2.1) (Bb b) rfl<|rE (Au hm.2.2.1) b 1 rfl<|rz rfl ?_
    cases a
    exact aR eV2
   refine Ab<|h _ _ ?_
   refine AZ rfl ?_
   cases a
   exact aR eV2
  rcases e:(decide (i≥8))with _|_
  ·replace a:=iF e a
   refine rn 7 rfl ?_
   first|exact c _ _ a rfl rfl|exact lx_cn _ _ (c _ _ a rfl rfl)
  replace a:=iD e a
  refine rn 1 rfl<|r_y rfl<|kC a fun o a=>rX o rfl<|rn 1 rfl<|r_y rfl<|rm 1 [0] rfl<|r_y rfl<|rL (Rd.shp hm.2.2.1) rfl<|rn 2 rfl ?_
  first|exact c _ _ a rfl rfl|exact lx_cn _ _ (c _ _ a rfl rfl)
 rcases f:(decide (i≥0))with _|_
 ·replace a:=iF f a
  refine rn 3 rfl ?_
  first|exact c _ _ a rfl rfl|exact lx_cn _ _ (c _ _ a rfl rfl)
 replace a:=iD f a
 refine rn 3 rfl ?_
 first|exact c _ _ a rfl rfl|exact lx_cn _ _ (c _ _ a rfl rfl)
def CD(N:Nat)(m:An)(a:Int)(c:Bool):Option (Int×Int×Bool):=if c=true then some (0,0,false)else ck (0≤a∧a≤(m.2.2.1.length:Int)) ((Cf N (((m.2.2.1).take (a.toNat)).drop 0)).bind fun b=>ck (0≤a∧a<(m.2.2.1.length:Int)) (some ((b.length:Int),((m.2.2.1)[a.toNat]!).2.2,true)))
def CE(N:Nat)(m:An)(a:Int)(b:Bool):Option (Int×Int×Bool):=if b=true then CD N m a true else ck (0≤a∧a<(m.2.2.1.length:Int)) (CD N m a (decide ((((m.2.2.1)[a.toNat]!).2.2:Int)>4)))
def CF(N:Nat)(m:An)(a:Int)(b:Bool):Option (Int×Int×Bool):=if b=true then CE N m a true else ck (0≤a∧a<(m.2.2.1.length:Int)) (CE N m a (decide ((((m.2.2.1)[a.toNat]!).2.2:Int)<1)))
def Cc(N:Nat)(m:An)(a:Int):Option (Int×Int×Bool):=if a<0 then CF N m a true else CF N m a (decide (a≥(m.2.2.1.length:Int)))
theorem Hi(N m inst r)(a:Cc N m inst=some r)(ro)(mv:Ay)(hm:Aa2 ro mv m):Does prog 25 #[vA (Ac m mv),vI inst] ro [] (pV (vT #[vI r.1,vI r.2.1,vB r.2.2])):=by
 unfold Cc at a
 refine Aj follows func25 rfl 46 rfl _ fz2 (fun p=> ?_)
 refine Ad<|rA rfl fun q=>rz rfl<|Aa fun C s=>Aa fun D t=>Ag<|rn 3 rfl<|AG 6 15 [(1,vI inst),(2,vP q 0)] vB (fun b_=>CF N m inst b_=some r) (fun y a T=> ?_) (fun b=> ?_)
 ·unfold CF at a
  refine rn 1 rfl<|AG 8 24 [(1,vI inst),(2,vP q 0)] vB (fun b_=>CE N m inst b_=some r) (fun z a T=> ?_) (fun b=> ?_)
  ·unfold CE at a
   refine rn 1 rfl<|AG 8 33 [(1,vI inst),(2,vP q 0)] vB (fun b_=>CD N m inst b_=some r) (fun E a T=> ?_) (fun b=> ?_)
   ·unfold CD at a
    refine Ak<|t _ _ ?_
    refine aB a rfl (fun u a=> ?_) (fun u a=> ?_)
    ·refine AZ rfl ?_
     cases a
     exact aR eV3
    refine Ab<|s _ _ ?_
    refine Aa fun A k=>Bw [(some 38,false)] (conG prog [(38,fun _ _ v_ L_ U_=> ∀l,Cf N (((m.2.2.1).take (inst.toNat)).drop 0)=some l→(p1 (fun s_=>s_) 74 Rc l) v_ L_ U_)]) [] (by decide+kernel) (fun F=>AH)<|rm 3 [0] rfl<|kC a fun f a=>r_W (Fy mv.2.1 0 (inst.toNat) 3) rfl (ET (HC rfl rfl rfl rfl (Rd.shp hm.2.1) f))<|kB a fun v g a=>Ym (Ls:=[[(q,35,(Ac m mv))]]) (fun n=>n) 74 Rc v 12 _ rfl rfl rfl (cF RX) (fun o w z_=>Gq N (((m.2.2.1).take (inst.toNat)).drop 0) _ g z_.view (Fy mv.2.1 0 (inst.toNat) 3) ((Ol (Au hm.2.1) (Nat.zero_le _) (GD f.2)) o w z_)) (GB g) (fun n B x=> ?_)
    refine rL (Sl.shp x) rfl<|rm 3 [0] rfl<|kC a fun c a=>rI (Rd.shp hm.2.1) c rfl<|rF (Rd.shp hm.2.1) (Bb c) rfl<|rE (Au hm.2.1) c 2 rfl<|rz rfl<|k _ _ ?_
    cases a
    exact aR eV3
   rcases h:z with _|_
   ·replace a:=iB h a
    refine rn 1 rfl<|r_y rfl<|rm 2 [0] rfl<|r_y rfl<|kC a fun d a=>rI (Rd.shp hm.2.1) d rfl<|r_y rfl<|rF (Rd.shp hm.2.1) (Bb d) rfl<|r_y rfl<|rE (Au hm.2.1) d 2 rfl<|rn 2 rfl ?_
    first|exact b _ _ a rfl rfl|exact lx_cn _ _ (b _ _ a rfl rfl)
   replace a:=ifp h a
   refine rn 8 rfl ?_
   first|exact b _ _ a rfl rfl|exact lx_cn _ _ (b _ _ a rfl rfl)
  rcases i:y with _|_
  ·replace a:=iB i a
   refine rn 1 rfl<|r_y rfl<|rm 2 [0] rfl<|r_y rfl<|kC a fun e a=>rI (Rd.shp hm.2.1) e rfl<|r_y rfl<|rF (Rd.shp hm.2.1) (Bb e) rfl<|r_y rfl<|rE (Au hm.2.1) e 2 rfl<|rn 2 rfl ?_
   first|exact b _ _ a rfl rfl|exact lx_cn _ _ (b _ _ a rfl rfl)
  replace a:=ifp i a
  refine rn 8 rfl ?_
  first|exact b _ _ a rfl rfl|exact lx_cn _ _ (b _ _ a rfl rfl)
 rcases j:(decide (inst<0))with _|_
 ·replace a:=iF j a
  refine rn 2 rfl<|r_y rfl<|rm 1 [0] rfl<|r_y rfl<|rL (Rd.shp hm.2.1) rfl<|rn 2 rfl ?_
  first|exact b _ _ a rfl rfl|exact lx_cn _ _ (b _ _ a rfl rfl)
 replace a:=iD j a
 refine rn 6 rfl ?_
 first|exact b _ _ a rfl rfl|exact lx_cn _ _ (b _ _ a rfl rfl)
def Cz(N:Nat)(m:An)(a:Int)(b:Bool):Option Bool:=if b=true then(Cc N m a).bind fun c=>some c.2.2 else some true
def BK(N:Nat)(m:An)(a:Int)(b:Int)(c:List (List UInt8×Int×Int×Int×Int×Int×Int×Int×List UInt8))(e:Bool):Option Bool:=if e=true then(Bc N m b).bind fun d=>some d.2.2.2.2.2.2 else if((c[a.toNat]!).1)=([112,117,115,104,45,104,101,97,100]:List UInt8)then Cz N m b (((c[a.toNat]!).1)==([112,117,115,104,45,104,101,97,100]:List UInt8))else Cz N m b (((c[a.toNat]!).1)==([112,111,112,45,104,101,97,100]:List UInt8))
def CT(N:Nat)(m:An)(a:Int)(c:Int)(b:List (List UInt8×Int×Int×Int×Int×Int×Int×Int×List UInt8))(d:Bool):Option Bool:=if d=true then some (decide (c<(m.2.2.2.2.2.2.2.2.2.2.2.2.1.length:Int)))else if((b[a.toNat]!).1)=([99,111,117,110,116]:List UInt8)then some (decide (c<(m.2.2.2.2.2.2.2.2.2.2.2.2.2.1.length:Int)))else if((b[a.toNat]!).1)=([109,101,116,101,114]:List UInt8)then some (decide (c<(m.2.2.2.2.2.2.2.2.2.2.2.2.2.2.1.length:Int)))else if((b[a.toNat]!).1)=([118,97,108,105,100]:List UInt8)then BK N m a c b (((b[a.toNat]!).1)==([118,97,108,105,100]:List UInt8))else if((b[a.toNat]!).1)=([115,104,111,119]:List UInt8)then BK N m a c b (((b[a.toNat]!).1)==([115,104,111,119]:List UInt8))else if((b[a.toNat]!).1)=([104,105,100,101]:List UInt8)then BK N m a c b (((b[a.toNat]!).1)==([104,105,100,101]:List UInt8))else BK N m a c b (((b[a.toNat]!).1)==([106,117,109,112,45,103,111,110,101]:List UInt8))
def CU(N:Nat)(m:An)(a:Int)(b:Int)(d:Int)(c:List (List UInt8×Int×Int×Int×Int×Int×Int×Int×List UInt8))(f:Bool):Option Bool:=if f=true then(Ev N m b).bind fun e=>some e.2 else if((c[a.toNat]!).1)=([112,97,114,97,109]:List UInt8)then some (decide (b<d))else if((c[a.toNat]!).1)=([114,101,103]:List UInt8)then CT N m a b c (((c[a.toNat]!).1)==([114,101,103]:List UInt8))else CT N m a b c (((c[a.toNat]!).1)==([112,117,116,45,114,101,103]:List UInt8))
def CV(N:Nat)(m:An)(b:Int)(d:Int)(f:Int)(a:Int)(c:List (List UInt8×Int×Int×Int×Int×Int×Int×Int×List UInt8))(g:Bool):Option Bool:=if g=true then(BY N m d f).bind fun e=>some e.2 else if((c[b.toNat]!).1)=([109,101,116,97]:List UInt8)then CU N m b d a c (((c[b.toNat]!).1)==([109,101,116,97]:List UInt8))else CU N m b d a c (((c[b.toNat]!).1)==([112,117,116,45,109,101,116,97]:List UInt8))
def Du(N:Nat)(m:An)(a:Int)(e:Int)(d:Int)(_:Int)(_:BitVec 128)(b:Int):Option Bool:=(Hk N).bind fun c=>ck (0≤a∧a<(c.length:Int)) (if((c[a.toNat]!).1)=([102,105,101,108,100]:List UInt8)then CV N m a e d b c (((c[a.toNat]!).1)==([102,105,101,108,100]:List UInt8))else CV N m a e d b c (((c[a.toNat]!).1)==([112,117,116,45,102,105,101,108,100]:List UInt8)))
theorem MS(N m x_0 x_1 x_2 x_3 x_4 params r)(a:Du N m x_0 x_1 x_2 x_3 x_4 params=some r)(ro)(mv:Ay)(hm:Aa2 ro mv m):Does prog 115 #[vA (Ac m mv),vA #[vI x_0,vI x_1,vI x_2,vI x_3,U (hi x_4),U (lo x_4)],vI params] ro [] (pV (vB r)):=by
 unfold Du at a
 refine Aj follows func115 rfl 91 rfl _ fz3 (fun Q=> ?_)
 refine Ad<|rA rfl fun d=>rA rfl fun e=>rz rfl<|AZ rfl<|Aa fun K5 c=>Aa fun K6 R=>Bw [(some 8,false)] (conG prog [(8,fun _ _ v_ L_ U_=> ∀s,Hk N  =some s→(p1 (fun s_=>s_) 76 Ny s) v_ L_ U_)]) [] (by decide+kernel) (fun hn=>AH)<|kB a fun b u a=>Ym (Ls:=[(KE e x_0 x_1 x_2 x_3 (hi x_4) (lo x_4)),[(d,35,(Ac m mv))]]) (fun S=>S) 76 Ny b 20 _ rfl rfl rfl (cF TS) (fun o w z_=>Qj N  _ u z_.view) (GB u) (fun S g h=> ?_)
 refine rm 2 [0] rfl<|kC a fun f a=>rI (Sl.shp h) f rfl<|rF (Sl.shp h) (Bb f) rfl<|rE (Av h (Ai (Ls:=[(KE e x_0 x_1 x_2 x_3 (hi x_4) (lo x_4)),[(d,35,(Ac m mv))],g]) (k:=2) rfl rfl)) f 0 rfl<|Ak<|R _ _ ?_
 refine Ah<|BR (fun tt ll=> ∃(i:Bool),(CV N m x_0 x_1 x_2 params b i=some r)∧Is [(2,vI params),(3,vP d 0),(4,vP e 0),(7,vB true),(13,vS ((b[x_0.toNat]!).1)),(14,vB i)] [(e,41, #[vI x_0,vI x_1,vI x_2,vI x_3,U (hi x_4),U (lo x_4)]),(d,35,(Ac m mv))] tt ll) ?_ ?_
 ·refine Ad<|r_W (vB (((b[x_0.toNat]!).1)==([102,105,101,108,100]:List UInt8))) rfl (Df rfl rfl)<|rz rfl<|aE a rfl (fun v a=> ?_) (fun v a=> ?_)
  ·refine Ab<|fg _ (Sub.pick [(KE e x_0 x_1 x_2 x_3 (hi x_4) (lo x_4)),[(d,35,(Ac m mv))],g] [0,1] rfl) ?_
   exact⟨((b[x_0.toNat]!).1)==([102,105,101,108,100]:List UInt8),a,Af rfl rfl⟩
  refine Ag<|r_W (vB (((b[x_0.toNat]!).1)==([112,117,116,45,102,105,101,108,100]:List UInt8))) rfl (Df rfl rfl)<|rz rfl<|fg _ (Sub.pick [(KE e x_0 x_1 x_2 x_3 (hi x_4) (lo x_4)),[(d,35,(Ac m mv))],g] [0,1] rfl) ?_
  exact⟨((b[x_0.toNat]!).1)==([112,117,116,45,102,105,101,108,100]:List UInt8),a,Af rfl rfl⟩
 clear a;rintro t l ⟨i,a,⟨T,rfl⟩,rfl⟩
 unfold CV at a
 refine aB a rfl (fun x a=> ?_) (fun x a=> ?_)
 ·refine Ag<|rm 5 [1,0,0] rfl<|kB a fun W y a=>gV _ (cF Zh) (fun o w z_=>Hv N m x_1 x_2 _ y z_.view mv (Aa2.mono z_.ro_cell hm))<|rz rfl<|c _ _ ?_
  refine AZ rfl ?_
  cases a
  exact aR eV1
 refine BR (fun tt ll=> ∃(j:Bool),(CU N m x_0 x_1 params b j=some r)∧Is [(2,vI params),(3,vP d 0),(4,vP e 0),(7,vB true),(13,vS ((b[x_0.toNat]!).1)),(26,vB j)] [(e,41, #[vI x_0,vI x_1,vI x_2,vI x_3,U (hi x_4),U (lo x_4)]),(d,35,(Ac m mv))] tt ll) ?_ ?_
 ·refine Ad<|r_W (vB (((b[x_0.toNat]!).1)==([109,101,116,97]:List UInt8))) rfl (Df rfl rfl)<|rz rfl<|aE a rfl (fun z a=> ?_) (fun z a=> ?_)
  ·refine Ab<|fg _ (Sub.of (suK _ (suK _ suN))) ?_
   exact⟨((b[x_0.toNat]!).1)==([109,101,116,97]:List UInt8),a,Af rfl rfl⟩
  refine Ag<|r_W (vB (((b[x_0.toNat]!).1)==([112,117,116,45,109,101,116,97]:List UInt8))) rfl (Df rfl rfl)<|rz rfl<|fg _ (Sub.of (suK _ (suK _ suN))) ?_
  exact⟨((b[x_0.toNat]!).1)==([112,117,116,45,109,101,116,97]:List UInt8),a,Af rfl rfl⟩
 clear a;rintro t l ⟨j,a,⟨T,rfl⟩,rfl⟩
 unfold CU at a
 refine aB a rfl (fun A a=> ?_) (fun A a=> ?_)
 ·refine Ag<|rm 3 [1,0] rfl<|kB a fun X B a=>gV _ (cF bD) (fun o w z_=>Ju N m x_1 _ B z_.view mv (Aa2.mono z_.ro_cell hm))<|rz rfl<|c _ _ ?_
  refine AZ rfl ?_
  cases a
  exact aR eV1
 refine Ad<|r_W (vB (((b[x_0.toNat]!).1)==([112,97,114,97,109]:List UInt8))) rfl (Df rfl rfl)<|rz rfl<|aE a rfl (fun C a=> ?_) (fun C a=> ?_)
 ·refine Ag<|ry [0] rfl<|c _ _ ?_
  refine AZ rfl ?_
  cases a
  exact aR eV1
 refine BR (fun tt ll=> ∃(n:Bool),(CT N m x_0 x_1 b n=some r)∧Is [(3,vP d 0),(4,vP e 0),(7,vB true),(13,vS ((b[x_0.toNat]!).1)),(42,vB n)] [(e,41, #[vI x_0,vI x_1,vI x_2,vI x_3,U (hi x_4),U (lo x_4)]),(d,35,(Ac m mv))] tt ll) ?_ ?_
 ·refine Ad<|r_W (vB (((b[x_0.toNat]!).1)==([114,101,103]:List UInt8))) rfl (Df rfl rfl)<|rz rfl<|aE a rfl (fun D a=> ?_) (fun D a=> ?_)
  ·refine Ab<|fg _ (Sub.of (suK _ (suK _ suN))) ?_
   exact⟨((b[x_0.toNat]!).1)==([114,101,103]:List UInt8),a,Af rfl rfl⟩
  refine Ag<|r_W (vB (((b[x_0.toNat]!).1)==([112,117,116,45,114,101,103]:List UInt8))) rfl (Df rfl rfl)<|rz rfl<|fg _ (Sub.of (suK _ (suK _ suN))) ?_
  exact⟨((b[x_0.toNat]!).1)==([112,117,116,45,114,101,103]:List UInt8),a,Af rfl rfl⟩
 clear a;rintro t l ⟨n,a,⟨T,rfl⟩,rfl⟩
 unfold CT at a
 refine aB a rfl (fun E a=> ?_) (fun E a=> ?_)
 ·refine Ag<|rm 4 [0,1] rfl<|rL (Rd.shp hm.2.2.2.2.2.2.2.2.2.2.2.1) rfl<|rz rfl<|c _ _ ?_
  refine AZ rfl ?_
  cases a
  exact aR eV1
 refine Ad<|r_W (vB (((b[x_0.toNat]!).1)==([99,111,117,110,116]:List UInt8))) rfl (Df rfl rfl)<|rz rfl<|aE a rfl (fun F a=> ?_) (fun F a=> ?_)
 ·refine Ag<|rm 4 [0,1] rfl<|rL (Rd.shp hm.2.2.2.2.2.2.2.2.2.2.2.2.1) rfl<|rz rfl<|c _ _ ?_
  refine AZ rfl ?_
  cases a
  exact aR eV1
 refine Ad<|r_W (vB (((b[x_0.toNat]!).1)==([109,101,116,101,114]:List UInt8))) rfl (Df rfl rfl)<|rz rfl<|aE a rfl (fun G a=> ?_) (fun G a=> ?_)
 ·refine Ag<|rm 4 [0,1] rfl<|rL (Rd.shp hm.2.2.2.2.2.2.2.2.2.2.2.2.2) rfl<|rz rfl<|c _ _ ?_
  refine AZ rfl ?_
  cases a
  exact aR eV1
 refine BR (fun tt ll=> ∃(p:Bool),(BK N m x_0 x_1 b p=some r)∧Is [(3,vP d 0),(4,vP e 0),(7,vB true),(13,vS ((b[x_0.toNat]!).1)),(67,vB p)] [(e,41, #[vI x_0,vI x_1,vI x_2,vI x_3,U (hi x_4),U (lo x_4)]),(d,35,(Ac m mv))] tt ll) ?_ ?_
 ·refine Ad<|r_W (vB (((b[x_0.toNat]!).1)==([118,97,108,105,100]:List UInt8))) rfl (Df rfl rfl)<|rz rfl<|aE a rfl (fun H a=> ?_) (fun H a=> ?_)
  ·refine Ab<|fg _ (Sub.of (suK _ (suK _ suN))) ?_
   exact⟨((b[x_0.toNat]!).1)==([118,97,108,105,100]:List UInt8),a,Af rfl rfl⟩
  refine Ad<|r_W (vB (((b[x_0.toNat]!).1)==([115,104,111,119]:List UInt8))) rfl (Df rfl rfl)<|rz rfl<|aE a rfl (fun I a=> ?_) (fun I a=> ?_)
  ·refine Ab<|fg _ (Sub.of (suK _ (suK _ suN))) ?_
   exact⟨((b[x_0.toNat]!).1)==([115,104,111,119]:List UInt8),a,Af rfl rfl⟩
  refine Ad<|r_W (vB (((b[x_0.toNat]!).1)==([104,105,100,101]:List UInt8))) rfl (Df rfl rfl)<|rz rfl<|aE a rfl (fun J a=> ?_) (fun J a=> ?_)
  ·refine Ab<|fg _ (Sub.of (suK _ (suK _ suN))) ?_
   exact⟨((b[x_0.toNat]!).1)==([104,105,100,101]:List UInt8),a,Af rfl rfl⟩
  refine Ag<|r_W (vB (((b[x_0.toNat]!).1)==([106,117,109,112,45,103,111,110,101]:List UInt8))) rfl (Df rfl rfl)<|rz rfl<|fg _ (Sub.of (suK _ (suK _ suN))) ?_
  exact⟨((b[x_0.toNat]!).1)==([106,117,109,112,45,103,111,110,101]:List UInt8),a,Af rfl rfl⟩
 clear a;rintro t l ⟨p,a,⟨T,rfl⟩,rfl⟩
 unfold BK at a
 refine aB a rfl (fun K a=> ?_) (fun K a=> ?_)
 ·refine Ag<|rm 3 [1,0] rfl<|kB a fun Y L a=>gM (Ls:=[(KE e x_0 x_1 x_2 x_3 (hi x_4) (lo x_4)),[(d,35,(Ac m mv))]]) (FL:=[]) [] (cF RV) (fun o w hn_ z_=>rom [] rfl z_ (CX N m x_1 _ L ro mv hm)) ?_
  rintro _ _ ⟨Z,V,⟨rfl,rfl⟩⟩
  refine Db (Ls:=[(KE e x_0 x_1 x_2 x_3 (hi x_4) (lo x_4)),[(d,35,(Ac m mv))]]) (Ls':=[(KE e x_0 x_1 x_2 x_3 (hi x_4) (lo x_4)),[(d,35,(Ac m mv))]]) [0,1] rfl rfl<|rz rfl<|c _ _ ?_
  refine AZ rfl ?_
  cases a
  exact aR eV1
 refine BR (fun tt ll=> ∃(q:Bool),(Cz N m x_1 q=some r)∧Is [(3,vP d 0),(4,vP e 0),(7,vB true),(79,vB q)] [(e,41, #[vI x_0,vI x_1,vI x_2,vI x_3,U (hi x_4),U (lo x_4)]),(d,35,(Ac m mv))] tt ll) ?_ ?_
 ·refine Ad<|r_W (vB (((b[x_0.toNat]!).1)==([112,117,115,104,45,104,101,97,100]:List UInt8))) rfl (Df rfl rfl)<|rz rfl<|aE a rfl (fun M a=> ?_) (fun M a=> ?_)
  ·refine Ab<|fg _ (Sub.of (suK _ (suK _ suN))) ?_
   exact⟨((b[x_0.toNat]!).1)==([112,117,115,104,45,104,101,97,100]:List UInt8),a,Af rfl rfl⟩
  refine Ag<|r_W (vB (((b[x_0.toNat]!).1)==([112,111,112,45,104,101,97,100]:List UInt8))) rfl (Df rfl rfl)<|rz rfl<|fg _ (Sub.of (suK _ (suK _ suN))) ?_
  exact⟨((b[x_0.toNat]!).1)==([112,111,112,45,104,101,97,100]:List UInt8),a,Af rfl rfl⟩
 clear a;rintro t l ⟨q,a,⟨T,rfl⟩,rfl⟩
 unfold Cz at a
 refine aB a rfl (fun O a=> ?_) (fun O a=> ?_)
 ·refine Ag<|rm 3 [1,0] rfl<|kB a fun aa P a=>gV _ (cF Zn) (fun o w z_=>Hi N m x_1 _ P z_.view mv (Aa2.mono z_.ro_cell hm))<|rz rfl<|c _ _ ?_
  refine AZ rfl ?_
  cases a
  exact aR eV1
 refine Ab<|c _ _ ?_
 refine AZ rfl ?_
 cases a
 exact aR eV1
def Cm(b:Int)(a:Int→Option Int)(c:Bool):Option Int:=if c=true then some 12 else ck (R64 (b+1)) (a (b+1))
def DX(d:List (Int×Int×Int×Int×BitVec 128))(c:Int)(a:Int→Option Int)(b:Int):Option Int:=if b≥0 then if b≤c then Cm c a true else Cm c a (decide (b>(d.length:Int)))else Cm c a false
def DY(c:List (Int×Int×Int×Int×BitVec 128))(b:Int)(a:Int→Option Int)(e:List (List UInt8×Int×Int×Int×Int×Int×Int×Int×List UInt8))(d:Int):Option Int:=if((e[((c[b.toNat]!).1).toNat]!).2.2.2.2.2.2.2.2)=([71,111,110,101]:List UInt8)then ck (0≤b∧b<(c.length:Int)) (DX c b a ((c[b.toNat]!).2.2.1))else DX c b a d
def AK(N:Nat)(m:An)(b:List (Int×Int×Int×Int×BitVec 128))(c:Int):Nat→Int→Option Int
  |0,_=>none
  |e+1,a=>if a<(b.length:Int)then ck (0≤a∧a<(b.length:Int)) ((Du N m ((b[a.toNat]!).1) ((b[a.toNat]!).2.1) ((b[a.toNat]!).2.2.1) ((b[a.toNat]!).2.2.2.1) ((b[a.toNat]!).2.2.2.2) c).bind fun f=>if f=true then(Hk N).bind fun d=>ck (0≤a∧a<(b.length:Int)) (ck (0≤(b[a.toNat]!).1∧(b[a.toNat]!).1<(d.length:Int)) (if((d[((b[a.toNat]!).1).toNat]!).2.2.2.2.2.2.2.2)=([74,117,109,112]:List UInt8)then ck (0≤a∧a<(b.length:Int)) (DY b a (AK N m b c e) d ((b[a.toNat]!).2.1))else DY b a (AK N m b c e) d (-1)))else some 5)else some 0
def CG(N:Nat)(m:An)(c:List (Int×Int×Int×Int×BitVec 128))(d:Int)(b:Int)(a:Int→Option Int)(f:Bool):Option Int:=if f=true then ck (0≤b∧b<(c.length:Int)) ((Qk N ((c[b.toNat]!).1) ((c[b.toNat]!).2.1) ((c[b.toNat]!).2.2.1) ((c[b.toNat]!).2.2.2.1) ((c[b.toNat]!).2.2.2.2)).bind fun e=>if(e:Int)≠0 then some e else ck (R64 (b+1)) (a (b+1)))else if(c.length:Int)>64 then some 2 else AK N m c d N 0
def Bm(N:Nat)(m:An)(c:List (Int×Int×Int×Int×BitVec 128))(a:Int):Nat→Int→Option Int
  |0,_=>none
  |d+1,b=>if b<(c.length:Int)then CG N m c a b (Bm N m c a d) (decide (b<64))else CG N m c a b (Bm N m c a d) false
def FE(N:Nat)(m:An)(b:List (Int×Int×Int×Int×BitVec 128))(a:Int):Option Int:=Bm N m b a N 0
theorem Jv(N m l' params r)(a:FE N m l' params=some r)(ro)(mv:Ay)(hm:Aa2 ro mv m)(l'v)(hl':Rd Ac9 ro l'v l'):Does prog 75 #[vA (Ac m mv),l'v,vI params] ro [] (pV (vI r)):=by
 unfold FE at a
 refine Aj follows func75 rfl 83 rfl _ fz3 (fun ab=> ?_)
 refine Ad<|rA rfl fun f=>rz rfl<|Aa fun K3 ac=>AZ rfl<|Ah<|AC (fun tt ll nn=> ∃(v:Nat) (c:Int),(Bm N m l' params v c=some r)∧Is [(1,l'v),(2,vI params),(3,vP f 0),(7,vI c)] [(f,35,(Ac m mv))] tt ll∧nn=v+1) (N+1) ?_ ?_
 ·exact⟨N,0,a,Af rfl rfl,rfl⟩
 clear a;rintro t l _ ⟨v,c,a,⟨⟨T,rfl⟩,rfl⟩,rfl⟩
 rcases v with _|v
 ·exact absurd a (by simp [Bm])
 rw [Bm] at a
 refine Aa fun K6 ad=>Aa fun K7 ae=>Ag<|rn 2 rfl<|rL (Rd.shp hl') rfl<|rn 2 rfl<|AG 3 19 [(1,l'v),(2,vI params),(3,vP f 0),(7,vI c)] vB (fun b_=>CG N m l' params c (Bm N m l' params v) b_=some r) (fun b8 a T=> ?_) (fun h=> ?_)
 ·unfold CG at a
  refine Ak<|ae _ _ ?_
  refine aB a rfl (fun af a=> ?_) (fun af a=> ?_)
  ·refine Ab<|ad _ _ ?_
   refine Aa fun ag G=>Ah<|Ad<|rn 2 rfl<|kC a fun x a=>rI (Rd.shp hl') x rfl<|rE (Au hl') x 0 rfl<|kB a fun ah H a=>rc _ (cF jG) (dI N ((l'[c.toNat]!).1) ((l'[c.toNat]!).2.1) ((l'[c.toNat]!).2.2.1) ((l'[c.toNat]!).2.2.2.1) ((l'[c.toNat]!).2.2.2.2) _ H)<|rz rfl<|AZ rfl<|aN a rfl (fun I a=> ?_) (fun I a=> ?_)
   ·refine AZ rfl ?_
    cases a
    exact aR eV1
   refine Ab<|G _ _ ?_
   refine Ag<|rn 1 rfl<|kC a fun J a=>rX J rfl<|rz rfl<|fg _ (Sub.of (suK _ suN)) ?_
   exact⟨v+1,by omega,v,(c+1),a,Af rfl rfl,rfl⟩
  refine AD<|ac _ _ ?_
  refine Aa fun ai K=>Ad<|rn 1 rfl<|rL (Rd.shp hl') rfl<|rz rfl<|aD a rfl (fun L a=> ?_) (fun L a=> ?_)
  ·refine AZ rfl ?_
   cases a
   exact aR eV1
  refine Ab<|K _ _ ?_
  refine Aa fun aj M=>AZ rfl<|Ah<|AC (fun tt ll nn=> ∃(d:Nat) (b:Int),(AK N m l' params d b=some r)∧Is [(1,l'v),(2,vI params),(3,vP f 0),(9,vI b)] [(f,35,(Ac m mv))] tt ll∧nn=d+1) (N+1) ?_ ?_
  ·exact⟨N,0,a,Af rfl rfl,rfl⟩
  clear a;rintro t l _ ⟨d,b,a,⟨⟨T,rfl⟩,rfl⟩,rfl⟩
  rcases d with _|d
  ·exact absurd a (by simp [AK])
  rw [AK] at a
  refine Aa fun ak O=>Ad<|rn 2 rfl<|rL (Rd.shp hl') rfl<|rz rfl<|aD a rfl (fun P a=> ?_) (fun P a=> ?_)
  ·refine Ab<|O _ _ ?_
   refine Aa fun al Q=>Ah<|Aa fun am R=>Aa fun an S=>Bw [(some 45,false)] (conG prog [(45,cV (Du N m ((l'[b.toNat]!).1) ((l'[b.toNat]!).2.1) ((l'[b.toNat]!).2.2.1) ((l'[b.toNat]!).2.2.2.1) ((l'[b.toNat]!).2.2.2.2) params) fun u=>vB u)]) [] (by decide+kernel) (fun hn=>AH)<|rm 3 [0] rfl<|kC a fun y a=>rI (Rd.shp hl') y rfl<|rE (Au hl') y 0 rfl<|rn 1 rfl<|kB a fun ap z a=>rg _ (cF mh) (fun o w z_=>MS N m ((l'[b.toNat]!).1) ((l'[b.toNat]!).2.1) ((l'[b.toNat]!).2.2.1) ((l'[b.toNat]!).2.2.2.1) ((l'[b.toNat]!).2.2.2.2) params _ z z_.view mv (Aa2.mono z_.ro_cell hm)) (GB z)<|rz rfl<|S _ _ ?_
   refine Bv _ rfl (fun i=> ?_) (fun i=> ?_)
   ·replace a:=ifn (Bool.eq_false_iff.1 (CM i)) a
    refine AZ rfl ?_
    cases a
    exact aR eV1
   replace a:=ifp (CN i) a
   refine Ab<|R _ _ ?_
   refine AZ rfl<|Aa fun aq U=>Bw [(some 47,false)] (conG prog [(47,fun _ _ v_ L_ U_=> ∀u,Hk N  =some u→(p1 (fun s_=>s_) 76 Ny u) v_ L_ U_)]) [] (by decide+kernel) (fun hn=>AH)<|kB a fun j A a=>Ym (Ls:=[[(f,35,(Ac m mv))]]) (fun V=>V) 76 Ny j 20 _ rfl rfl rfl (cF TS) (fun o w z_=>Qj N  _ A z_.view) (GB A) (fun V E F=> ?_)
   refine rn 2 rfl<|kC a fun n a=>rI (Rd.shp hl') n rfl<|rF (Rd.shp hl') (Bb n) rfl<|rE (Au hl') n 0 rfl<|kC a fun p a=>rI (Sl.shp F) p rfl<|rF (Sl.shp F) (Bb p) rfl<|rE (Av F (Ai (Ls:=[[(f,35,(Ac m mv))],E]) (k:=1) rfl rfl)) p 8 rfl<|rz rfl<|U _ _ ?_
   refine BR (fun tt ll=> ∃(g:Int),(DY l' b (AK N m l' params d) j g=some r)∧Is [(1,l'v),(2,vI params),(3,vP f 0),(9,vI b),(10,vI g),(11,vS ((j[((l'[b.toNat]!).1).toNat]!).2.2.2.2.2.2.2.2))] [(f,35,(Ac m mv))] tt ll) ?_ ?_
   ·refine Ad<|rn 1 rfl<|r_W (vB (((j[((l'[b.toNat]!).1).toNat]!).2.2.2.2.2.2.2.2)==([74,117,109,112]:List UInt8))) rfl (Df rfl rfl)<|Ak<|aE a rfl (fun W a=> ?_) (fun W a=> ?_)
    ·refine Ag<|rn 2 rfl<|kC a fun q a=>rI (Rd.shp hl') q rfl<|rF (Rd.shp hl') (Bb q) rfl<|rE (Au hl') q 1 rfl<|rz rfl<|fg _ (Sub.pick [[(f,35,(Ac m mv))],E] [0] rfl) ?_
     exact⟨(l'[b.toNat]!).2.1,a,Af rfl rfl⟩
    refine Ab<|fg _ (Sub.pick [[(f,35,(Ac m mv))],E] [0] rfl) ?_
    exact⟨-1,a,Af rfl rfl⟩
   clear a;rintro t l ⟨g,a,⟨T,rfl⟩,rfl⟩
   unfold DY at a
   refine BR (fun tt ll=> ∃(e:Int),(DX l' b (AK N m l' params d) e=some r)∧Is [(1,l'v),(2,vI params),(3,vP f 0),(9,vI b),(10,vI e)] [(f,35,(Ac m mv))] tt ll) ?_ ?_
   ·refine Ad<|rn 1 rfl<|r_W (vB (((j[((l'[b.toNat]!).1).toNat]!).2.2.2.2.2.2.2.2)==([71,111,110,101]:List UInt8))) rfl (Df rfl rfl)<|Ak<|aE a rfl (fun X a=> ?_) (fun X a=> ?_)
    ·refine Ag<|rn 2 rfl<|kC a fun s a=>rI (Rd.shp hl') s rfl<|rF (Rd.shp hl') (Bb s) rfl<|rE (Au hl') s 2 rfl<|rz rfl<|fg _ (Sub.of (suK _ suN)) ?_
     exact⟨(l'[b.toNat]!).2.2.1,a,Af rfl rfl⟩
    refine Ab<|fg _ (Sub.of (suK _ suN)) ?_
    exact⟨g,a,Af rfl rfl⟩
   clear a;rintro t l ⟨e,a,⟨T,rfl⟩,rfl⟩
   unfold DX at a
   refine Aa fun ar Y=>Ag<|rn 3 rfl<|AG 10 82 [(1,l'v),(2,vI params),(3,vP f 0),(9,vI b)] vB (fun b_=>Cm b (AK N m l' params d) b_=some r) (fun au a T=> ?_) (fun h=> ?_)
   ·unfold Cm at a
    refine Ak<|Y _ _ ?_
    refine aB a rfl (fun Z a=> ?_) (fun Z a=> ?_)
    ·refine AZ rfl ?_
     cases a
     exact aR eV1
    refine Ab<|Q _ _ ?_
    refine Ag<|rn 1 rfl<|kC a fun aa a=>rX aa rfl<|rz rfl<|fg _ (Sub.of (suK _ suN)) ?_
    exact⟨d+1,by omega,d,(b+1),a,Af rfl rfl,rfl⟩
   rcases B:(decide (e≥0))with _|_
   ·replace a:=iF B a
    refine rn 4 rfl<|BT rfl rfl<|BT rfl rfl<|BT rfl rfl<|BT rfl rfl<|rn 2 rfl ?_
    first|exact h _ _ a rfl rfl|exact lx_cn _ _ (h _ _ a rfl rfl)
   replace a:=iD B a
   refine rn 4 rfl ?_
   rcases C:(decide (e≤b))with _|_
   ·replace a:=iF C a
    refine rn 2 rfl<|r_y rfl<|rL (Rd.shp hl') rfl<|rn 3 rfl ?_
    first|exact h _ _ a rfl rfl|exact lx_cn _ _ (h _ _ a rfl rfl)
   replace a:=iD C a
   refine rn 6 rfl ?_
   first|exact h _ _ a rfl rfl|exact lx_cn _ _ (h _ _ a rfl rfl)
  refine AD<|M _ _ ?_
  refine AZ rfl ?_
  cases a
  exact aR eV1
 rcases D:(decide (c<(l'.length:Int)))with _|_
 ·replace a:=iF D a
  refine rn 3 rfl ?_
  first|exact h _ _ a rfl rfl|exact lx_cn _ _ (h _ _ a rfl rfl)
 replace a:=iD D a
 refine rn 3 rfl ?_
 first|exact h _ _ a rfl rfl|exact lx_cn _ _ (h _ _ a rfl rfl)
def BX(N:Nat)(m:An)(b:Int)(c:List (Int×BitVec 128)):Nat→Int→Option Int
  |0,_=>none
  |e+1,a=>if a<(c.length:Int)then ck (0≤a∧a<(c.length:Int)) ((Co N ((c[a.toNat]!).1) ((c[a.toNat]!).2)).bind fun d=>if d=true then ck (0≤a∧a<(c.length:Int)) (ck (0≤a∧a<(((m.2.2.2.2.2.1)[b.toNat]!.2.1).length:Int)) (if((c[a.toNat]!).1:Int)≠((m.2.2.2.2.2.1)[b.toNat]!.2.1)[a.toNat]! then some 9 else ck (R64 (a+1)) ((BX N m b c e) (a+1))))else some 9)else some 0
def Eu(N:Nat)(m:An)(a:Int)(b:List (Int×BitVec 128)):Option Int:=ck (0≤a∧a<(m.2.2.2.2.2.1.length:Int)) (if(b.length:Int)≠(((m.2.2.2.2.2.1)[a.toNat]!.2.1).length:Int)then some 2 else BX N m a b N 0)
theorem Js(N m action l' r)(a:Eu N m action l'=some r)(ro)(mv:Ay)(hm:Aa2 ro mv m)(l'v)(hl':Rd Ac8 ro l'v l'):Does prog 109 #[vA (Ac m mv),vI action,l'v] ro [] (pV (vI r)):=by
 unfold Eu at a
 refine Aj follows func109 rfl 44 rfl _ fz3 (fun z=> ?_)
 refine Ad<|rA rfl fun K=>rz rfl<|Ad<|rm 3 [0] rfl<|kC a fun i a=> ?_
 obtain⟨_,⟨A,C,j,D,rfl⟩,hat9⟩:=RdN.at (E:=Ad6) hm.2.2.2.2.1 (De i)
 refine rI (RdN.shp hm.2.2.2.2.1) i rfl<|rF (RdN.shp hm.2.2.2.2.1) (Bb i) rfl<|MG A (vs:=[vS ((m.2.2.2.2.2.1)[action.toNat]!.1),A,C]) (action.toNat*3) 1 rfl rfl (fun o w z_=>At.mono z_.ro_cell hat9) rfl<|rz rfl<|Aa fun F k=>Ad<|rn 1 rfl<|rL (Rd.shp hl') rfl<|rn 1 rfl<|rL (Rd.shp j) rfl ?_
 refine rz rfl<|aN a rfl (fun n a=> ?_) (fun n a=> ?_)
 ·refine AZ rfl ?_
  cases a
  exact aR eV1
 refine Ab<|k _ _ ?_
 refine Aa fun G p=>AZ rfl<|Ah<|Bo [] (Sub.of (suC _ suN))<|AC (fun tt ll nn=> ∃(b:Nat) (d:Int),(BX N m action l' b d=some r)∧Is [(2,l'v),(7,A),(8,vI d)] [] tt ll∧nn=b+1) (N+1) ?_ ?_
 ·exact⟨N,0,a,Af rfl rfl,rfl⟩
 clear a;rintro t l _ ⟨b,d,a,⟨⟨T,rfl⟩,rfl⟩,rfl⟩
 rcases b with _|b
 ·exact absurd a (by simp [BX])
 rw [BX] at a
 refine Aa fun H q=>Ad<|rn 2 rfl<|rL (Rd.shp hl') rfl<|rz rfl<|aD a rfl (fun s a=> ?_) (fun s a=> ?_)
 ·refine Ab<|q _ _ ?_
  refine Aa fun I u=>Ah<|Aa fun J f=>Hb [] (by decide+kernel) (fun L=>AH)<|rn 2 rfl<|kC a fun g a=>rI (Rd.shp hl') g rfl<|rE (Au hl') g 0 rfl<|kB a fun B v a=>rc _ (cF Qr) (Gi N ((l'[d.toNat]!).1) ((l'[d.toNat]!).2) _ v)<|rn 2 rfl ?_
  rcases c:(!(B))with _|_
  ·replace a:=ifp (CN c) a
   refine rn 2 rfl<|r_y rfl<|kC a fun e a=>rI (Rd.shp hl') e rfl<|r_y rfl<|rF (Rd.shp hl') (Bb e) rfl<|r_y rfl<|rE (Au hl') e 0 rfl<|rn 2 rfl<|r_y rfl<|kC a fun h a=>rI (Rd.shp j) h rfl<|r_y rfl<|rE (Au j) h 0 rfl<|rz rfl<|f _ _ ?_
   refine aN a rfl (fun x a=> ?_) (fun x a=> ?_)
   ·refine AZ rfl ?_
    cases a
    exact aR eV1
   refine Ab<|u _ _ ?_
   refine Ag<|rn 1 rfl<|kC a fun y a=>rX y rfl<|rz rfl<|fg _ (Sub.of suN) ?_
   exact⟨b+1,by omega,b,(d+1),a,Af (by first|rfl|(simp only [c];done)|(simp only [c];rfl)|(simp only [Bn];rfl)) rfl,rfl⟩
  replace a:=ifn (Bool.eq_false_iff.1 (CM c)) a
  refine rz rfl<|f _ _ ?_
  refine Lq rfl ?_
  refine AZ rfl ?_
  cases a
  exact aR eV1
 refine AD<|p _ _ ?_
 refine AZ rfl ?_
 cases a
 exact aR eV1
def EX(a:Bool):Option Int:=if a=true then some 12 else some 0
def DQ(a:Int)(i:Int)(n:Int):Option Int:=if a≤i then EX true else EX (decide (a>n))
def DP(a:Int)(i:Int)(n:Int)(b:Bool):Option Int:=if b=true then some 12 else DQ a i n 
def DR(N:Nat)(m:An)(e:Int)(f:Int)(c:List (Int×BitVec 128))(b:Int)(a:Int)(i:Int)(n:Int):Option Int:=if e=2 then(Eu N m f c).bind fun d=>if(d:Int)≠0 then some d else if(a:Int)≠0 then some 4 else DQ b i n  else if(c.length:Int)>0 then some 4 else if a≤i then DP b i n true else DP b i n (decide (a>n))
def CA(N:Nat)(m:An)(a:Int)(g:Int)(c:List (Int×Int×Int×Int×BitVec 128))(b:List (Int×BitVec 128))(f:Int)(e:Int)(i:Int)(n:Int)(h:Bool):Option Int:=if h=true then some 5 else if a=1 then(FE N m c 0).bind fun d=>if(d:Int)≠0 then some d else DR N m a g b f e i n  else if(c.length:Int)>0 then some 4 else DR N m a g b f e i n 
def CB(N:Nat)(m:An)(a:Int)(e:Int)(c:List (Int×Int×Int×Int×BitVec 128))(b:List (Int×BitVec 128))(f:Int)(d:Int)(i:Int)(n:Int)(g:(List UInt8)×(List (List UInt8×Int))×Int×Int×Int×Int×Bool)(h:Bool):Option Int:=if h=true then CA N m a e c b f d i n true else if a=3 then CA N m a e c b f d i n (!(g.2.2.2.2.2.2))else CA N m a e c b f d i n false
def BW(N:Nat)(m:An)(a:Int)(b:Int)(e:List (Int×Int×Int×Int×BitVec 128))(d:List (Int×BitVec 128))(g:Int)(f:Int)(i:Int)(n:Int)(c:(List UInt8)×(List (List UInt8×Int))×Int×Int×Int×Int×Bool)(h:Bool):Option Int:=if h=true then CB N m a b e d g f i n c true else if a=1 then CB N m a b e d g f i n c (b !=0)else CB N m a b e d g f i n c false
def CC(N:Nat)(m:An)(b:Int)(a:Int)(e:List (Int×Int×Int×Int×BitVec 128))(d:List (Int×BitVec 128))(g:Int)(f:Int)(i:Int)(n:Int)(c:(List UInt8)×(List (List UInt8×Int))×Int×Int×Int×Int×Bool)(h:Bool):Option Int:=if h=true then BW N m b a e d g f i n c true else if b=2 then if a<0 then BW N m b a e d g f i n c true else BW N m b a e d g f i n c (decide (a≥(m.2.2.2.2.2.1.length:Int)))else BW N m b a e d g f i n c false
def DS(N:Nat)(m:An)(b:Int)(a:Int)(e:List (Int×Int×Int×Int×BitVec 128))(d:List (Int×BitVec 128))(g:Int)(f:Int)(i:Int)(n:Int)(h:Bool):Option Int:=if h=true then some 10 else(Bc N m a).bind fun c=>if b=0 then if a<0 then CC N m b a e d g f i n c true else CC N m b a e d g f i n c (decide (a≥(m.2.2.2.2.2.2.1.length:Int)))else CC N m b a e d g f i n c false
def Eo(N:Nat)(m:An)(a:Int)(e:Int)(c:List (Int×Int×Int×Int×BitVec 128))(b:List (Int×BitVec 128))(f:Int)(d:Int)(i:Int)(n:Int):Option Int:=if a<0 then DS N m a e c b f d i n true else DS N m a e c b f d i n (decide (a>3))
theorem Of(N m x_0 x_1 x_2 x_3 x_4 x_5 i n r)(a:Eo N m x_0 x_1 x_2 x_3 x_4 x_5 i n=some r)(ro)(mv:Ay)(hm:Aa2 ro mv m)(x_2v)(hx_2:Rd Ac9 ro x_2v x_2)(x_3v)(hx_3:Rd Ac8 ro x_3v x_3):Does prog 71 #[vA (Ac m mv),vA #[vI x_0,vI x_1,x_2v,x_3v,vI x_4,vI x_5],vI i,vI n] ro [] (pV (vI r)):=by
 unfold Eo at a
 refine Aj follows func71 rfl 134 rfl _ fz4 (fun X=> ?_)
 refine Ad<|rA rfl fun e=>rA rfl fun d=>rz rfl<|Aa fun K4 Y=>Aa fun K5 Z=>Ag<|rm 4 [0] rfl<|AG 4 20 [(2,vI i),(3,vI n),(4,vP e 0),(5,vP d 0)] vB (fun b_=>DS N m x_0 x_1 x_2 x_3 x_4 x_5 i n b_=some r) (fun b6 a T=> ?_) (fun b=> ?_)
 ·unfold DS at a
  refine Ak<|Z _ _ ?_
  refine aB a rfl (fun aa a=> ?_) (fun aa a=> ?_)
  ·refine AZ rfl ?_
   cases a
   exact aR eV1
  refine Ab<|Y _ _ ?_
  refine Ad<|rm 3 [1,0] rfl<|kB a fun c z a=>gM (Ls:=[(RE d x_0 x_1 x_2v x_3v x_4 x_5),[(e,35,(Ac m mv))]]) (FL:=[]) [] (cF RV) (fun o w hn_ z_=>rom [] rfl z_ (CX N m x_1 _ z ro mv hm)) ?_
  rintro _ _ ⟨A,B,⟨rfl,rfl⟩⟩
  refine Db (Ls:=[(RE d x_0 x_1 x_2v x_3v x_4 x_5),[(e,35,(Ac m mv))]]) (Ls':=[(RE d x_0 x_1 x_2v x_3v x_4 x_5),[(e,35,(Ac m mv))]]) [0,1] rfl rfl<|rn 3 rfl<|rA rfl fun ab=>r_s [(ab,106, #[vS c.1,A,vI c.2.2.1,vI c.2.2.2.1,vI c.2.2.2.2.1,vI c.2.2.2.2.2.1]),(d,182, #[vI x_0,vI x_1,x_2v,x_3v,vI x_4,vI x_5]),(e,35,(Ac m mv))] 0 _ _ _ _ _ (#[vS c.1,A,vI c.2.2.1,vI c.2.2.2.1,vI c.2.2.2.2.1,vI c.2.2.2.2.2.1]) rfl rfl rfl rfl (.ofS rfl rfl (Ae rfl (Ae (Shp.one (Rd.shp B)) (Ae rfl (Ae rfl (Ae rfl (Ae rfl Bt))))))) rfl rfl<|rz rfl<|Aa fun af C=>Aa fun ag D=>Ag<|rm 4 [1] rfl ?_
  refine AG 12 43 [(2,vI i),(3,vI n),(4,vP e 0),(5,vP d 0),(10,vB c.2.2.2.2.2.2)] vB (fun b_=>CC N m x_0 x_1 x_2 x_3 x_4 x_5 i n c b_=some r) (fun ac a T=> ?_) (fun b=> ?_)
  ·unfold CC at a
   refine rn 1 rfl<|AG 17 61 [(2,vI i),(3,vI n),(4,vP e 0),(5,vP d 0),(10,vB c.2.2.2.2.2.2)] vB (fun b_=>BW N m x_0 x_1 x_2 x_3 x_4 x_5 i n c b_=some r) (fun ad a T=> ?_) (fun b=> ?_)
   ·unfold BW at a
    refine rn 1 rfl<|AG 9 71 [(2,vI i),(3,vI n),(4,vP e 0),(5,vP d 0),(10,vB c.2.2.2.2.2.2)] vB (fun b_=>CB N m x_0 x_1 x_2 x_3 x_4 x_5 i n c b_=some r) (fun ae a T=> ?_) (fun b=> ?_)
    ·unfold CB at a
     refine rn 1 rfl<|AG 8 80 [(2,vI i),(3,vI n),(4,vP e 0),(5,vP d 0)] vB (fun b_=>CA N m x_0 x_1 x_2 x_3 x_4 x_5 i n b_=some r) (fun ah a T=> ?_) (fun b=> ?_)
     ·unfold CA at a
      refine Ak<|D _ _ ?_
      refine aB a rfl (fun E a=> ?_) (fun E a=> ?_)
      ·refine AZ rfl ?_
       cases a
       exact aR eV1
      refine Ab<|C _ _ ?_
      refine BR (fun tt ll=>(DR N m x_0 x_1 x_3 x_4 x_5 i n  =some r)∧Is [(2,vI i),(3,vI n),(4,vP e 0),(5,vP d 0)] [(d,182, #[vI x_0,vI x_1,x_2v,x_3v,vI x_4,vI x_5]),(e,35,(Ac m mv))] tt ll) ?_ ?_
      ·refine AY [1] rfl<|aE a rfl (fun F a=> ?_) (fun F a=> ?_)
       ·refine Ad<|rm 3 [2,1] rfl<|kB a fun ai G a=>gV _ (cF eA) (fun o w z_=>Jv N m x_2 0 _ G z_.view mv (Aa2.mono z_.ro_cell hm) x_2v (z_.r hx_2))<|rz rfl<|AZ rfl<|aN a rfl (fun H a=> ?_) (fun H a=> ?_)
        ·refine AZ rfl ?_
         cases a
         exact aR eV1
        refine Ab<|fg _ (Sub.of (suC _ (suK _ (suK _ suN)))) ?_
        exact⟨a,Af rfl rfl⟩
       refine Ad<|rm 2 [1] rfl<|rL (Rd.shp hx_2) rfl<|rz rfl<|aD a rfl (fun I a=> ?_) (fun I a=> ?_)
       ·refine AZ rfl ?_
        cases a
        exact aR eV1
       refine Ab<|fg _ (Sub.of (suC _ (suK _ (suK _ suN)))) ?_
       exact⟨a,Af rfl rfl⟩
      clear a;rintro t l ⟨a,⟨T,rfl⟩,rfl⟩
      unfold DR at a
      refine BR (fun tt ll=>(DQ x_4 i n  =some r)∧Is [(2,vI i),(3,vI n),(5,vP d 0)] (RE d x_0 x_1 x_2v x_3v x_4 x_5) tt ll) ?_ ?_
      ·refine AY [0] rfl<|aE a rfl (fun J a=> ?_) (fun J a=> ?_)
       ·refine Ad<|rm 5 [1,0,0] rfl<|kB a fun aj K a=>gV _ (cF bM) (fun o w z_=>Js N m x_1 x_3 _ K z_.view mv (Aa2.mono z_.ro_cell hm) x_3v (z_.r hx_3))<|rz rfl<|Aa fun ak L=>AZ rfl<|aN a rfl (fun M a=> ?_) (fun M a=> ?_)
        ·refine AZ rfl ?_
         cases a
         exact aR eV1
        refine Ab<|L _ _ ?_
        refine AY [0] rfl<|aN a rfl (fun O a=> ?_) (fun O a=> ?_)
        ·refine AZ rfl ?_
         cases a
         exact aR eV1
        refine Ab<|fg _ (Sub.of (suK _ (suC _ suN))) ?_
        exact⟨a,Af rfl rfl⟩
       refine Aa fun al P=>Ad<|rm 2 [0] rfl<|rL (Rd.shp hx_3) rfl<|rz rfl<|aD a rfl (fun Q a=> ?_) (fun Q a=> ?_)
       ·refine AZ rfl ?_
        cases a
        exact aR eV1
       refine Ab<|P _ _ ?_
       refine Aa fun am R=>Ag<|rm 5 [0] rfl<|AG 5 123 [(2,vI i),(3,vI n),(5,vP d 0)] vB (fun b_=>DP x_4 i n b_=some r) (fun an a T=> ?_) (fun b=> ?_)
       ·unfold DP at a
        refine Ak<|R _ _ ?_
        refine aB a rfl (fun S a=> ?_) (fun S a=> ?_)
        ·refine AZ rfl ?_
         cases a
         exact aR eV1
        refine Ab<|fg _ (Sub.of (suK _ (suC _ suN))) ?_
        exact⟨a,Af rfl rfl⟩
       rcases f:(decide (x_5≤i))with _|_
       ·replace a:=iF f a
        refine rn 1 rfl<|r_y rfl<|rm 4 [0] rfl ?_
        first|exact b _ _ a rfl rfl|exact lx_cn _ _ (b _ _ a rfl rfl)
       replace a:=iD f a
       refine rn 5 rfl ?_
       first|exact b _ _ a rfl rfl|exact lx_cn _ _ (b _ _ a rfl rfl)
      clear a;rintro t l ⟨a,⟨T,rfl⟩,rfl⟩
      unfold DQ at a
      refine Aa fun ao U=>Aa fun ap V=>Ag<|rm 5 [0] rfl<|AG 5 133 [] vB (fun b_=>EX b_=some r) (fun aq a T=> ?_) (fun b=> ?_)
      ·unfold EX at a
       refine Ak<|V _ _ ?_
       refine aB a rfl (fun W a=> ?_) (fun W a=> ?_)
       ·refine AZ rfl ?_
        cases a
        exact aR eV1
       refine Ab<|U _ _ ?_
       refine AZ rfl ?_
       cases a
       exact aR eV1
      rcases g:(decide (x_4≤i))with _|_
      ·replace a:=iF g a
       refine rn 1 rfl<|r_y rfl<|rm 4 [0] rfl ?_
       first|exact b _ _ a rfl rfl|exact lx_cn _ _ (b _ _ a rfl rfl)
      replace a:=iD g a
      refine rn 5 rfl ?_
      first|exact b _ _ a rfl rfl|exact lx_cn _ _ (b _ _ a rfl rfl)
     rcases h:ae with _|_
     ·replace a:=iB h a
      refine rn 1 rfl<|r_y rfl<|rm 3 [1] rfl ?_
      rcases j:(x_0==3)with _|_
      ·replace a:=iG j a
       refine rn 4 rfl ?_
       first|exact b _ _ a rfl rfl|exact lx_cn _ _ (b _ _ a rfl rfl)
      replace a:=iE j a
      refine rn 4 rfl ?_
      first|exact b _ _ a rfl rfl|exact lx_cn _ _ (b _ _ a rfl rfl)
     replace a:=ifp h a
     refine rn 4 rfl<|BT rfl rfl<|BT rfl rfl<|rn 2 rfl ?_
     first|exact b _ _ a rfl rfl|exact lx_cn _ _ (b _ _ a rfl rfl)
    rcases k:ad with _|_
    ·replace a:=iB k a
     refine rn 1 rfl<|r_y rfl<|rm 3 [1] rfl ?_
     rcases p:(x_0==1)with _|_
     ·replace a:=iG p a
      refine rn 5 rfl ?_
      first|exact b _ _ a rfl rfl|exact lx_cn _ _ (b _ _ a rfl rfl)
     replace a:=iE p a
     refine rn 1 rfl<|r_y rfl<|rm 4 [1] rfl ?_
     first|exact b _ _ a rfl rfl|exact lx_cn _ _ (b _ _ a rfl rfl)
    replace a:=ifp k a
    refine rn 4 rfl<|BT rfl rfl<|BT rfl rfl<|BT rfl rfl<|rn 2 rfl ?_
    first|exact b _ _ a rfl rfl|exact lx_cn _ _ (b _ _ a rfl rfl)
   rcases q:ac with _|_
   ·replace a:=iB q a
    refine rn 1 rfl<|r_y rfl<|rm 3 [1] rfl ?_
    rcases s:(x_0==2)with _|_
    ·replace a:=iG s a
     refine rn 4 rfl<|BT rfl rfl<|BT rfl rfl<|BT rfl rfl<|BT rfl rfl<|BT rfl rfl<|BT rfl rfl<|rn 3 rfl ?_
     first|exact b _ _ a rfl rfl|exact lx_cn _ _ (b _ _ a rfl rfl)
    replace a:=iE s a
    refine rn 1 rfl<|r_y rfl<|rm 3 [1] rfl ?_
    rcases u:(decide (x_1<0))with _|_
    ·replace a:=iF u a
     refine rn 1 rfl<|r_y rfl<|rm 2 [1] rfl<|r_y rfl<|rm 1 [2] rfl<|r_y rfl<|rL (RdN.shp hm.2.2.2.2.1) rfl<|rn 4 rfl ?_
     first|exact b _ _ a rfl rfl|exact lx_cn _ _ (b _ _ a rfl rfl)
    replace a:=iD u a
    refine rn 9 rfl ?_
    first|exact b _ _ a rfl rfl|exact lx_cn _ _ (b _ _ a rfl rfl)
   replace a:=ifp q a
   refine rn 4 rfl<|BT rfl rfl<|BT rfl rfl<|BT rfl rfl<|BT rfl rfl<|BT rfl rfl<|BT rfl rfl<|BT rfl rfl<|BT rfl rfl<|BT rfl rfl<|BT rfl rfl<|BT rfl rfl<|rn 2 rfl ?_
   first|exact b _ _ a rfl rfl|exact lx_cn _ _ (b _ _ a rfl rfl)
  rcases v:(x_0==0)with _|_
  ·replace a:=iG v a
   refine rn 4 rfl<|BT rfl rfl<|BT rfl rfl<|BT rfl rfl<|BT rfl rfl<|BT rfl rfl<|BT rfl rfl<|rn 2 rfl ?_
   first|exact b _ _ a rfl rfl|exact lx_cn _ _ (b _ _ a rfl rfl)
  replace a:=iE v a
  refine rn 1 rfl<|r_y rfl<|rm 3 [1] rfl ?_
  rcases x:(decide (x_1<0))with _|_
  ·replace a:=iF x a
   refine rn 1 rfl<|r_y rfl<|rm 2 [1] rfl<|r_y rfl<|rm 1 [2] rfl<|r_y rfl<|rL (RdN.shp hm.2.2.2.2.2.1) rfl<|rn 3 rfl ?_
   first|exact b _ _ a rfl rfl|exact lx_cn _ _ (b _ _ a rfl rfl)
  replace a:=iD x a
  refine rn 8 rfl ?_
  first|exact b _ _ a rfl rfl|exact lx_cn _ _ (b _ _ a rfl rfl)
 rcases y:(decide (x_0<0))with _|_
 ·replace a:=iF y a
  refine rn 1 rfl<|r_y rfl<|rm 3 [0] rfl ?_
  first|exact b _ _ a rfl rfl|exact lx_cn _ _ (b _ _ a rfl rfl)
 replace a:=iD y a
 refine rn 4 rfl ?_
 first|exact b _ _ a rfl rfl|exact lx_cn _ _ (b _ _ a rfl rfl)
def BO(N:Nat)(m:An)(b:List (Int×Int×(List (Int×Int×Int×Int×BitVec 128))×(List (Int×BitVec 128))×Int×Int)):Nat→Int→Option (Int×Int)
  |0,_=>none
  |d+1,a=>if a<(b.length:Int)then ck (0≤a∧a<(b.length:Int)) ((Eo N m (b[a.toNat]!.1) (b[a.toNat]!.2.1) (b[a.toNat]!.2.2.1) (b[a.toNat]!.2.2.2.1) (b[a.toNat]!.2.2.2.2.1) (b[a.toNat]!.2.2.2.2.2) a (b.length:Int)).bind fun c=>if(c:Int)≠0 then some (a,c)else ck (R64 (a+1)) ((BO N m b d) (a+1)))else some (0,0)
def DO(N:Nat)(m:An)(a:List (Int×Int×(List (Int×Int×Int×Int×BitVec 128))×(List (Int×BitVec 128))×Int×Int)):Option (Int×Int):=if(a.length:Int)>32 then some (0,2)else BO N m a N 0
theorem Jl(N m l' r)(b:DO N m l'=some r)(ro)(mv:Ay)(hm:Aa2 ro mv m)(l'v)(hl':RdN Ad2 ro l'v l'):Does prog 45 #[vA (Ac m mv),l'v] ro [] (pV (vT #[vI r.1,vI r.2])):=by
 unfold DO at b
 refine Aj follows func45 rfl 30 rfl _ fz2 (fun u=> ?_)
 refine Ad<|rA rfl fun A=>rz rfl<|Aa fun G v=>Ad<|rn 1 rfl<|rL (RdN.shp hl') rfl<|rz rfl<|aD b rfl (fun x b=> ?_) (fun x b=> ?_)
 ·refine AZ rfl ?_
  cases b
  exact aR eV2
 refine Ab<|v _ _ ?_
 refine Aa fun H y=>AZ rfl<|Ah<|AC (fun tt ll nn=> ∃(e:Nat) (a:Int),(BO N m l' e a=some r)∧Is [(1,l'v),(2,vP A 0),(6,vI a)] [(A,35,(Ac m mv))] tt ll∧nn=e+1) (N+1) ?_ ?_
 ·exact⟨N,0,b,Af rfl rfl,rfl⟩
 clear b;rintro t l _ ⟨e,a,b,⟨⟨T,rfl⟩,rfl⟩,rfl⟩
 rcases e with _|e
 ·exact absurd b (by simp [BO])
 rw [BO] at b
 refine Aa fun B h=>Ad<|rn 2 rfl<|rL (RdN.shp hl') rfl<|rz rfl<|aD b rfl (fun i b=> ?_) (fun i b=> ?_)
 ·refine Ab<|h _ _ ?_
  refine Aa fun C j=>Ah<|Aa fun D k=>Bw [(some 25,false)] (conG prog [(25,cV (Eo N m (l'[a.toNat]!.1) (l'[a.toNat]!.2.1) (l'[a.toNat]!.2.2.1) (l'[a.toNat]!.2.2.2.1) (l'[a.toNat]!.2.2.2.2.1) (l'[a.toNat]!.2.2.2.2.2) a (l'.length:Int)) fun z=>vI z)]) [] (by decide+kernel) (fun I=>AH)<|rm 3 [0] rfl<|kC b fun c b=> ?_
  obtain⟨_,⟨f,g,n,p,rfl⟩,hat20⟩:=RdN.at (E:=Ad2) hl' (De c)
  refine rI (RdN.shp hl') c rfl<|MG (vA #[vI (l'[a.toNat]!.1),vI (l'[a.toNat]!.2.1),f,g,vI (l'[a.toNat]!.2.2.2.2.1),vI (l'[a.toNat]!.2.2.2.2.2)]) (vs:=[vI (l'[a.toNat]!.1),vI (l'[a.toNat]!.2.1),f,g,vI (l'[a.toNat]!.2.2.2.2.1),vI (l'[a.toNat]!.2.2.2.2.2)]) (a.toNat*6) 0 rfl rfl (fun o w z_=>At.mono z_.ro_cell hat20) rfl<|rn 2 rfl<|rL (RdN.shp hl') rfl<|kB b fun F d b=>rg _ (cF oW) (fun o w z_=>Of N m (l'[a.toNat]!.1) (l'[a.toNat]!.2.1) (l'[a.toNat]!.2.2.1) (l'[a.toNat]!.2.2.2.1) (l'[a.toNat]!.2.2.2.2.1) (l'[a.toNat]!.2.2.2.2.2) a (l'.length:Int) _ d z_.view mv (Aa2.mono z_.ro_cell hm) f (z_.r n) g (z_.r p)) (GB d)<|rz rfl<|k _ _ ?_
  refine AZ rfl<|aN b rfl (fun q b=> ?_) (fun q b=> ?_)
  ·refine AZ rfl ?_
   cases b
   exact aR eV2
  refine Ab<|j _ _ ?_
  refine Ag<|rn 1 rfl<|kC b fun s b=>rX s rfl<|rz rfl<|fg _ (Sub.of (suK _ suN)) ?_
  exact⟨e+1,by omega,e,(a+1),b,Af rfl rfl,rfl⟩
 refine AD<|y _ _ ?_
 refine AZ rfl ?_
 cases b
 exact aR eV2
def BZ(b:List (List UInt8×Int)):Nat→Int→Int→Option Int
  |0,_,_=>none
  |d+1,c,a=>if a<(b.length:Int)then ck (0≤a∧a<(b.length:Int)) (ck ((R64 (c+(b[a.toNat]!).2))) (ck (R64 (a+1)) ((BZ b d) (c+(b[a.toNat]!).2) (a+1))))else some c
def FG(N:Nat)(_:List UInt8)(a:List (List UInt8×Int))(_:Int)(_:Int)(_:Int)(_:Int):Option Int:=BZ a N 0 0
theorem Og(N h_0 h_1 h_2 h_3 h_4 h_5 r)(a:FG N h_0 h_1 h_2 h_3 h_4 h_5=some r)(ro h_1v)(hh_1:Rd Ab4 ro h_1v h_1):Does prog 73 #[vA #[vS h_0,h_1v,vI h_2,vI h_3,vI h_4,vI h_5]] ro [] (pV (vI r)):=by
 unfold FG at a
 refine Aj follows func73 rfl 21 rfl _ fz1 (fun i=> ?_)
 refine Ad<|rA rfl fun n=>rz rfl<|AZ rfl<|Aa fun p j=>AZ rfl<|Ah<|AC (fun tt ll nn=> ∃(e:Nat) (d:Int) (b:Int),(BZ h_1 e d b=some r)∧Is [(1,vP n 0),(3,vI d),(4,vI b)] (iK n h_0 h_1v h_2 h_3 h_4 h_5) tt ll∧nn=e+1) (N+1) ?_ ?_
 ·exact⟨N,0,0,a,Af rfl rfl,rfl⟩
 clear a;rintro t l _ ⟨e,d,b,a,⟨⟨T,rfl⟩,rfl⟩,rfl⟩
 rcases e with _|e
 ·exact absurd a (by simp [BZ])
 rw [BZ] at a
 refine Aa fun q k=>Ad<|rm 3 [0] rfl<|rL (Rd.shp hh_1) rfl<|rz rfl<|aD a rfl (fun m a=> ?_) (fun m a=> ?_)
 ·refine Ab<|k _ _ ?_
  refine Aa fun o f=>Ah<|Ag<|rm 4 [0] rfl<|kC a fun c a=>rI (Rd.shp hh_1) c rfl<|rF (Rd.shp hh_1) (Bb c) rfl<|rE (Au hh_1) c 1 rfl<|kC a fun g a=>rX g rfl<|rz rfl<|f _ _ ?_
  refine Ag<|rn 1 rfl<|kC a fun h a=>rX h rfl<|rz rfl<|fg _ (Sub.of (suK _ suN)) ?_
  exact⟨e+1,by omega,e,(d+(h_1[b.toNat]!).2),(b+1),a,Af rfl rfl,rfl⟩
 refine AD<|j _ _ ?_
 refine AZ rfl ?_
 cases a
 exact aR eV1
def BU(N:Nat)(m:An)(b:List (Int×Int)):Nat→Int→Option (Int×Int)
  |0,_=>none
  |f+1,a=>if a<(b.length:Int)then ck (0≤a∧a<(b.length:Int)) (ck (0≤a∧a<(b.length:Int)) ((BY N m ((b[a.toNat]!).1) ((b[a.toNat]!).2)).bind fun e=>if e.2=true then ck (0≤a∧a<(b.length:Int)) ((Bc N m ((b[a.toNat]!).1)).bind fun d=>if(e.1:Int)≠16 then some (a,9)else ck (0≤a∧a<(b.length:Int)) (ck (0≤(b[a.toNat]!).2∧(b[a.toNat]!).2≤(d.2.1.length:Int)) ((FG N ([]) (((d.2.1).take (((b[a.toNat]!).2).toNat)).drop 0) 0 0 0 0).bind fun c=>ck (0≤c∧c≤9223372036854775807) (if(c%16:Int)≠0 then some (a,9)else ck (R64 (a+1)) ((BU N m b f) (a+1))))))else some (a,5)))else some (0,0)
def Em(N:Nat)(m:An)(a:List (Int×Int)):Option (Int×Int):=if(a.length:Int)>4 then some (0,2)else BU N m a N 0
theorem Jq(N m l' r)(a:Em N m l'=some r)(ro)(mv:Ay)(hm:Aa2 ro mv m)(l'v)(hl':Rd Ae3 ro l'v l'):Does prog 47 #[vA (Ac m mv),l'v] ro [] (pV (vT #[vI r.1,vI r.2])):=by
 unfold Em at a
 refine Aj follows func47 rfl 65 rfl _ fz2 (fun M=> ?_)
 refine Ad<|rA rfl fun u=>rz rfl<|Aa fun K3 O=>Ad<|rn 1 rfl<|rL (Rd.shp hl') rfl<|rz rfl<|aD a rfl (fun P a=> ?_) (fun P a=> ?_)
 ·refine AZ rfl ?_
  cases a
  exact aR eV2
 refine Ab<|O _ _ ?_
 refine Aa fun K7 Q=>AZ rfl<|Ah<|AC (fun tt ll nn=> ∃(z:Nat) (d:Int),(BU N m l' z d=some r)∧Is [(1,l'v),(2,vP u 0),(6,vI d)] [(u,35,(Ac m mv))] tt ll∧nn=z+1) (N+1) ?_ ?_
 ·exact⟨N,0,a,Af rfl rfl,rfl⟩
 clear a;rintro t l _ ⟨z,d,a,⟨⟨T,rfl⟩,rfl⟩,rfl⟩
 rcases z with _|z
 ·exact absurd a (by simp [BU])
 rw [BU] at a
 refine Aa fun W A=>Ad<|rn 2 rfl<|rL (Rd.shp hl') rfl<|rz rfl<|aD a rfl (fun B a=> ?_) (fun B a=> ?_)
 ·refine Ab<|A _ _ ?_
  refine Aa fun X C=>Ah<|Aa fun Y D=>Bw [(some 32,false)] (conG prog [(32,cV (BY N m ((l'[d.toNat]!).1) ((l'[d.toNat]!).2)) fun b=>vT #[vI b.1,vB b.2])]) [] (by decide+kernel) (fun V=>AH)<|rm 3 [0] rfl<|kC a fun i a=>rI (Rd.shp hl') i rfl<|rF (Rd.shp hl') (Bb i) rfl<|rE (Au hl') i 0 rfl<|rn 2 rfl<|kC a fun j a=>rI (Rd.shp hl') j rfl<|rF (Rd.shp hl') (Bb j) rfl<|rE (Au hl') j 1 rfl<|kB a fun E v a=>rg _ (cF Zh) (fun o w z_=>Hv N m ((l'[d.toNat]!).1) ((l'[d.toNat]!).2) _ v z_.view mv (Aa2.mono z_.ro_cell hm)) (GB v)<|rz rfl<|D _ _ ?_
  refine Aa fun Z F=>AZ rfl<|Bv _ rfl (fun k=> ?_) (fun k=> ?_)
  ·replace a:=ifn (Bool.eq_false_iff.1 (CM k)) a
   refine AZ rfl<|Gm [(4,vI d),(5,vI 5)] rfl (fun T=> ?_)
   cases a
   exact aR eV2
  replace a:=ifp (CN k) a
  refine Ab<|F _ _ ?_
  refine Aa fun aa G=>sD (p:= ∀b,Bc N m ((l'[d.toNat]!).1)=some b→ ∃s_,Rd Ab4 ro s_ b.2.1) (fun w_ hi_ hro_ b S=>by obtain⟨_,_,⟨_,h_,_⟩⟩:=rY (PP:=(oR Ab4 ro b.2.1 fun s_0=>(oE (vT #[vA #[vS b.1,s_0,vI b.2.2.1,vI b.2.2.2.1,vI b.2.2.2.2.1,vI b.2.2.2.2.2.1],vB b.2.2.2.2.2.2]) []))) w_ trivial hro_ (CX N m ((l'[d.toNat]!).1) _ S ro mv hm);exact⟨_,h_⟩) (fun H=> ?_)
  refine Bw [(some 45,false)] (conG prog [(45,fun _ _ v_ L_ U_=> ∀b,Bc N m ((l'[d.toNat]!).1)=some b→(pO (List.flatten []) (oR Ab4 ro b.2.1 fun s_0=>(oE (vT #[vA #[vS b.1,s_0,vI b.2.2.1,vI b.2.2.2.1,vI b.2.2.2.2.1,vI b.2.2.2.2.2.1],vB b.2.2.2.2.2.2]) []))) v_ L_ U_)]) [] (by decide+kernel) (fun V=>AH)<|rm 3 [0] rfl<|kC a fun n a=>rI (Rd.shp hl') n rfl<|rF (Rd.shp hl') (Bb n) rfl<|rE (Au hl') n 0 rfl<|kB a fun c q a=>rT (Ls:=[[(u,35,(Ac m mv))]]) (RL:=[[(u,35,(Ac m mv))]]) (oR Ab4 ro c.2.1 fun s_0=>(oE (vT #[vA #[vS c.1,s_0,vI c.2.2.1,vI c.2.2.2.1,vI c.2.2.2.2.1,vI c.2.2.2.2.2.1],vB c.2.2.2.2.2.2]) [])) 45 46 _ rfl rfl rfl (cF RV) (fun o w z_=>DoesI.ro_mono (Jy (Ls:=[[(u,35,(Ac m mv))]]) (is:=[]) rfl z_) (CX N m ((l'[d.toNat]!).1) _ q ro mv hm)) (GB q) (by rintro v_ O_ ⟨_,_,⟨_,h_⟩⟩;exact h_) (Ab8.sub (R:=[]) (pZ (H _ q) fun s_0=>(SY rfl)) (Sub.pick [] [] rfl)) ?_
  rintro _ _ ⟨h,e,⟨rfl,rfl⟩⟩
  refine Db (Ls:=[[(u,35,(Ac m mv))]]) (Ls':=[[(u,35,(Ac m mv))]]) [0] rfl rfl<|rn 3 rfl<|rA rfl fun I=>Yl [(I,106, #[vS c.1,h,vI c.2.2.1,vI c.2.2.2.1,vI c.2.2.2.2.1,vI c.2.2.2.2.2.1]),(u,35,(Ac m mv))] 0 _ _ _ (#[Value.string (⟨#[]⟩),nS,vI 0,vI 0,vI 0,vI 0]) (#[vS c.1,h,vI c.2.2.1,vI c.2.2.2.1,vI c.2.2.2.2.1,vI c.2.2.2.2.2.1]) (#[vS c.1,h,vI c.2.2.1,vI c.2.2.2.1,vI c.2.2.2.2.1,vI c.2.2.2.2.2.1]) rfl rfl rfl rfl rfl (.ofS rfl rfl (Ae rfl (Ae (Shp.one (Rd.shp e)) (Ae rfl (Ae rfl (Ae rfl (Ae rfl Bt))))))) rfl rfl<|rz rfl<|G _ _ ?_
  refine Gm [(1,l'v),(2,vP u 0),(6,vI d),(7,vI E.1),(9,vP I 0)] rfl (fun T=> ?_)
  refine Aa fun ab x=>Bw [(some 60,false)] (conG prog [(60,cV (FG N ([]) (((c.2.1).take (((l'[d.toNat]!).2).toNat)).drop 0) 0 0 0 0) fun b=>vI b)]) [] (by decide+kernel) (fun V=>AH)<|rn 3 rfl ?_
  rcases f:(E.1 !=16)with _|_
  ·replace a:=iM f a
   refine rn 1 rfl<|r_y rfl<|rm 3 [0] rfl<|r_y rfl<|kC a fun s a=>rI (Rd.shp hl') s rfl<|r_y rfl<|rF (Rd.shp hl') (Bb s) rfl<|r_y rfl<|rE (Au hl') s 1 rfl<|r_y rfl<|kC a fun g a=>r_W (Fy h 0 (((l'[d.toNat]!).2).toNat) 2) rfl (ET (HC rfl rfl rfl rfl (Rd.shp e) g))<|r_y rfl<|r_W (vA #[Value.string (⟨#[]⟩),Fy h 0 (((l'[d.toNat]!).2).toNat) 2,vI 0,vI 0,vI 0,vI 0]) rfl (My rfl rfl rfl (HL (FM rfl (mN (Shp.sub (Rd.shp e) (Nat.zero_le _) (GD g.2)) (qW (GD g.2)))) Pw) rfl)<|r_y rfl<|kB a fun U y a=>rg _ (cF oV) (fun o w z_=>Og N ([]) (((c.2.1).take (((l'[d.toNat]!).2).toNat)).drop 0) 0 0 0 0 _ y z_.view (Fy h 0 (((l'[d.toNat]!).2).toNat) 2) ((Ol (Au e) (Nat.zero_le _) (GD g.2)) o w z_)) (GB y)<|r_y rfl<|kC a fun J a=>r_X (vI (U%16)) rfl (Rr J.1) rfl<|rz rfl<|x _ _ ?_
   refine aN a rfl (fun K a=> ?_) (fun K a=> ?_)
   ·refine AZ rfl ?_
    cases a
    exact aR eV2
   refine Ab<|C _ _ ?_
   refine Ag<|rn 1 rfl<|kC a fun L a=>rX L rfl<|rz rfl<|fg _ (Sub.of (suC _ (suK _ suN))) ?_
   exact⟨z+1,by omega,z,(d+1),a,Af (by first|rfl|(simp only [f];done)|(simp only [f];rfl)|(simp only [Bn];rfl)) rfl,rfl⟩
  replace a:=iN f a
  refine rz rfl<|x _ _ ?_
  refine Lq rfl ?_
  refine AZ rfl ?_
  cases a
  exact aR eV2
 refine AD<|Q _ _ ?_
 refine AZ rfl ?_
 cases a
 exact aR eV2
end Go.Proofs.YthmpbldidnmenaaGreatDoor
