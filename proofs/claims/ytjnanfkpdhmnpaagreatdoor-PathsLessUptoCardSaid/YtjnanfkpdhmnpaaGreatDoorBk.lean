import Derived.Test.YtjnanfkpdhmnpaaGreatDoorBj
namespace Go.Proofs.YtjnanfkpdhmnpaaGreatDoor
open Go Go.RowKit Go.Eng _root_.Go.Proofs.Tryz
set_option linter.unusedSimpArgs false
set_option linter.unusedVariables false
set_option maxRecDepth 100000
set_option maxHeartbeats 80000000
abbrev sJ(b:Nat)(x0 x1 x2 x3 x4 x5 x6 x7 x8 x9 x10 x11 x12 x13 x14:Y2)(x15 x16 x17:Int)(x18 x19 x20 x21 x22 x23 x24 x25 x26 x27 x28 x29 x30 x31 x32:Y2)(x33 x34 x35 x36:Int)(x37 x38:Y2):Y0 Bl:=[(b,61, #[x0,x1,x2,x3,x4,x5,x6,x7,x8,x9,x10,x11,x12,x13,x14,vI x15,vI x16,vI x17,x18,x19,x20,x21,x22,x23,x24,x25,x26,x27,x28,x29,x30,x31,x32,vI x33,vI x34,vI x35,vI x36,x37,x38])]
abbrev FO(b:Nat)(v2:Y2):Y0 Bl:=sJ b v2 nS nS nS nS nS nS nS nS nS nS nS nS nS nS 0 0 0 v2 nS nS nS nS nS nS nS nS nS nS nS nS nS nS 0 0 0 0 nS nS
abbrev Qu(b:Nat)(x0:W2)(x1 x2 x3 x4 x5 x6 x7 x8 x9 x10 x11 x12 x13 x14:Y2)(x15 x16 x17:Int)(x18:W2)(x19 x20 x21 x22 x23 x24 x25 x26 x27 x28 x29 x30 x31 x32:Y2)(x33 x34 x35 x36:Int)(x37 x38:Y2):Y0 Bl:=[(b,61, #[vS x0,x1,x2,x3,x4,x5,x6,x7,x8,x9,x10,x11,x12,x13,x14,vI x15,vI x16,vI x17,vS x18,x19,x20,x21,x22,x23,x24,x25,x26,x27,x28,x29,x30,x31,x32,vI x33,vI x34,vI x35,vI x36,x37,x38])]
abbrev MG(b:Nat)(v1:W2)(v2:AC)(v3 v4 v5:Int)(v6:W2)(v7 v8 v9 v10 v11 v12 v13 v14 v15 v16 v17 v18 v19 v20:Y2)(v21 v22 v23 v24:Int)(v25 v26:Y2):Y0 Bl:=Qu b v1 v2.1 v2.2.1 v2.2.2.1 v2.2.2.2.1 v2.2.2.2.2.1 v2.2.2.2.2.2.1 v2.2.2.2.2.2.2.1 v2.2.2.2.2.2.2.2.1 v2.2.2.2.2.2.2.2.2.1 v2.2.2.2.2.2.2.2.2.2.1 v2.2.2.2.2.2.2.2.2.2.2.1 v2.2.2.2.2.2.2.2.2.2.2.2.1 v2.2.2.2.2.2.2.2.2.2.2.2.2.1 v2.2.2.2.2.2.2.2.2.2.2.2.2.2 v3 v4 v5 v6 v7 v8 v9 v10 v11 v12 v13 v14 v15 v16 v17 v18 v19 v20 v21 v22 v23 v24 v25 v26
abbrev SF(b:Nat)(v1:Ao)(v2:AC)(v3:Ao)(v4 v5 v6 v7 v8 v9 v10 v11 v12 v13 v14 v15 v16 v17:Y2):Y0 Bl:=Qu b v1.1 v2.1 v2.2.1 v2.2.2.1 v2.2.2.2.1 v2.2.2.2.2.1 v2.2.2.2.2.2.1 v2.2.2.2.2.2.2.1 v2.2.2.2.2.2.2.2.1 v2.2.2.2.2.2.2.2.2.1 v2.2.2.2.2.2.2.2.2.2.1 v2.2.2.2.2.2.2.2.2.2.2.1 v2.2.2.2.2.2.2.2.2.2.2.2.1 v2.2.2.2.2.2.2.2.2.2.2.2.2.1 v2.2.2.2.2.2.2.2.2.2.2.2.2.2 v1.2.2.2.2.2.2.2.2.2.2.2.2.2.2.2.1 v1.2.2.2.2.2.2.2.2.2.2.2.2.2.2.2.2.1 v1.2.2.2.2.2.2.2.2.2.2.2.2.2.2.2.2.2 v3.1 v4 v5 v6 v7 v8 v9 v10 v11 v12 v13 v14 v15 v16 v17 v3.2.2.2.2.2.2.2.2.2.2.2.2.2.2.2.1 v3.2.2.2.2.2.2.2.2.2.2.2.2.2.2.2.2.1 v3.2.2.2.2.2.2.2.2.2.2.2.2.2.2.2.2.2 7 v2.2.2.2.2.2.2.1 nS
abbrev iq(b:Nat)(x0 x1 x2 x3:Int):Y0 Bl:=[(b,58, #[vI x0,vI x1,vI x2,vI x3])]
abbrev mR(b:Nat)(x0:W2)(x1 x2 x3 x4 x5 x6 x7 x8 x9 x10 x11 x12 x13 x14:Y2)(x15 x16 x17:Int)(x18:Y2):Y0 Bl:=[(b,273, #[vS x0,x1,x2,x3,x4,x5,x6,x7,x8,x9,x10,x11,x12,x13,x14,vI x15,vI x16,vI x17,x18])]
abbrev BR(b:Nat)(m:Ao)(v:AC)(x:Y2):Y0 Bl:=mR b m.1 v.1 v.2.1 v.2.2.1 v.2.2.2.1 v.2.2.2.2.1 v.2.2.2.2.2.1 v.2.2.2.2.2.2.1 v.2.2.2.2.2.2.2.1 v.2.2.2.2.2.2.2.2.1 v.2.2.2.2.2.2.2.2.2.1 v.2.2.2.2.2.2.2.2.2.2.1 v.2.2.2.2.2.2.2.2.2.2.2.1 v.2.2.2.2.2.2.2.2.2.2.2.2.1 v.2.2.2.2.2.2.2.2.2.2.2.2.2 m.2.2.2.2.2.2.2.2.2.2.2.2.2.2.2.1 m.2.2.2.2.2.2.2.2.2.2.2.2.2.2.2.2.1 m.2.2.2.2.2.2.2.2.2.2.2.2.2.2.2.2.2 x
abbrev EP(b:Nat)(x0:Y3)(x1:W4):Y0 Bl:=[(b,279, #[vB x0,U x1])]
abbrev PK(b:Nat)(x0 x1:Int):Y0 Bl:=[(b,322, #[vI x0,vI x1])]
abbrev Rp(b:Nat)(x0 x1:Int):Y0 Bl:=[(b,324, #[vI x0,vI x1])]
abbrev mQ(b:Nat):Y0 Bl:=[(b,326, #[])]
def HI(m:Ao)(l:W4)(b:Ao)(k:W2)(i c f:Int)(j:W2)(g e h d:Int)(a:Y0 (Int×Int×(Y0 (W1))×(Y0 (Int×W3))×Int×Int)):Y1 (LC):=ck ((R64 ((a.length:Int)+1))) (ck (0<=((a.length:Int)+1)/\((a.length:Int)+1)<=5864062014805) (ck (0<=(0:Int)/\(0:Int)<(((List.replicate (((a.length:Int)+1)).toNat ((false,0#64,0):(Y3×W4×Int)))).length:Int)) (some (k,m.2.1,m.2.2.1,m.2.2.2.1,m.2.2.2.2.1,m.2.2.2.2.2.1,m.2.2.2.2.2.2.1,m.2.2.2.2.2.2.2.1,m.2.2.2.2.2.2.2.2.1,m.2.2.2.2.2.2.2.2.2.1,m.2.2.2.2.2.2.2.2.2.2.1,m.2.2.2.2.2.2.2.2.2.2.2.1,m.2.2.2.2.2.2.2.2.2.2.2.2.1,m.2.2.2.2.2.2.2.2.2.2.2.2.2.1,m.2.2.2.2.2.2.2.2.2.2.2.2.2.2.1,i,c,f,j,b.2.1,b.2.2.1,b.2.2.2.1,b.2.2.2.2.1,b.2.2.2.2.2.1,b.2.2.2.2.2.2.1,b.2.2.2.2.2.2.2.1,b.2.2.2.2.2.2.2.2.1,b.2.2.2.2.2.2.2.2.2.1,b.2.2.2.2.2.2.2.2.2.2.1,b.2.2.2.2.2.2.2.2.2.2.2.1,b.2.2.2.2.2.2.2.2.2.2.2.2.1,b.2.2.2.2.2.2.2.2.2.2.2.2.2.1,b.2.2.2.2.2.2.2.2.2.2.2.2.2.2.1,g,e,h,d,a,((List.replicate (((a.length:Int)+1)).toNat ((false,0#64,0):(Y3×W4×Int)))).set (((0:Int)).toNat) (true,l,0)))))
def Gm(N:Nat)(m:Ao)(b:Y3)(c:W4):Y1 (LC):=(BT N m).bind λa=>if b=true then HI m c a m.1 m.2.2.2.2.2.2.2.2.2.2.2.2.2.2.2.1 m.2.2.2.2.2.2.2.2.2.2.2.2.2.2.2.2.1 m.2.2.2.2.2.2.2.2.2.2.2.2.2.2.2.2.2 a.1 a.2.2.2.2.2.2.2.2.2.2.2.2.2.2.2.1 a.2.2.2.2.2.2.2.2.2.2.2.2.2.2.2.2.1 a.2.2.2.2.2.2.2.2.2.2.2.2.2.2.2.2.2 8 m.2.2.2.2.2.2.2.2.1 else HI m c a m.1 m.2.2.2.2.2.2.2.2.2.2.2.2.2.2.2.1 m.2.2.2.2.2.2.2.2.2.2.2.2.2.2.2.2.1 m.2.2.2.2.2.2.2.2.2.2.2.2.2.2.2.2.2 a.1 a.2.2.2.2.2.2.2.2.2.2.2.2.2.2.2.1 a.2.2.2.2.2.2.2.2.2.2.2.2.2.2.2.2.1 a.2.2.2.2.2.2.2.2.2.2.2.2.2.2.2.2.2 7 m.2.2.2.2.2.2.2.1
theorem TZ(N m Y X r)(Q:Gm N m Y X=some r)(C)(a:AC)(e:Aa2 C a m):Does prog 11 #[vA (Ab m a),vB Y,U X] C [] (pO [] (oRN Ad1 C r.2.1 λs_0=>(oR Ad7 C r.2.2.1 λs_1=>(oR Ab3 C r.2.2.2.1 λs_2=>(oRN Ad8 C r.2.2.2.2.1 λs_3=>(oRN Ac7 C r.2.2.2.2.2.1 λs_4=>(oRN Ad4 C r.2.2.2.2.2.2.1 λs_5=>(oRN Ab9 C r.2.2.2.2.2.2.2.1 λs_6=>(oRN Ab9 C (D8 r).1 λs_7=>(oR Ca C (D8 r).2.1 λs_8=>(oR Ad3 C (D8 r).2.2.1 λs_9=>(oR Ad3 C (D8 r).2.2.2.1 λs_10=>(oR Ae2 C (D8 r).2.2.2.2.1 λs_11=>(oR Ae3 C (D8 r).2.2.2.2.2.1 λs_12=>(oR Ae4 C (D8 r).2.2.2.2.2.2.1 λs_13=>(oRN Ad1 C (D16 r).2.2.2.1 λs_14=>(oR Ad7 C (D16 r).2.2.2.2.1 λs_15=>(oR Ab3 C (D16 r).2.2.2.2.2.1 λs_16=>(oSO 72 Km (D16 r).2.2.2.2.2.2.1 λs_17=>(oSO 120 Tx (D16 r).2.2.2.2.2.2.2.1 λs_18=>(oSO 111 Ty (D16 r).2.2.2.2.2.2.2.2.1 λs_19=>(oSO 88 QA (D16 r).2.2.2.2.2.2.2.2.2.1 λs_20=>(oSO 88 QA (D16 r).2.2.2.2.2.2.2.2.2.2.1 λs_21=>(oS 3 Ca (D16 r).2.2.2.2.2.2.2.2.2.2.2.1 λs_22=>(oS 133 Ad3 (D16 r).2.2.2.2.2.2.2.2.2.2.2.2.1 λs_23=>(oS 133 Ad3 (D16 r).2.2.2.2.2.2.2.2.2.2.2.2.2.1 λs_24=>(oR Ae2 C (D16 r).2.2.2.2.2.2.2.2.2.2.2.2.2.2.1 λs_25=>(oR Ae3 C (D16 r).2.2.2.2.2.2.2.2.2.2.2.2.2.2.2.1 λs_26=>(oR Ae4 C (D16 (D16 r)).1 λs_27=>(oRN Ab9 C (Dn r) λs_28=>(oS 83 QB (GI r) λs_29=>(oE (vA #[vS r.1,s_0,s_1,s_2,s_3,s_4,s_5,s_6,s_7,s_8,s_9,s_10,s_11,s_12,s_13,vI (D8 r).2.2.2.2.2.2.2.1,vI (D16 r).1,vI (D16 r).2.1,vS (D16 r).2.2.1,s_14,s_15,s_16,s_17,s_18,s_19,s_20,s_21,s_22,s_23,s_24,s_25,s_26,s_27,vI (D16 (D16 r)).2.1,vI (D16 (D16 r)).2.2.1,vI (D16 (D16 r)).2.2.2.1,vI (D16 (D16 r)).2.2.2.2.1,s_28,s_29]) [])))))))))))))))))))))))))))))))):=by
 unfold Gm at Q
 refine BZ follows func11 Z 31 Z _ fz3 (λ_ _ h_ _=>h_) (λbb=> ?_)
 refine Ad<|rA Z λW=>rA Z λS=>Aj<|Aa λK4 bc=> ?_
 refine fc (p:= ∀b,BT N m=some b-> ∃s_,RdN Ad1 C s_ b.2.1) (λw_ hi_ hro_ b M=>by obtain⟨_,_,⟨_,h_,⟨_,_,⟨_,_,⟨_,_,_,_,⟨_,_,_,_,⟨_,_,_,_,⟨_,_,_,_,⟨_,_,_,_,⟨_,_,_,_,⟨_,_,_,_,⟨_,_,_,_,⟨_,_,⟨_,_,⟨_,_,_⟩⟩⟩,_⟩,_⟩,_⟩,_⟩,_⟩,_⟩,_⟩,_⟩⟩⟩⟩⟩:=ct (PP:=(kO1 C b)) w_ trivial hro_ (FN N m _ M C a e);exact⟨_,h_⟩) (λbd=> ?_)
 refine fc (p:= ∀b,BT N m=some b-> ∃s_,Rd Ad7 C s_ b.2.2.1) (λw_ hi_ hro_ b M=>by obtain⟨_,_,⟨_,_,⟨_,h_,⟨_,_,⟨_,_,_,_,⟨_,_,_,_,⟨_,_,_,_,⟨_,_,_,_,⟨_,_,_,_,⟨_,_,_,_,⟨_,_,_,_,⟨_,_,_,_,⟨_,_,⟨_,_,⟨_,_,_⟩⟩⟩,_⟩,_⟩,_⟩,_⟩,_⟩,_⟩,_⟩,_⟩⟩⟩⟩⟩:=ct (PP:=(kO1 C b)) w_ trivial hro_ (FN N m _ M C a e);exact⟨_,h_⟩) (λbe=> ?_)
 refine fc (p:= ∀b,BT N m=some b-> ∃s_,Rd Ab3 C s_ b.2.2.2.1) (λw_ hi_ hro_ b M=>by obtain⟨_,_,⟨_,_,⟨_,_,⟨_,h_,⟨_,_,_,_,⟨_,_,_,_,⟨_,_,_,_,⟨_,_,_,_,⟨_,_,_,_,⟨_,_,_,_,⟨_,_,_,_,⟨_,_,_,_,⟨_,_,⟨_,_,⟨_,_,_⟩⟩⟩,_⟩,_⟩,_⟩,_⟩,_⟩,_⟩,_⟩,_⟩⟩⟩⟩⟩:=ct (PP:=(kO1 C b)) w_ trivial hro_ (FN N m _ M C a e);exact⟨_,h_⟩) (λbf=> ?_)
 refine fc (p:= ∀b,BT N m=some b-> ∃s_,Rd Ae2 C s_ (D8 b).2.2.2.2.1) (λw_ hi_ hro_ b M=>by obtain⟨_,_,⟨_,_,⟨_,_,⟨_,_,⟨_,_,_,_,⟨_,_,_,_,⟨_,_,_,_,⟨_,_,_,_,⟨_,_,_,_,⟨_,_,_,_,⟨_,_,_,_,⟨_,_,_,_,⟨_,h_,⟨_,_,⟨_,_,_⟩⟩⟩,_⟩,_⟩,_⟩,_⟩,_⟩,_⟩,_⟩,_⟩⟩⟩⟩⟩:=ct (PP:=(kO1 C b)) w_ trivial hro_ (FN N m _ M C a e);exact⟨_,h_⟩) (λar=> ?_)
 refine fc (p:= ∀b,BT N m=some b-> ∃s_,Rd Ae3 C s_ (D8 b).2.2.2.2.2.1) (λw_ hi_ hro_ b M=>by obtain⟨_,_,⟨_,_,⟨_,_,⟨_,_,⟨_,_,_,_,⟨_,_,_,_,⟨_,_,_,_,⟨_,_,_,_,⟨_,_,_,_,⟨_,_,_,_,⟨_,_,_,_,⟨_,_,_,_,⟨_,_,⟨_,h_,⟨_,_,_⟩⟩⟩,_⟩,_⟩,_⟩,_⟩,_⟩,_⟩,_⟩,_⟩⟩⟩⟩⟩:=ct (PP:=(kO1 C b)) w_ trivial hro_ (FN N m _ M C a e);exact⟨_,h_⟩) (λau=> ?_)
 refine fc (p:= ∀b,BT N m=some b-> ∃s_,Rd Ae4 C s_ (D8 b).2.2.2.2.2.2.1) (λw_ hi_ hro_ b M=>by obtain⟨_,_,⟨_,_,⟨_,_,⟨_,_,⟨_,_,_,_,⟨_,_,_,_,⟨_,_,_,_,⟨_,_,_,_,⟨_,_,_,_,⟨_,_,_,_,⟨_,_,_,_,⟨_,_,_,_,⟨_,_,⟨_,_,⟨_,h_,_⟩⟩⟩,_⟩,_⟩,_⟩,_⟩,_⟩,_⟩,_⟩,_⟩⟩⟩⟩⟩:=ct (PP:=(kO1 C b)) w_ trivial hro_ (FN N m _ M C a e);exact⟨_,h_⟩) (λav=> ?_)
 refine VA (Ls:=[(FO S (V4 (⟨#[]⟩))),[(W,35,(Ab m a))]]) [(some 10,true),(some 1000000011,true)] [(10,λ_ _ v_ L_ U_=>(pH ((V2 ([]:Y0 (Y0 Bl))).map (·.1)) (λv_ L_ U_=> ∀b,BT N m=some b->(pO (V2 []) (kO1 C b)) v_ L_ U_) v_ L_ U_))] [] [1] [] (by decide+kernel) (λhn=>AN) (by decide+kernel) Z (⟨.inr (λ_ _ _ _ _ h_=>lT (cq (Ls:=[(FO S (V4 (⟨#[]⟩))),[(W,35,(Ab m a))]]) (is:=[]) (js:=[]) Z) h_),trivial⟩) (λhnb_=> ?_)
 refine cg (vA (Ab m a)) 1 _ _ _ _ Z Z Z Z Z (hnb_ W (List.mem_of_getElem? (i:=0) Z))<|cg (vA (Ab m a)) 1 _ _ _ _ Z Z Z Z Z (hnb_ W (List.mem_of_getElem? (i:=0) Z))<|kB Q λd V Q=>ci (Ls:=[(FO S (V4 (⟨#[]⟩))),[(W,35,(Ab m a))]]) (FL:=[]) [] _ (some 10) 17 _ Z Z Z Z Z (cF uB) (λo w hn_ z_=>rom [] Z z_ (FN N m _ V C a e)) (λa_ c_ v_ L_ U_=>lS (q:=λv_ L_ U_=> ∀b,BT N m=some b->(pO (V2 []) (kO1 C b)) v_ L_ U_) ((Hq V) a_ c_ v_ L_ U_)) (λ_=>(Ac2.sub (R:=[]) (wx (bd _ V) λs_0=>(Wc (be _ V) λs_1=>(Wc (bf _ V) λs_2=>(Wb λs_3=>(Wb λs_4=>(Wb λs_5=>(Wb λs_6=>(Wb λs_7=>(mn λs_8=>(mn λs_9=>(mn λs_10=>(Wc (ar _ V) λs_11=>(Wc (au _ V) λs_12=>(Wc (av _ V) λs_13=>(Oe Z))))))))))))))) (W5 [] [] Z))) ?_
 rintro _ _ ⟨f,aa,⟨g,ab,⟨h,ac,⟨j,D,_,aj,⟨k,E,_,ak,⟨n,F,_,al,⟨s,G,_,am,⟨u,H,_,an,⟨v,I,_,ao,⟨x,J,_,ap,⟨y,K,_,aq,⟨z,ad,⟨A,ae,⟨B,af,⟨rfl,rfl⟩⟩⟩⟩,rfl⟩,rfl⟩,rfl⟩,rfl⟩,rfl⟩,rfl⟩,rfl⟩,rfl⟩⟩⟩⟩
 refine AK (Ls:=[(FO S (V4 (⟨#[]⟩))),[(W,35,(Ab m a))],D,E,F,G,H,I,J,K]) (Ls':=[(FO S (V4 (⟨#[]⟩))),[(W,35,(Ab m a))],D,E,F,G,H,I,J,K]) [0,1,2,3,4,5,6,7,8,9] Z Z<|rn 1 Z ?_
 refine cg a.2.2.2.2.2.2.1 1 _ _ _ _ Z Z Z Z Z (hnb_ W (List.mem_of_getElem? (i:=0) Z)) ?_
 refine r_W (vA #[vS m.1,a.1,a.2.1,a.2.2.1,a.2.2.2.1,a.2.2.2.2.1,a.2.2.2.2.2.1,a.2.2.2.2.2.2.1,a.2.2.2.2.2.2.2.1,(D8 a).1,(D8 a).2.1,(D8 a).2.2.1,(D8 a).2.2.2.1,(D8 a).2.2.2.2.1,(D8 a).2.2.2.2.2,vI (D8 m).2.2.2.2.2.2.2.1,vI (D16 m).1,vI (D16 m).2,vS d.1,f,g,h,j,k,n,s,u,v,x,y,z,A,B,vI (D8 d).2.2.2.2.2.2.2.1,vI (D16 d).1,vI (D16 d).2,vI 7,a.2.2.2.2.2.2.1,nS]) Z (MM Z Z Z (FJ (c:=(Ab m a)) Z (FJ (c:= #[vS d.1,f,g,h,j,k,n,s,u,v,x,y,z,A,B,vI (D8 d).2.2.2.2.2.2.2.1,vI (D16 d).1,vI (D16 d).2]) Z (FJ Z (FJ (CR Z (W9 e.2.2.2.2.2.2.1)) Qp)))) (by kernel_rfl)) ?_
 refine rA Z λL=>ZX (V2 [(SF L m a d f g h j k n s u v x y z A B),(FO S (V4 (⟨#[]⟩))),[(W,35,(Ab m a))],D,E,F,G,H,I,J,K]) 0 _ _ _ (#[V4 (⟨#[]⟩),nS,nS,nS,nS,nS,nS,nS,nS,nS,nS,nS,nS,nS,nS,vI 0,vI 0,vI 0,V4 (⟨#[]⟩),nS,nS,nS,nS,nS,nS,nS,nS,nS,nS,nS,nS,nS,nS,vI 0,vI 0,vI 0,vI 0,nS,nS]) (#[vS m.1,a.1,a.2.1,a.2.2.1,a.2.2.2.1,a.2.2.2.2.1,a.2.2.2.2.2.1,a.2.2.2.2.2.2.1,a.2.2.2.2.2.2.2.1,(D8 a).1,(D8 a).2.1,(D8 a).2.2.1,(D8 a).2.2.2.1,(D8 a).2.2.2.2.1,(D8 a).2.2.2.2.2,vI (D8 m).2.2.2.2.2.2.2.1,vI (D16 m).1,vI (D16 m).2,vS d.1,f,g,h,j,k,n,s,u,v,x,y,z,A,B,vI (D8 d).2.2.2.2.2.2.2.1,vI (D16 d).1,vI (D16 d).2,vI 7,a.2.2.2.2.2.2.1,nS]) (#[vS m.1,a.1,a.2.1,a.2.2.1,a.2.2.2.1,a.2.2.2.2.1,a.2.2.2.2.2.1,a.2.2.2.2.2.2.1,a.2.2.2.2.2.2.2.1,(D8 a).1,(D8 a).2.1,(D8 a).2.2.1,(D8 a).2.2.2.1,(D8 a).2.2.2.2.1,(D8 a).2.2.2.2.2,vI (D8 m).2.2.2.2.2.2.2.1,vI (D16 m).1,vI (D16 m).2,vS d.1,f,g,h,j,k,n,s,u,v,x,y,z,A,B,vI (D8 d).2.2.2.2.2.2.2.1,vI (D16 d).1,vI (D16 d).2,vI 7,a.2.2.2.2.2.2.1,nS]) Z Z Z Z Z (.ofS Z Z (Ae Z (sN e.1 (sR e.2.1 (sR e.2.2.1 (sN e.2.2.2.1 (sN e.2.2.2.2.1 (sN e.2.2.2.2.2.1 (sN e.2.2.2.2.2.2.1 (sN e.2.2.2.2.2.2.2.1 (sR e.2.2.2.2.2.2.2.2.1 (sR e.2.2.2.2.2.2.2.2.2.1 (sR e.2.2.2.2.2.2.2.2.2.2.1 (sR e.2.2.2.2.2.2.2.2.2.2.2.1 (sR e.2.2.2.2.2.2.2.2.2.2.2.2.1 (sR e.2.2.2.2.2.2.2.2.2.2.2.2.2 (Ae Z (Ae Z (Ae Z (Ae Z (sN aa (sR ab (sR ac (sO aj (sO ak (sO al (sO am (sO an (sS ao (sS ap (sS aq (sR ad (sR ae (sR af (Ae Z (Ae Z (Ae Z (Ae Z (sN e.2.2.2.2.2.2.1 (sE AD)))))))))))))))))))))))))))))))))))))))) Z Z ?_
 refine Aj<|bc _ _ ?_
 refine Cs (λtt ll=> ∃(m1__0:W2) (m1__15:Int) (m1__16:Int) (m1__17:Int) (m1__18:W2) (m1__33:Int) (m1__34:Int) (m1__35:Int) (m1__36:Int) (m1__37:Y0 (Int×Int×(Y0 (W1))×(Y0 (Int×W3))×Int×Int)),(HI m X d m1__0 m1__15 m1__16 m1__17 m1__18 m1__33 m1__34 m1__35 m1__36 m1__37=some r)/\ ∃(vm1__37:Y2),RdN Ab9 C vm1__37 m1__37/\Is [(2,U X),(6,vP S 0),(7,vP L 0)] (V2 [(Qu L m1__0 a.1 a.2.1 a.2.2.1 a.2.2.2.1 a.2.2.2.2.1 a.2.2.2.2.2.1 a.2.2.2.2.2.2.1 a.2.2.2.2.2.2.2.1 (D8 a).1 (D8 a).2.1 (D8 a).2.2.1 (D8 a).2.2.2.1 (D8 a).2.2.2.2.1 (D8 a).2.2.2.2.2 m1__15 m1__16 m1__17 m1__18 f g h j k n s u v x y z A B m1__33 m1__34 m1__35 m1__36 vm1__37 nS),(FO S (V4 (⟨#[]⟩))),D,E,F,G,H,I,J,K]) tt ll) ?_ ?_
 ·refine AZ Z<|aB Q Z (λaw Q=> ?_) (λaw Q=> ?_)
  ·refine VA (Ls:=[(SF L m a d f g h j k n s u v x y z A B),(FO S (V4 (⟨#[]⟩))),[(W,35,(Ab m a))],D,E,F,G,H,I,J,K]) [(some 1000000000,true)] [] [0] [2] [] (by decide+kernel) (λhn=>AN) (by decide+kernel) Z trivial (λhnb_=> ?_)
   refine rn 1 Z<|cg a.2.2.2.2.2.2.2.1 2 _ _ _ _ Z Z Z Z Z (hnb_ W (List.mem_of_getElem? (i:=0) Z))<|rn 1 Z ?_
   refine rP (V2 [(Qu L m.1 a.1 a.2.1 a.2.2.1 a.2.2.2.1 a.2.2.2.2.1 a.2.2.2.2.2.1 a.2.2.2.2.2.2.1 a.2.2.2.2.2.2.2.1 (D8 a).1 (D8 a).2.1 (D8 a).2.2.1 (D8 a).2.2.2.1 (D8 a).2.2.2.2.1 (D8 a).2.2.2.2.2 (D8 m).2.2.2.2.2.2.2.1 (D16 m).1 (D16 m).2 d.1 f g h j k n s u v x y z A B (D8 d).2.2.2.2.2.2.2.1 (D16 d).1 (D16 d).2 8 a.2.2.2.2.2.2.1 nS),(FO S (V4 (⟨#[]⟩))),[(W,35,(Ab m a))],D,E,F,G,H,I,J,K]) 0 _ _ _ (#[vS m.1,a.1,a.2.1,a.2.2.1,a.2.2.2.1,a.2.2.2.2.1,a.2.2.2.2.2.1,a.2.2.2.2.2.2.1,a.2.2.2.2.2.2.2.1,(D8 a).1,(D8 a).2.1,(D8 a).2.2.1,(D8 a).2.2.2.1,(D8 a).2.2.2.2.1,(D8 a).2.2.2.2.2,vI (D8 m).2.2.2.2.2.2.2.1,vI (D16 m).1,vI (D16 m).2,vS d.1,f,g,h,j,k,n,s,u,v,x,y,z,A,B,vI (D8 d).2.2.2.2.2.2.2.1,vI (D16 d).1,vI (D16 d).2,vI 7,a.2.2.2.2.2.2.1,nS]) (#[vI 8]) (#[vS m.1,a.1,a.2.1,a.2.2.1,a.2.2.2.1,a.2.2.2.2.1,a.2.2.2.2.2.1,a.2.2.2.2.2.2.1,a.2.2.2.2.2.2.2.1,(D8 a).1,(D8 a).2.1,(D8 a).2.2.1,(D8 a).2.2.2.1,(D8 a).2.2.2.2.1,(D8 a).2.2.2.2.2,vI (D8 m).2.2.2.2.2.2.2.1,vI (D16 m).1,vI (D16 m).2,vS d.1,f,g,h,j,k,n,s,u,v,x,y,z,A,B,vI (D8 d).2.2.2.2.2.2.2.1,vI (D16 d).1,vI (D16 d).2,vI 8,a.2.2.2.2.2.2.1,nS]) Z Z Z Z (.of Z Z) Z Z (List.mem_of_getElem? (i:=0) Z) ?_
   refine rn 1 Z ?_
   refine rP (V2 [(Qu L m.1 a.1 a.2.1 a.2.2.1 a.2.2.2.1 a.2.2.2.2.1 a.2.2.2.2.2.1 a.2.2.2.2.2.2.1 a.2.2.2.2.2.2.2.1 (D8 a).1 (D8 a).2.1 (D8 a).2.2.1 (D8 a).2.2.2.1 (D8 a).2.2.2.2.1 (D8 a).2.2.2.2.2 (D8 m).2.2.2.2.2.2.2.1 (D16 m).1 (D16 m).2 d.1 f g h j k n s u v x y z A B (D8 d).2.2.2.2.2.2.2.1 (D16 d).1 (D16 d).2 8 a.2.2.2.2.2.2.2.1 nS),(FO S (V4 (⟨#[]⟩))),[(W,35,(Ab m a))],D,E,F,G,H,I,J,K]) 0 _ _ _ (#[vS m.1,a.1,a.2.1,a.2.2.1,a.2.2.2.1,a.2.2.2.2.1,a.2.2.2.2.2.1,a.2.2.2.2.2.2.1,a.2.2.2.2.2.2.2.1,(D8 a).1,(D8 a).2.1,(D8 a).2.2.1,(D8 a).2.2.2.1,(D8 a).2.2.2.2.1,(D8 a).2.2.2.2.2,vI (D8 m).2.2.2.2.2.2.2.1,vI (D16 m).1,vI (D16 m).2,vS d.1,f,g,h,j,k,n,s,u,v,x,y,z,A,B,vI (D8 d).2.2.2.2.2.2.2.1,vI (D16 d).1,vI (D16 d).2,vI 8,a.2.2.2.2.2.2.1,nS]) (#[a.2.2.2.2.2.2.2.1]) (#[vS m.1,a.1,a.2.1,a.2.2.1,a.2.2.2.1,a.2.2.2.2.1,a.2.2.2.2.2.1,a.2.2.2.2.2.2.1,a.2.2.2.2.2.2.2.1,(D8 a).1,(D8 a).2.1,(D8 a).2.2.1,(D8 a).2.2.2.1,(D8 a).2.2.2.2.1,(D8 a).2.2.2.2.2,vI (D8 m).2.2.2.2.2.2.2.1,vI (D16 m).1,vI (D16 m).2,vS d.1,f,g,h,j,k,n,s,u,v,x,y,z,A,B,vI (D8 d).2.2.2.2.2.2.2.1,vI (D16 d).1,vI (D16 d).2,vI 8,a.2.2.2.2.2.2.2.1,nS]) Z Z Z (CR Z (W9 e.2.2.2.2.2.2.2.1)) (.ofS Z Z (sN e.2.2.2.2.2.2.2.1 AD)) Z Z (List.mem_of_getElem? (i:=0) Z) ?_
   refine Aj ?_
   refine fg _ (W5 [(Qu L m.1 a.1 a.2.1 a.2.2.1 a.2.2.2.1 a.2.2.2.2.1 a.2.2.2.2.2.1 a.2.2.2.2.2.2.1 a.2.2.2.2.2.2.2.1 (D8 a).1 (D8 a).2.1 (D8 a).2.2.1 (D8 a).2.2.2.1 (D8 a).2.2.2.2.1 (D8 a).2.2.2.2.2 (D8 m).2.2.2.2.2.2.2.1 (D16 m).1 (D16 m).2 d.1 f g h j k n s u v x y z A B (D8 d).2.2.2.2.2.2.2.1 (D16 d).1 (D16 d).2 8 a.2.2.2.2.2.2.2.1 nS),(FO S (V4 (⟨#[]⟩))),[(W,35,(Ab m a))],D,E,F,G,H,I,J,K] [0,1,3,4,5,6,7,8,9,10] Z) ?_
   exact⟨m.1,(D8 m).2.2.2.2.2.2.2.1,(D16 m).1,(D16 m).2,d.1,(D8 d).2.2.2.2.2.2.2.1,(D16 d).1,(D16 d).2,8,(D8 m).1,Q,a.2.2.2.2.2.2.2.1,e.2.2.2.2.2.2.2.1,Ag Z Z⟩
  refine Ac ?_
  refine fg _ (W5 [(SF L m a d f g h j k n s u v x y z A B),(FO S (V4 (⟨#[]⟩))),[(W,35,(Ab m a))],D,E,F,G,H,I,J,K] [0,1,3,4,5,6,7,8,9,10] Z) ?_
  exact⟨m.1,(D8 m).2.2.2.2.2.2.2.1,(D16 m).1,(D16 m).2,d.1,(D8 d).2.2.2.2.2.2.2.1,(D16 d).1,(D16 d).2,7,m.2.2.2.2.2.2.2.1,Q,a.2.2.2.2.2.2.1,e.2.2.2.2.2.2.1,Ag Z Z⟩
 clear Q;rintro t l ⟨m1__0,m1__15,m1__16,m1__17,m1__18,m1__33,m1__34,m1__35,m1__36,m1__37,Q,vm1__37,hm1__37,⟨T,rfl⟩,rfl⟩
 unfold HI at Q
 refine Ad<|rm 2 [0] Z<|rL (W9 hm1__37) Z<|kC Q λax Q=>rX ax Z<|kC Q λay Q=>cB 23<|Ta (Ls:=[(Qu L m1__0 a.1 a.2.1 a.2.2.1 a.2.2.2.1 a.2.2.2.2.1 a.2.2.2.2.2.1 a.2.2.2.2.2.2.1 a.2.2.2.2.2.2.2.1 (D8 a).1 (D8 a).2.1 (D8 a).2.2.1 (D8 a).2.2.2.1 (D8 a).2.2.2.2.1 (D8 a).2.2.2.2.2 m1__15 m1__16 m1__17 m1__18 f g h j k n s u v x y z A B m1__33 m1__34 m1__35 m1__36 vm1__37 nS),(FO S (V4 (⟨#[]⟩))),D,E,F,G,H,I,J,K]) 83 QB (false,0#64,0) ((m1__37.length:Int)+1) Z Z Z Z Z Z Z Z Z Z 5864062014805 Z ay (λ_ _ _ _ _=>Iff.rfl) (λP az ag=> ?_)
 refine rn 1 Z ?_
 refine r_s (V2 [(MG L m1__0 a m1__15 m1__16 m1__17 m1__18 f g h j k n s u v x y z A B m1__33 m1__34 m1__35 m1__36 vm1__37 P),(FO S (V4 (⟨#[]⟩))),D,E,F,G,H,I,J,K,az]) 0 _ _ _ _ _ (#[vS m1__0,a.1,a.2.1,a.2.2.1,a.2.2.2.1,a.2.2.2.2.1,a.2.2.2.2.2.1,a.2.2.2.2.2.2.1,a.2.2.2.2.2.2.2.1,(D8 a).1,(D8 a).2.1,(D8 a).2.2.1,(D8 a).2.2.2.1,(D8 a).2.2.2.2.1,(D8 a).2.2.2.2.2,vI m1__15,vI m1__16,vI m1__17,vS m1__18,f,g,h,j,k,n,s,u,v,x,y,z,A,B,vI m1__33,vI m1__34,vI m1__35,vI m1__36,vm1__37,P]) Z Z Z (CR Z (W7 ag)) (.ofS Z Z (sS ag AD)) Z Z ?_
 refine Aj<|Ad<|r_V (vP L 38) Z<|rl P 0<|r_V (U X) Z<|r_W (vA #[vB true,U X,vI 0]) Z (Ar Z Z Z Z)<|kC Q λai Q=>rI (W7 ag) ai Z ?_
 refine QR (Ls:=[(MG L m1__0 a m1__15 m1__16 m1__17 m1__18 f g h j k n s u v x y z A B m1__33 m1__34 m1__35 m1__36 vm1__37 P),(FO S (V4 (⟨#[]⟩))),D,E,F,G,H,I,J,K,az]) 10 (En:=QB) (((List.replicate (((m1__37.length:Int)+1)).toNat ((false,0#64,0):(Y3×W4×Int))))[((0:Int)).toNat]!) (true,X,0) (((0:Int)).toNat) 0 Z Z Z ag (Cp ai) Z Z Z (It Z) Z (λah ba=> ?_)
 refine Aj<|Ad<|rm 1 [0] Z ?_
 refine r_s (V2 [(MG L m1__0 a m1__15 m1__16 m1__17 m1__18 f g h j k n s u v x y z A B m1__33 m1__34 m1__35 m1__36 vm1__37 P),(MG S m1__0 a m1__15 m1__16 m1__17 m1__18 f g h j k n s u v x y z A B m1__33 m1__34 m1__35 m1__36 vm1__37 P),D,E,F,G,H,I,J,K,ah]) 1 _ _ _ _ _ (#[vS m1__0,a.1,a.2.1,a.2.2.1,a.2.2.2.1,a.2.2.2.2.1,a.2.2.2.2.2.1,a.2.2.2.2.2.2.1,a.2.2.2.2.2.2.2.1,(D8 a).1,(D8 a).2.1,(D8 a).2.2.1,(D8 a).2.2.2.1,(D8 a).2.2.2.2.1,(D8 a).2.2.2.2.2,vI m1__15,vI m1__16,vI m1__17,vS m1__18,f,g,h,j,k,n,s,u,v,x,y,z,A,B,vI m1__33,vI m1__34,vI m1__35,vI m1__36,vm1__37,P]) Z Z Z Z (.ofS Z Z (Ae Z (sN e.1 (sR e.2.1 (sR e.2.2.1 (sN e.2.2.2.1 (sN e.2.2.2.2.1 (sN e.2.2.2.2.2.1 (sN e.2.2.2.2.2.2.1 (sN e.2.2.2.2.2.2.2.1 (sR e.2.2.2.2.2.2.2.2.1 (sR e.2.2.2.2.2.2.2.2.2.1 (sR e.2.2.2.2.2.2.2.2.2.2.1 (sR e.2.2.2.2.2.2.2.2.2.2.2.1 (sR e.2.2.2.2.2.2.2.2.2.2.2.2.1 (sR e.2.2.2.2.2.2.2.2.2.2.2.2.2 (Ae Z (Ae Z (Ae Z (Ae Z (sN aa (sR ab (sR ac (sO aj (sO ak (sO al (sO am (sO an (sS ao (sS ap (sS aq (sR ad (sR ae (sR af (Ae Z (Ae Z (Ae Z (Ae Z (sN hm1__37 (sS ba AD)))))))))))))))))))))))))))))))))))))))) Z Z ?_
 refine Aj ?_
 cases Q
 refine AU (λhn=>CI (v0:=vA #[vS m1__0,a.1,a.2.1,a.2.2.1,a.2.2.2.1,a.2.2.2.2.1,a.2.2.2.2.2.1,a.2.2.2.2.2.2.1,a.2.2.2.2.2.2.2.1,(D8 a).1,(D8 a).2.1,(D8 a).2.2.1,(D8 a).2.2.2.1,(D8 a).2.2.2.2.1,(D8 a).2.2.2.2.2,vI m1__15,vI m1__16,vI m1__17,vS m1__18,f,g,h,j,k,n,s,u,v,x,y,z,A,B,vI m1__33,vI m1__34,vI m1__35,vI m1__36,vm1__37,P]) (O:=[D,E,F,G,H,I,J,K,ah]) (Gl (Bf hn 1 Z Z Z)) (W5 [(MG L m1__0 a m1__15 m1__16 m1__17 m1__18 f g h j k n s u v x y z A B m1__33 m1__34 m1__35 m1__36 vm1__37 P),(MG S m1__0 a m1__15 m1__16 m1__17 m1__18 f g h j k n s u v x y z A B m1__33 m1__34 m1__35 m1__36 vm1__37 P),D,E,F,G,H,I,J,K,ah] [2,3,4,5,6,7,8,9,10] Z) ⟨a.1,e.1,⟨a.2.1,e.2.1,⟨a.2.2.1,e.2.2.1,⟨a.2.2.2.1,e.2.2.2.1,⟨a.2.2.2.2.1,e.2.2.2.2.1,⟨a.2.2.2.2.2.1,e.2.2.2.2.2.1,⟨a.2.2.2.2.2.2.1,e.2.2.2.2.2.2.1,⟨a.2.2.2.2.2.2.2.1,e.2.2.2.2.2.2.2.1,⟨(D8 a).1,e.2.2.2.2.2.2.2.2.1,⟨(D8 a).2.1,e.2.2.2.2.2.2.2.2.2.1,⟨(D8 a).2.2.1,e.2.2.2.2.2.2.2.2.2.2.1,⟨(D8 a).2.2.2.1,e.2.2.2.2.2.2.2.2.2.2.2.1,⟨(D8 a).2.2.2.2.1,e.2.2.2.2.2.2.2.2.2.2.2.2.1,⟨(D8 a).2.2.2.2.2,e.2.2.2.2.2.2.2.2.2.2.2.2.2,⟨f,aa,⟨g,ab,⟨h,ac,⟨j,D,_,aj,⟨k,E,_,ak,⟨n,F,_,al,⟨s,G,_,am,⟨u,H,_,an,⟨v,I,_,ao,⟨x,J,_,ap,⟨y,K,_,aq,⟨z,ad,⟨A,ae,⟨B,af,⟨vm1__37,hm1__37,⟨P,ah,_,ba,⟨Z,Z⟩,Z⟩⟩⟩⟩⟩,Z⟩,Z⟩,Z⟩,Z⟩,Z⟩,Z⟩,Z⟩,Z⟩⟩⟩⟩⟩⟩⟩⟩⟩⟩⟩⟩⟩⟩⟩⟩⟩⟩)
def Lh(a:Int)(b:Y3):Y1 (W4):=if b=true then some (0#64)else ck ((0:Int)<=a) (some (1#64<<<a.toNat))
def KG(_:Nat)(a:Int):Y1 (W4):=if a<0 then Lh a true else Lh a (decide (a>=64))
theorem Ry(N a r)(b:KG N a=some r):Gives prog 108 #[vI a] (U r):=by
 unfold KG at b
 refine Au follows func108 Z 11 Z _ fz1 (λd=> ?_)
 refine AZ Z<|Aa λj e=>Aa λk f=>Ah<|rn 3 Z<|AS 3 8 [(0,vI a)] vB (λb_=>Lh a b_=some r) (λl b T=> ?_) (λi=> ?_)
 ·unfold Lh at b
  refine Aj<|f _ _ ?_
  refine aB b Z (λg b=> ?_) (λg b=> ?_)
  ·refine AZ Z ?_
   cases b
   exact aR eE1
  refine Ac<|e _ _ ?_
  refine Ad<|rn 1 Z<|kC b λh b=>r_W (U (1#64<<<a.toNat)) Z (td (x:=1#64) Z Z h)<|rz Z ?_
  cases b
  exact aR eE1
 rcases c:(decide (a<0))with _|_
 ·replace b:=iF c b
  refine rn 3 Z ?_
  exact i _ _ b Z Z
 replace b:=iD c b
 refine rn 3 Z ?_
 exact i _ _ b Z Z
def EQ(N:Nat)(s:W4)(a:Int):Y1 Y3:=(KG N a).bind λb=>some ((s&&&b) !=(0#64))
theorem Oo(N s a r)(b:EQ N s a=some r):Gives prog 105 #[U s,vI a] (vB r):=by
 unfold EQ at b
 refine Au follows func105 Z 10 Z _ fz2 (λc=> ?_)
 refine AZ Z<|Ad<|rn 2 Z<|kB b λd e b=>rc _ (cF Xv) (Ry N a _ e)<|r_X (U (s&&&d)) Z (XB s d) Z<|r_X (vB ((s&&&d) !=(0#64))) Z (yV (s&&&d) (0#64)) Z<|rz Z ?_
 cases b
 exact aR eE1
def MV(_:Nat)(a n b:Int):Y1 Aa0:=some (.t56 a n b 11)
theorem Sg(N a n b r)(e:MV N a n b=some r)(f:Ro):Does prog 106 #[vI a,vI n,vI b] f [] (pO [] (Aa0.onP r (oE V6 []) (λy0_0 y0_1 y0_2 y0_3=>(oB 58 #[vI y0_0,vI y0_1,vI y0_2,vI y0_3] λbs_0=>(oE (V5 56 (vP bs_0 0)) []))) (λy0_0 y0_1 y0_2=>(oB 80 #[vI y0_0,vI y0_1,vI y0_2] λbs_0=>(oE (V5 78 (vP bs_0 0)) []))))):=by
 unfold MV at e
 refine BZ follows func106 Z 13 Z _ fz3 (λ_ _ h_ _=>h_) (λc=> ?_)
 refine AZ Z<|Ad<|r_R [vI a,vI n,vI b] Z<|r_W (vA #[vI a,vI n,vI b,vI 11]) Z (Ar Z Z Z Z)<|rA Z λd=>rz Z ?_
 cases e
 refine AU (λg=>CI (v0:=V5 56 (vP d 0)) (O:=[(iq d a n b 11)]) (Gl Z) (W5 [(iq d a n b 11)] [0] Z) ⟨d,_,⟨Z,Z⟩,Z⟩)
def Mo(_:Nat)(x y:W4):Y1 ((W4)×(W4)):=some (((((x>>>32)*(y>>>32))+((((x>>>32)*(y&&&4294967295#64))+(((x&&&4294967295#64)*(y&&&4294967295#64))>>>32))>>>32))+((((((x>>>32)*(y&&&4294967295#64))+(((x&&&4294967295#64)*(y&&&4294967295#64))>>>32))&&&4294967295#64)+((x&&&4294967295#64)*(y>>>32)))>>>32)),(x*y))
theorem Th(N x y r)(b:Mo N x y=some r):Gives prog 265 #[U x,U y] (vT #[U r.1,U r.2]):=by
 unfold Mo at b
 refine Au follows func265 Z 51 Z _ fz2 (λa=> ?_)
 refine AZ Z<|Ad<|rn 1 Z<|r_X (U (x&&&4294967295#64)) Z (XB x (4294967295#64)) Z<|rz Z<|Ad<|rn 1 Z<|r_v (U (x>>>32)) Z Z (eY x 32) (WW Z Z)<|rz Z<|Ad<|rn 1 Z<|r_X (U (y&&&4294967295#64)) Z (XB y (4294967295#64)) Z<|rz Z<|Ad<|rn 1 Z<|r_v (U (y>>>32)) Z Z (eY y 32) (WW Z Z)<|rz Z<|Ad<|rn 2 Z ?_
 refine r_X (U ((x&&&4294967295#64)*(y&&&4294967295#64))) Z (XA (x&&&4294967295#64) (y&&&4294967295#64)) Z<|rz Z<|Ad<|rn 2 Z<|r_X (U ((x>>>32)*(y&&&4294967295#64))) Z (XA (x>>>32) (y&&&4294967295#64)) Z<|rn 1 Z<|r_v (U (((x&&&4294967295#64)*(y&&&4294967295#64))>>>32)) Z Z (eY ((x&&&4294967295#64)*(y&&&4294967295#64)) 32) (WW Z Z) ?_
 refine r_X (U ((((x>>>32)*(y&&&4294967295#64))+(((x&&&4294967295#64)*(y&&&4294967295#64))>>>32)))) Z (ZH ((x>>>32)*(y&&&4294967295#64)) (((x&&&4294967295#64)*(y&&&4294967295#64))>>>32)) Z<|rz Z<|Ad<|rn 1 Z ?_
 refine r_X (U (((((x>>>32)*(y&&&4294967295#64))+(((x&&&4294967295#64)*(y&&&4294967295#64))>>>32))&&&4294967295#64))) Z (XB ((((x>>>32)*(y&&&4294967295#64))+(((x&&&4294967295#64)*(y&&&4294967295#64))>>>32))) (4294967295#64)) Z<|rz Z<|Ad<|rn 1 Z ?_
 refine r_v (U (((((x>>>32)*(y&&&4294967295#64))+(((x&&&4294967295#64)*(y&&&4294967295#64))>>>32))>>>32))) Z Z (eY ((((x>>>32)*(y&&&4294967295#64))+(((x&&&4294967295#64)*(y&&&4294967295#64))>>>32))) 32) (WW Z Z)<|rz Z ?_
 refine CJ [(0,U x),(1,U y),(6,U (x&&&4294967295#64)),(7,U (x>>>32)),(9,U (y>>>32)),(12,U (((((x>>>32)*(y&&&4294967295#64))+(((x&&&4294967295#64)*(y&&&4294967295#64))>>>32))&&&4294967295#64))),(13,U (((((x>>>32)*(y&&&4294967295#64))+(((x&&&4294967295#64)*(y&&&4294967295#64))>>>32))>>>32)))] Z (λT=> ?_)
 refine Ad<|rn 3 Z<|r_X (U ((x&&&4294967295#64)*(y>>>32))) Z (XA (x&&&4294967295#64) (y>>>32)) Z<|r_X (U ((((((x>>>32)*(y&&&4294967295#64))+(((x&&&4294967295#64)*(y&&&4294967295#64))>>>32))&&&4294967295#64)+((x&&&4294967295#64)*(y>>>32))))) Z (ZH (((((x>>>32)*(y&&&4294967295#64))+(((x&&&4294967295#64)*(y&&&4294967295#64))>>>32))&&&4294967295#64)) ((x&&&4294967295#64)*(y>>>32))) Z ?_
 refine rz Z<|Ad<|rn 2 Z<|r_X (U ((x>>>32)*(y>>>32))) Z (XA (x>>>32) (y>>>32)) Z<|rn 1 Z ?_
 refine r_X (U ((((x>>>32)*(y>>>32))+((((x>>>32)*(y&&&4294967295#64))+(((x&&&4294967295#64)*(y&&&4294967295#64))>>>32))>>>32)))) Z (ZH ((x>>>32)*(y>>>32)) (((((x>>>32)*(y&&&4294967295#64))+(((x&&&4294967295#64)*(y&&&4294967295#64))>>>32))>>>32))) Z<|rn 1 Z ?_
 refine r_v (U (((((((x>>>32)*(y&&&4294967295#64))+(((x&&&4294967295#64)*(y&&&4294967295#64))>>>32))&&&4294967295#64)+((x&&&4294967295#64)*(y>>>32)))>>>32))) Z Z (eY ((((((x>>>32)*(y&&&4294967295#64))+(((x&&&4294967295#64)*(y&&&4294967295#64))>>>32))&&&4294967295#64)+((x&&&4294967295#64)*(y>>>32)))) 32) (WW Z Z) ?_
 refine r_X (U (((((x>>>32)*(y>>>32))+((((x>>>32)*(y&&&4294967295#64))+(((x&&&4294967295#64)*(y&&&4294967295#64))>>>32))>>>32))+((((((x>>>32)*(y&&&4294967295#64))+(((x&&&4294967295#64)*(y&&&4294967295#64))>>>32))&&&4294967295#64)+((x&&&4294967295#64)*(y>>>32)))>>>32)))) Z (ZH ((((x>>>32)*(y>>>32))+((((x>>>32)*(y&&&4294967295#64))+(((x&&&4294967295#64)*(y&&&4294967295#64))>>>32))>>>32))) (((((((x>>>32)*(y&&&4294967295#64))+(((x&&&4294967295#64)*(y&&&4294967295#64))>>>32))&&&4294967295#64)+((x&&&4294967295#64)*(y>>>32)))>>>32))) Z ?_
 refine rz Z<|Ad<|rn 2 Z<|r_X (U (x*y)) Z (XA x y) Z<|rz Z ?_
 cases b
 exact aR eE2
def Nr(N:Nat)(x y:W4):Y1 ((W4)×(W4)):=(Mo N x y).bind λa=>some (a.1,a.2)
theorem UQ(N x y r)(a:Nr N x y=some r):Gives prog 250 #[U x,U y] (vT #[U r.1,U r.2]):=by
 unfold Nr at a
 refine Au follows func250 Z 30 Z _ fz2 (λb=> ?_)
 refine AZ Z<|Aa λe c=>Ch Z ?_
 refine Ac<|c _ _ ?_
 refine Ad<|rn 2 Z<|kB a λf d a=>rc _ (cF om) (Th N x y _ d)<|rz Z<|AZ Z ?_
 cases a
 exact aR eE2
def Gv  :Nat->Y0 Int->Int->Y1 (Y0 Int)
  |0,_,_=>none
  |c+1,b,a=>if a<(b.length:Int)then ck (0<=a/\a<=(b.length:Int)) (ck (0<=a/\a<=(b.length:Int)) (ck ((R64 (a+((min (a.toNat) ((b).length - (a.toNat)):Nat):Int)))) ((Gv c) (TC b (a.toNat) (a.toNat)) ((a+((min (a.toNat) ((b).length - (a.toNat)):Nat):Int))))))else some b
def JB(N:Nat)(x:Y0 Int)(a:(W4)×(W4)):Y1 (Y0 Int):=ck ((((a.2).toNat:Nat):Int)<=9223372036854775807) (ck (0<=(((a.2).toNat:Nat):Int)/\(((a.2).toNat:Nat):Int)<=17592186044416) (Gv N (((x).take ((List.replicate ((((a.2).toNat:Nat):Int)).toNat (0:Int))).length++((List.replicate ((((a.2).toNat:Nat):Int)).toNat (0:Int))).drop (x).length)) (((min (x).length ((List.replicate ((((a.2).toNat:Nat):Int)).toNat (0:Int))).length:Nat):Int))))
def JC(N:Nat)(x:Y0 Int)(a:Int):Y1 (Y0 Int):=(Nr N (BitVec.ofInt 64 (x.length:Int)) (BitVec.ofInt 64 a)).bind λb=>if(0#64)<b.1 then none else if(9223372036854775807#64)<b.2 then none else JB N x b 
def Kf(N:Nat)(x:Y0 Int)(a:Int):Y1 (Y0 Int):=if a<0 then none else JC N x a 
theorem QM(N x c r)(a:Kf N x c=some r)(L C)(J:Rd Ca L C x):Does prog 228 #[C,vI c] L [] (p1 (λs_=>s_) 3 Ca r):=by
 unfold Kf at a
 refine Ak follows func228 Z 48 Z _ fz2 (λB=> ?_)
 refine AZ Z<|Cs (λtt ll=>(JC N x c  =some r)/\Is [(0,C),(1,vI c)] [] tt ll) ?_ ?_
 ·refine AZ Z<|aD a Z (λq a=> ?_) (λq a=> ?_)
  ·refine Ah<|rn 1 Z ?_
   cases a
  refine Ac<|fg _ (Sub.of suN) ?_
  exact⟨a,Ag Z Z⟩
 clear a;rintro t l ⟨a,⟨T,rfl⟩,rfl⟩
 unfold JC at a
 refine Ad<|rn 1 Z<|rL (W8 J) Z<|r_w (U (BitVec.ofInt 64 (x.length:Int))) Z Z (jt (x.length:Int)) (λ_=>Z)<|rn 1 Z<|r_w (U (BitVec.ofInt 64 c)) Z Z (jt c) (λ_=>Z)<|kB a λg D a=>rc _ (cF oH) (UQ N _ _ _ D)<|rz Z<|Cs (λtt ll=>(JB N x g  =some r)/\Is [(0,C),(6,U g.2)] [] tt ll) ?_ ?_
 ·refine Aa λM i=>Ah<|rn 1 Z<|r_X (vB (decide ((0#64)<g.1))) Z (yD (0#64) g.1) Z<|rn 1 Z ?_
  rcases j:(decide ((0#64)<g.1))with _|_
  ·replace a:=iF j a
   refine rn 1 Z<|r_y Z<|r_X (vB (decide ((9223372036854775807#64)<g.2))) Z (yD (9223372036854775807#64) g.2) Z<|rz Z<|i _ _ ?_
   refine aD a Z (λs a=> ?_) (λs a=> ?_)
   ·refine Ah<|rn 1 Z ?_
    cases a
   refine Ac<|fg _ (Sub.of suN) ?_
   exact⟨a,Ag Z Z⟩
  replace a:=iD j a
  refine rz Z<|i _ _ ?_
  refine JO Z ?_
  refine Ah<|rn 1 Z ?_
  cases a
 clear a;rintro t l ⟨a,⟨T,rfl⟩,rfl⟩
 unfold JB at a
 refine Ad<|rn 1 Z<|kC a λE a=>r_w (vI (((g.2).toNat:Nat):Int)) Z Z (RU Z (by omega) E) (λ_=>Z)<|kC a λF a=>cB 30<|Ta (Ls:=[]) 3 Ca 0 (((g.2).toNat:Nat):Int) Z Z Z Z Z Z Z Z Z Z 17592186044416 Z F (λ_ _ _ _ _=>Iff.rfl) (λn K G=> ?_)
 refine rz Z<|Ad<|rn 2 Z<|cA 33 (p:=(pUp (λv_ U_=>v_= .int .i64 ((min (x).length ((List.replicate ((((g.2).toNat:Nat):Int)).toNat (0:Int))).length:Nat):Int)/\Sl 3 Ca n ((x).take ((List.replicate ((((g.2).toNat:Nat):Int)).toNat (0:Int))).length++((List.replicate ((((g.2).toNat:Nat):Int)).toNat (0:Int))).drop (x).length) U_/\U_.map (·.1)=K.map (·.1))))<|va (Ls:=[K]) 0 (En:=Ca) (ys:=x) Z Z Z Z Z Z G (W8 J) (Ay J) Z Z Z Z (λ_ _ _ _ _=>Iff.rfl) (λu H=> ?_)
 refine rz Z<|Aa λO v=>Ai<|BF _ (W5 [u] [0] Z)<|AL (λtt ll nn=> ∃(h:Nat) (e:Y0 Int) (b:Int),(Gv h e b=some r)/\ ∃(d:Y0 Bl),Sl 3 Ca n e d/\Is [(7,n),(8,vI b)] (V2 [d]) tt ll/\nn=h+1) (N+1) ?_ ?_
 ·exact⟨N,((x).take ((List.replicate ((((g.2).toNat:Nat):Int)).toNat (0:Int))).length++((List.replicate ((((g.2).toNat:Nat):Int)).toNat (0:Int))).drop (x).length),((min (x).length ((List.replicate ((((g.2).toNat:Nat):Int)).toNat (0:Int))).length:Nat):Int),a,u,H,Ag Z Z,Z⟩
 clear a;rintro t l _ ⟨h,e,b,a,d,f,⟨⟨T,rfl⟩,rfl⟩,rfl⟩
 rcases h with _|h
 ·exact absurd a (by simp [Gv])
 rw [Gv] at a
 refine Aa λP w=>Ad<|rn 2 Z<|rL (W7 f) Z<|rz Z<|aD a Z (λy a=> ?_) (λy a=> ?_)
 ·refine Ac<|w _ _ ?_
  refine Ai<|BO [(some 45,true)] (conG prog [(45,λ_ _ v_ L_ U_=>(pUp (λv_ U_=>v_= .int .i64 ((min (b.toNat) ((e).length - (b.toNat)):Nat):Int)/\Sl 3 Ca n (TC e (b.toNat) (b.toNat)) U_/\U_.map (·.1)=d.map (·.1))) v_ L_ U_)]) [] (by decide+kernel) (λQ=>AN)<|rn 3 Z<|kC a λk a=>r_W (GX n (b.toNat) ((e).length) 1) Z (GV (kp Z Z Z Z (W7 f) k))<|rn 2 Z<|kC a λm a=>r_W (GX n 0 (b.toNat) 1) Z (GV (ID Z Z Z Z (W7 f) m))<|vQ (Ls:=[d]) 0 (En:=Ca) (o:=b.toNat) (p:=b.toNat) Z Z Z Z Z Z f (Fy k.2) (Fy m.2) Z Z Z Z (λ_ _ _ _ _=>Iff.rfl) (λz I=> ?_)
  refine kC a λA a=>rX A Z<|rz Z<|fg _ (W5 [z] [0] Z) ?_
  exact⟨h+1,by omega,h,(TC e (b.toNat) (b.toNat)),(b+((min (b.toNat) ((e).length - (b.toNat)):Nat):Int)),a,z,I,Ag Z Z,Z⟩
 refine AM<|v _ _ ?_
 refine AZ Z ?_
 cases a
 refine AU (λQ=>Iq (v0:=n) f (Fu (W5 [d] [0] Z)) Z (Gl Z))
def Gq(N:Nat):Y1 (Y0 Int):=(Kf N ([1]) 8).bind λa=>some a
theorem Ut(N r)(a:Gq N=some r)(j:Ro):Does prog 181 #[] j [] (p1 (λs_=>s_) 3 Ca r):=by
 unfold Gq at a
 refine Ak follows func181 Z 3 Z _ fz0 (λb=> ?_)
 refine AZ Z<|Ad<|gB (Ls:=[]) 3 Ca [1] (λf c g=> ?_)
 refine kB a λl d a=>gS (Ls:=[c]) (cF pb) (λo w z_=>QM N ([1]) 8 _ d z_.view f ((AB g (Al (Ls:=[c]) (k:=0) Z Z)) o w z_)) (λh i e=> ?_)
 refine rz Z ?_
 cases a
 refine AU (λm=>Iq (v0:=h) e (Fu (W5 [c,i] [1] Z)) Z (Gl Z))
def Cr(_:Nat)(s a:W4):Y1 (W4):=some (s&&&a)
theorem LL(N s b r)(c:Cr N s b=some r):Gives prog 14 #[U s,U b] (U r):=by
 unfold Cr at c
 refine Au follows func14 Z 8 Z _ fz2 (λa=> ?_)
 refine AZ Z<|Ad<|rn 2 Z<|r_X (U (s&&&b)) Z (XB s b) Z<|rz Z ?_
 cases c
 exact aR eE1
def CA(b:Y0 (Y3×W4))(a:Int)(c:W4):Y1 (Y0 (Y3×W4)):=ck (0<=a/\a<(b.length:Int)) (some ((b).set (a.toNat) (true,c)))
def AT(N:Nat)(_:Ao)(b:Y0 (Y3×W4))(a:Int)(s:W4):Y1 (Y0 (Y3×W4)):=ck (0<=a/\a<(b.length:Int)) (if((b[a.toNat]!).1)=true then ck (0<=a/\a<(b.length:Int)) ((Cr N s ((b[a.toNat]!).2)).bind λc=>CA b a c)else CA b a s)
theorem HW(N d j g s r)(f:AT N d j g s=some r)(x:Ro)(a:AC)(_hw_0:Aa2 x a d)(b:Y2)(c:Y0 Bl)(e:Sl 279 LM b j c):Does prog 183 #[vA #[vS d.1,a.1,a.2.1,a.2.2.1,a.2.2.2.1,a.2.2.2.2.1,a.2.2.2.2.2.1,a.2.2.2.2.2.2.1,a.2.2.2.2.2.2.2.1,(D8 a).1,(D8 a).2.1,(D8 a).2.2.1,(D8 a).2.2.2.1,(D8 a).2.2.2.2.1,(D8 a).2.2.2.2.2,vI (D8 d).2.2.2.2.2.2.2.1,vI (D16 d).1,vI (D16 d).2,b],vI g,U s] x (V2 [c]) (pO (V2 [c]) (oI 279 LM b r (oE (vT #[]) []))):=by
 unfold AT at f
 refine BZ follows func183 Z 26 Z _ fz3 (λ_ _ h_ _=>h_) (λq=> ?_)
 refine Ad<|rA Z λi=>Aj<|Cs (λtt ll=> ∃(h:W4),(CA j g h=some r)/\Is [(1,vI g),(2,U h),(3,vP i 0)] (V2 [(BR i d a b),c]) tt ll) ?_ ?_
 ·refine Ad<|rm 3 [0] Z<|kC f λm f=>rI (W7 e) m Z<|rF (W7 e) (Bp m) Z ?_
  refine rE (AB e (Al (Ls:=[(BR i d a b),c]) (k:=1) Z Z)) m 0 Z<|Aj ?_
  refine aB f Z (λu f=> ?_) (λu f=> ?_)
  ·refine Ah<|rm 4 [0] Z<|kC f λn f=>rI (W7 e) n Z<|rF (W7 e) (Bp n) Z ?_
   refine rE (AB e (Al (Ls:=[(BR i d a b),c]) (k:=1) Z Z)) n 1 Z<|kB f λv o f=>rc _ (cF Vy) (LL N s _ _ o)<|rz Z<|fg _ (W5 [(BR i d a b),c] [0,1] Z) ?_
   exact⟨v,f,Ag Z Z⟩
  refine Ac<|fg _ (W5 [(BR i d a b),c] [0,1] Z) ?_
  exact⟨s,f,Ag Z Z⟩
 clear f;rintro t l ⟨h,f,⟨T,rfl⟩,rfl⟩
 unfold CA at f
 refine Ah<|r_V (vP i 18) Z<|rl b 0<|r_R [vI g,U h] Z<|r_W (vA #[vB true,U h]) Z (Ar Z Z Z Z)<|kC f λp f=>rI (W7 e) p Z ?_
 refine QR (Ls:=[(BR i d a b),c]) 1 (En:=LM) (j[g.toNat]!) (true,h) (g.toNat) 0 Z Z Z e (Cp p) Z Z Z (It Z) Z (λw y=> ?_)
 refine Aj ?_
 cases f
 refine Xb (v0:=vT #[]) (O:=[w]) Z (W5 [(BR i d a b),w] [1] Z) ⟨w,_,y,⟨Z,Z⟩,Z⟩
def Cq(N:Nat)(s:W4)(a:Int):Y1 (W4):=(KG N a).bind λb=>some (s|||b)
theorem LK(N s a r)(b:Cq N s a=some r):Gives prog 48 #[U s,vI a] (U r):=by
 unfold Cq at b
 refine Au follows func48 Z 9 Z _ fz2 (λc=> ?_)
 refine AZ Z<|Ad<|rn 2 Z<|kB b λe d b=>rc _ (cF Xv) (Ry N a _ d)<|r_X (U (s|||e)) Z (uR s e) Z<|rz Z ?_
 cases b
 exact aR eE1
def BA(N:Nat)(s:W4)(a:Int):Y1 (W4):=(KG N a).bind λb=>some (s&&&~~~b)
theorem JK(N s a r)(b:BA N s a=some r):Gives prog 49 #[U s,vI a] (U r):=by
 unfold BA at b
 refine Au follows func49 Z 9 Z _ fz2 (λc=> ?_)
 refine AZ Z<|Ad<|rn 2 Z<|kB b λe d b=>rc _ (cF Xv) (Ry N a _ d)<|r_X (U (s&&&~~~e)) Z (rh s e) Z<|rz Z ?_
 cases b
 exact aR eE1
def Nc(N:Nat)(b a:Int)(s:W4):Y1 (W4):=if b=25 then(Cq N s a).bind λd=>some d else if b=26 then(BA N s a).bind λc=>some c else some s
theorem YL(N e b s r)(a:Nc N e b s=some r):Gives prog 253 #[vA #[vI e,vI b],U s] (U r):=by
 unfold Nc at a
 refine Au follows func253 Z 20 Z _ fz2 (λf=> ?_)
 refine Ad<|rA Z λk=>rz Z<|Aa λl g=>AY [0] Z<|Ai<|AZ Z<|aE a Z (λh a=> ?_) (λh a=> ?_)
 ·refine Ad<|rm 3 [0] Z<|kB a λm i a=>rc _ (cF Vx) (LK N s b _ i)<|rz Z ?_
  cases a
  exact aR eE1
 refine AZ Z<|aE a Z (λc a=> ?_) (λc a=> ?_)
 ·refine Ad<|rm 3 [0] Z<|kB a λj d a=>rc _ (cF Vw) (JK N s b _ d)<|rz Z ?_
  cases a
  exact aR eE1
 refine Ac<|g _ _ ?_
 refine AZ Z ?_
 cases a
 exact aR eE1
def KH(_:Nat)(b _ a:Int):Y1 Int:=if b=28 then ck (R64 (0 - a)) (some (0 - a))else some a
theorem gb(N b c d r)(a:KH N b c d=some r):Gives prog 255 #[vA #[vI b,vI c,vI d]] (vI r):=by
 unfold KH at a
 refine Au follows func255 Z 11 Z _ fz1 (λe=> ?_)
 refine Ad<|rA Z λi=>rz Z<|Aa λj f=>AY [0] Z<|aE a Z (λg a=> ?_) (λg a=> ?_)
 ·refine Ad<|rm 2 [0] Z<|kC a λh a=>rX h Z<|rz Z ?_
  cases a
  exact aR eE1
 refine Ac<|f _ _ ?_
 refine AY [0] Z ?_
 cases a
 exact aR eE1
def HQ(N:Nat)(f:Int×Int×Y3)(b:Int)(a:W4->Int->Y1 (W4))(c:W4)(d:Y3):Y1 (W4):=if d=true then ck (R64 (f.1+b)) ((Cq N c (f.1+b)).bind λe=>ck (R64 (b+1)) (a e (b+1)))else ck (R64 (b+1)) (a c (b+1))
def HR(N:Nat)(n:Int)(s:W4)(c:Int×Int×Y3)(b:Int)(a:W4->Int->Y1 (W4))(d:W4)(f:Y3):Y1 (W4):=if f=true then ck ((R64 (c.1+(b - max (-4) (min n 4))))) ((EQ N s (c.1+(b - max (-4) (min n 4)))).bind λe=>HQ N c b a d e)else HQ N c b a d false
def Br(N:Nat)(n:Int)(s:W4)(c:Int×Int×Y3):Nat->W4->Int->Y1 (W4)
  |0,_,_=>none
  |d+1,b,a=>if a<c.2.1 then ck (R64 (c.1+a)) ((BA N b (c.1+a)).bind λe=>ck (R64 (a - max (-4) (min n 4))) (if((a - max (-4) (min n 4)):Int)>=0 then HR N n s c a (Br N n s c d) e (decide (((a - max (-4) (min n 4)):Int)<c.2.1))else HR N n s c a (Br N n s c d) e false))else some b
def HE(N:Nat)(m:Ao)(a n:Int)(s:W4):Y1 (W4):=(GL N m a).bind λb=>if b.2.2=true then Br N n s b N s 0 else some s
theorem WS(N m g n s r)(a:HE N m g n s=some r)(P)(O:AC)(Y:Aa2 P O m):Does prog 254 #[vA (Ab m O),vI g,vI n,U s] P [] (pV (U r)):=by
 unfold HE at a
 refine Ak follows func254 Z 62 Z _ fz4 (λI=> ?_)
 refine Ad<|rA Z λb2=>rz Z<|Ad<|rm 2 [0] Z<|kB a λe J a=>gV _ (cF Xn) (λo w z_=>Oi N m g _ J z_.view O (Aa2.mono z_.ro_cell Y))<|rz Z<|Aa λK6 K=>AZ Z<|BS _ Z (λk=> ?_) (λk=> ?_)
 ·replace a:=ifn (Bool.eq_false_iff.1 (DG k)) a
  refine AZ Z ?_
  cases a
  exact aR eV1
 replace a:=ifp (DH k) a
 refine Ac<|K _ _ ?_
 refine Ad<|rn 1 Z<|r_W (vI (min n 4)) Z (wS Z Z)<|r_W (vI (max (-4) (min n 4))) Z (bo Z Z)<|rz Z<|AZ Z<|Aa λQ p=>AZ Z<|Ai<|BF [] (Sub.of (suC _ suN))<|AL (λtt ll nn=> ∃(d:Nat) (b:W4) (c:Int),(Br N n s e d b c=some r)/\Is [(2,vI (max (-4) (min n 4))),(3,U s),(9,vI e.1),(10,vI e.2.1),(12,U b),(29,vI e.2.1),(30,vI c)] [] tt ll/\nn=d+1) (N+1) ?_ ?_
 ·exact⟨N,s,0,a,Ag Z Z,Z⟩
 clear a;rintro t l _ ⟨d,b,c,a,⟨⟨T,rfl⟩,rfl⟩,rfl⟩
 rcases d with _|d
 ·exact absurd a (by simp [Br])
 rw [Br] at a
 refine AZ Z<|Aa λR q=>aD a Z (λu a=> ?_) (λu a=> ?_)
 ·refine Ac<|q _ _ ?_
  refine Aa λS h=>Ai<|AZ Z<|Ad<|rn 3 Z<|kC a λv a=>rX v Z<|kB a λf x a=>rc _ (cF Vw) (JK N b _ _ x)<|rz Z<|Ad<|rn 2 Z<|kC a λy a=>rX y Z<|rz Z<|Aa λV z=>Ah<|rn 3 Z<|AS 4 47 [(2,vI (max (-4) (min n 4))),(3,U s),(9,vI e.1),(10,vI e.2.1),(12,U f),(13,vI c),(14,vI (c - max (-4) (min n 4))),(29,vI e.2.1),(30,vI c)] vB (λb_=>HR N n s e c (Br N n s e d) f b_=some r) (λL a T=> ?_) (λA=> ?_)
  ·unfold HR at a
   refine rn 1 Z<|AS 6 54 [(2,vI (max (-4) (min n 4))),(3,U s),(9,vI e.1),(10,vI e.2.1),(12,U f),(13,vI c),(29,vI e.2.1),(30,vI c)] vB (λb_=>HQ N e c (Br N n s e d) f b_=some r) (λW a T=> ?_) (λA=> ?_)
   ·unfold HQ at a
    refine Aj<|z _ _ ?_
    refine aB a Z (λB a=> ?_) (λB a=> ?_)
    ·refine Ah<|rn 3 Z<|kC a λC a=>rX C Z<|kB a λM D a=>rc _ (cF Vx) (LK N f _ _ D)<|rz Z<|h _ _ ?_
     refine Ah<|kC a λE a=>rX E Z<|rz Z<|fg _ (Sub.of suN) ?_
     exact⟨d+1,by omega,d,M,(c+1),a,Ag Z Z,Z⟩
    refine Ac<|h _ _ ?_
    refine Ah<|kC a λF a=>rX F Z<|rz Z<|fg _ (Sub.of suN) ?_
    exact⟨d+1,by omega,d,f,(c+1),a,Ag Z Z,Z⟩
   rcases i:L with _|_
   ·replace a:=iB i a
    refine rn 6 Z ?_
    exact A _ _ a Z Z
   replace a:=ifp i a
   refine rn 3 Z<|r_y Z<|kC a λG a=>rX G Z<|r_y Z<|kB a λX H a=>rc _ (cF Xw) (Oo N s _ _ H)<|rn 1 Z ?_
   exact A _ _ a Z Z
  rcases j:(decide (((c - max (-4) (min n 4)):Int)>=0))with _|_
  ·replace a:=iF j a
   refine rn 4 Z ?_
   exact A _ _ a Z Z
  replace a:=iD j a
  refine rn 4 Z ?_
  exact A _ _ a Z Z
 refine AM<|p _ _ ?_
 refine AZ Z ?_
 cases a
 exact aR eV1
def Hp(N:Nat)(m:Ao)(x:Aa1)(s:W4):Y1 ((W4)×Int):=Aa1.on x (some (s,0)) (λ_ _=>some (s,0)) (λg _=>(Cq N s g).bind λi=>some (i,0)) (some (s,0)) (λ_ f _=>(EQ N s f).bind λj=>if j=true then some (s,0)else some (0#64,11)) (λd b=>(Nc N d b s).bind λk=>some (k,0)) (λc a e=>(KH N c a e).bind λl=>(HE N m a l s).bind λh=>some (h,0)) (λ_ _=>some (s,0)) (λ_ _=>some (s,0)) (λ_ _=>some (s,0)) (λ_ _=>some (s,0)) (λ_=>some (s,0))
theorem Us(N m x s r)(b:Hp N m x s=some r)(u)(t:AC)(H:Aa2 u t m):Does prog 230 #[vA (Ab m t),Aa1.v x,U s] u [] (pV (vT #[U r.1,vI r.2])):=by
 unfold Hp at b
 refine Ak follows func230 Z 45 Z _ fz3 (λp=> ?_)
 refine Ad<|rA Z λI=>rz Z<|Aa λJ d=>AZ Z<|Ai<|Aa λK c=>Ah ?_
 rcases Aa1.cases x with a|⟨x7_0,x8_1,a⟩|⟨x9_0,x10_1,a⟩|a|⟨x11_0,x12_1,x13_2,a⟩|⟨x14_0,x15_1,a⟩|⟨x16_0,x17_1,x18_2,a⟩|⟨x19_0,x20_1,a⟩|⟨x21_0,x22_1,a⟩|⟨x23_0,x24_1,a⟩|⟨x25_0,x26_1,a⟩|⟨x27_0,a⟩
 ·replace b:=Aa1.on_nil a b
  refine r_W (vT #[vA #[vI 0,vI 0,vI 0],vB false]) Z (AJ (congrArg Aa1.v a) Z) ?_
  refine rz Z<|c _ _ ?_
  refine Ch Z ?_
  refine Ad<|r_W (vT #[vA #[vI 0,vI 0],vB false]) Z (AJ (congrArg Aa1.v a) Z) ?_
  refine rz Z<|Ch Z ?_
  refine Ad<|r_W (vT #[vA #[vI 0,vI 0,vI 0],vB false]) Z (AJ (congrArg Aa1.v a) Z) ?_
  refine rz Z<|Ch Z ?_
  refine Ad<|r_W (vT #[vA #[vI 0,vI 0],vB false]) Z (AJ (congrArg Aa1.v a) Z) ?_
  refine rz Z<|Ch Z ?_
  refine Ac<|d _ _ ?_
  refine AZ Z ?_
  cases b
  exact aR eV2
 ·replace b:=Aa1.on_t322 a b
  refine r_W (vT #[vA #[vI 0,vI 0,vI 0],vB false]) Z (AJ (congrArg Aa1.v a) Z) ?_
  refine rz Z<|c _ _ ?_
  refine Ch Z ?_
  refine Ad<|r_W (vT #[vA #[vI 0,vI 0],vB false]) Z (AJ (congrArg Aa1.v a) Z) ?_
  refine rz Z<|Ch Z ?_
  refine Ad<|r_W (vT #[vA #[vI 0,vI 0,vI 0],vB false]) Z (AJ (congrArg Aa1.v a) Z) ?_
  refine rz Z<|Ch Z ?_
  refine Ad<|r_W (vT #[vA #[vI 0,vI 0],vB false]) Z (AJ (congrArg Aa1.v a) Z) ?_
  refine rz Z<|Ch Z ?_
  refine Ac<|d _ _ ?_
  refine AZ Z ?_
  cases b
  exact aR eV2
 ·replace b:=Aa1.on_t324 a b
  refine r_W (vT #[vA #[vI 0,vI 0,vI 0],vB false]) Z (AJ (congrArg Aa1.v a) Z) ?_
  refine rz Z<|c _ _ ?_
  refine Ch Z ?_
  refine Ad<|r_W (vT #[vA #[vI 0,vI 0],vB false]) Z (AJ (congrArg Aa1.v a) Z) ?_
  refine rz Z<|Ch Z ?_
  refine Ad<|r_W (vT #[vA #[vI 0,vI 0,vI 0],vB false]) Z (AJ (congrArg Aa1.v a) Z) ?_
  refine rz Z<|Ch Z ?_
  refine Ad<|r_W (vT #[vA #[vI x9_0,vI x10_1],vB true]) Z (AJ (congrArg Aa1.v a) Z) ?_
  refine rz Z<|JO Z ?_
  refine Ad<|rA Z λy=>ry [0] Z<|Ad<|rm 3 [0] Z<|kB b λz h b=>rc _ (cF Vx) (LK N s x9_0 _ h)<|rz Z ?_
  cases b
  exact aR eV2
 ·replace b:=Aa1.on_t326 a b
  refine r_W (vT #[vA #[vI 0,vI 0,vI 0],vB false]) Z (AJ (congrArg Aa1.v a) Z) ?_
  refine rz Z<|c _ _ ?_
  refine Ch Z ?_
  refine Ad<|r_W (vT #[vA #[vI 0,vI 0],vB false]) Z (AJ (congrArg Aa1.v a) Z) ?_
  refine rz Z<|Ch Z ?_
  refine Ad<|r_W (vT #[vA #[vI 0,vI 0,vI 0],vB false]) Z (AJ (congrArg Aa1.v a) Z) ?_
  refine rz Z<|Ch Z ?_
  refine Ad<|r_W (vT #[vA #[vI 0,vI 0],vB false]) Z (AJ (congrArg Aa1.v a) Z) ?_
  refine rz Z<|Ch Z ?_
  refine Ac<|d _ _ ?_
  refine AZ Z ?_
  cases b
  exact aR eV2
 ·replace b:=Aa1.on_t351 a b
  refine r_W (vT #[vA #[vI x11_0,vI x12_1,vI x13_2],vB true]) Z (AJ (congrArg Aa1.v a) Z) ?_
  refine rz Z<|c _ _ ?_
  refine JO Z ?_
  refine Ad<|rA Z λA=>ry [0] Z<|Ad<|rm 3 [0] Z<|kB b λB i b=>rc _ (cF Xw) (Oo N s x12_1 _ i)<|rz Z<|BS _ Z (λe=> ?_) (λe=> ?_)
  ·replace b:=ifn (Bool.eq_false_iff.1 (DG e)) b
   refine AZ Z ?_
   cases b
   exact aR eV2
  replace b:=ifp (DH e) b
  refine Ac<|d _ _ ?_
  refine AZ Z ?_
  cases b
  exact aR eV2
 ·replace b:=Aa1.on_t353 a b
  refine r_W (vT #[vA #[vI 0,vI 0,vI 0],vB false]) Z (AJ (congrArg Aa1.v a) Z) ?_
  refine rz Z<|c _ _ ?_
  refine Ch Z ?_
  refine Ad<|r_W (vT #[vA #[vI x14_0,vI x15_1],vB true]) Z (AJ (congrArg Aa1.v a) Z) ?_
  refine rz Z<|JO Z ?_
  refine Ad<|rA Z λC=>ry [0] Z<|Ad<|rm 2 [0] Z<|kB b λD j b=>rc _ (cF oD) (YL N x14_0 x15_1 s _ j)<|rz Z ?_
  cases b
  exact aR eV2
 ·replace b:=Aa1.on_t356 a b
  refine r_W (vT #[vA #[vI 0,vI 0,vI 0],vB false]) Z (AJ (congrArg Aa1.v a) Z) ?_
  refine rz Z<|c _ _ ?_
  refine Ch Z ?_
  refine Ad<|r_W (vT #[vA #[vI 0,vI 0],vB false]) Z (AJ (congrArg Aa1.v a) Z) ?_
  refine rz Z<|Ch Z ?_
  refine Ad<|r_W (vT #[vA #[vI x16_0,vI x17_1,vI x18_2],vB true]) Z (AJ (congrArg Aa1.v a) Z) ?_
  refine rz Z<|JO Z ?_
  refine Ad<|rA Z λE=>ry [0] Z<|Aa λF k=>BO [(some 36,false)] (conG prog [(36,λ_ _ v_ L_ U_=> ∀l,KH N x16_0 x17_1 x18_2=some l-> ∀n,HE N m x17_1 l s=some n->(pV (U n)) v_ L_ U_)]) [] (by decide+kernel) (λL=>AN)<|rm 4 [1,0,0] Z<|kB b λq f b=>rc _ (cF oA) (gb N x16_0 x17_1 x18_2 _ f)<|rn 1 Z<|kB b λG g b=>rg _ (cF oC) (λo w z_=>WS N m x17_1 q s _ g z_.view t (Aa2.mono z_.ro_cell H)) (λ_ _ v_ L_ U_=>⟨λh_=>h_ _ f _ g,λh_=>by intro _ e_;cases q3 (e_.symm.trans f);intro _ e_;cases q3 (e_.symm.trans g);exact h_⟩) ?_
  refine rz Z<|k _ _ ?_
  cases b
  exact aR eV2
 ·replace b:=Aa1.on_t374 a b
  refine r_W (vT #[vA #[vI 0,vI 0,vI 0],vB false]) Z (AJ (congrArg Aa1.v a) Z) ?_
  refine rz Z<|c _ _ ?_
  refine Ch Z ?_
  refine Ad<|r_W (vT #[vA #[vI 0,vI 0],vB false]) Z (AJ (congrArg Aa1.v a) Z) ?_
  refine rz Z<|Ch Z ?_
  refine Ad<|r_W (vT #[vA #[vI 0,vI 0,vI 0],vB false]) Z (AJ (congrArg Aa1.v a) Z) ?_
  refine rz Z<|Ch Z ?_
  refine Ad<|r_W (vT #[vA #[vI 0,vI 0],vB false]) Z (AJ (congrArg Aa1.v a) Z) ?_
  refine rz Z<|Ch Z ?_
  refine Ac<|d _ _ ?_
  refine AZ Z ?_
  cases b
  exact aR eV2
 ·replace b:=Aa1.on_t375 a b
  refine r_W (vT #[vA #[vI 0,vI 0,vI 0],vB false]) Z (AJ (congrArg Aa1.v a) Z) ?_
  refine rz Z<|c _ _ ?_
  refine Ch Z ?_
  refine Ad<|r_W (vT #[vA #[vI 0,vI 0],vB false]) Z (AJ (congrArg Aa1.v a) Z) ?_
  refine rz Z<|Ch Z ?_
  refine Ad<|r_W (vT #[vA #[vI 0,vI 0,vI 0],vB false]) Z (AJ (congrArg Aa1.v a) Z) ?_
  refine rz Z<|Ch Z ?_
  refine Ad<|r_W (vT #[vA #[vI 0,vI 0],vB false]) Z (AJ (congrArg Aa1.v a) Z) ?_
  refine rz Z<|Ch Z ?_
  refine Ac<|d _ _ ?_
  refine AZ Z ?_
  cases b
  exact aR eV2
 ·replace b:=Aa1.on_t376 a b
  refine r_W (vT #[vA #[vI 0,vI 0,vI 0],vB false]) Z (AJ (congrArg Aa1.v a) Z) ?_
  refine rz Z<|c _ _ ?_
  refine Ch Z ?_
  refine Ad<|r_W (vT #[vA #[vI 0,vI 0],vB false]) Z (AJ (congrArg Aa1.v a) Z) ?_
  refine rz Z<|Ch Z ?_
  refine Ad<|r_W (vT #[vA #[vI 0,vI 0,vI 0],vB false]) Z (AJ (congrArg Aa1.v a) Z) ?_
  refine rz Z<|Ch Z ?_
  refine Ad<|r_W (vT #[vA #[vI 0,vI 0],vB false]) Z (AJ (congrArg Aa1.v a) Z) ?_
  refine rz Z<|Ch Z ?_
  refine Ac<|d _ _ ?_
  refine AZ Z ?_
  cases b
  exact aR eV2
 ·replace b:=Aa1.on_t378 a b
  refine r_W (vT #[vA #[vI 0,vI 0,vI 0],vB false]) Z (AJ (congrArg Aa1.v a) Z) ?_
  refine rz Z<|c _ _ ?_
  refine Ch Z ?_
  refine Ad<|r_W (vT #[vA #[vI 0,vI 0],vB false]) Z (AJ (congrArg Aa1.v a) Z) ?_
  refine rz Z<|Ch Z ?_
  refine Ad<|r_W (vT #[vA #[vI 0,vI 0,vI 0],vB false]) Z (AJ (congrArg Aa1.v a) Z) ?_
  refine rz Z<|Ch Z ?_
  refine Ad<|r_W (vT #[vA #[vI 0,vI 0],vB false]) Z (AJ (congrArg Aa1.v a) Z) ?_
  refine rz Z<|Ch Z ?_
  refine Ac<|d _ _ ?_
  refine AZ Z ?_
  cases b
  exact aR eV2
 replace b:=Aa1.on_t380 a b
 refine r_W (vT #[vA #[vI 0,vI 0,vI 0],vB false]) Z (AJ (congrArg Aa1.v a) Z) ?_
 refine rz Z<|c _ _ ?_
 refine Ch Z ?_
 refine Ad<|r_W (vT #[vA #[vI 0,vI 0],vB false]) Z (AJ (congrArg Aa1.v a) Z) ?_
 refine rz Z<|Ch Z ?_
 refine Ad<|r_W (vT #[vA #[vI 0,vI 0,vI 0],vB false]) Z (AJ (congrArg Aa1.v a) Z) ?_
 refine rz Z<|Ch Z ?_
 refine Ad<|r_W (vT #[vA #[vI 0,vI 0],vB false]) Z (AJ (congrArg Aa1.v a) Z) ?_
 refine rz Z<|Ch Z ?_
 refine Ac<|d _ _ ?_
 refine AZ Z ?_
 cases b
 exact aR eV2
def Aq(N:Nat)(e:Ao)(d:(W4)×Int)(a:Int)(b:Y0 (Y3×W4)):Y1 (Int×(Y0 (Y3×W4))):=(AT N e b a d.1).bind λc=>ck ((c).length=(b).length) (some (0,c))
def Ce(N:Nat)(d:Ao)(a:Y0 (Y3×W4))(b:Int)(x:Aa1):Y1 (Int×(Y0 (Y3×W4))):=ck (0<=b/\b<(a.length:Int)) (if((a[b.toNat]!).1)=true then(Hp N d x ((a[b.toNat]!).2)).bind λc=>if(c.2:Int)≠0 then some (c.2,a)else ck (R64 (b+1)) (Aa1.on x (Aq N d c (b+1) a) (λf h=>(AT N d a h c.1).bind λe=>ck ((e).length=(a).length) (if f=31 then some (0,e)else Aq N d c (b+1) e)) (λi g=>(BA N ((a[b.toNat]!).2) i).bind λe=>(AT N d a g e).bind λj=>ck ((j).length=(a).length) (Aq N d c (b+1) j)) (ck ((R64 ((a.length:Int) - 1))) (Aq N d c ((a.length:Int) - 1) a)) (λ_ _ _=>Aq N d c (b+1) a) (λ_ _=>Aq N d c (b+1) a) (λ_ _ _=>Aq N d c (b+1) a) (λ_ _=>Aq N d c (b+1) a) (λ_ _=>Aq N d c (b+1) a) (λ_ _=>Aq N d c (b+1) a) (λ_ _=>Aq N d c (b+1) a) (λ_=>Aq N d c (b+1) a))else some (0,a))
theorem QS(N g c e x r)(h:Ce N g c e x=some r)(ro)(b:AC)(A:Aa2 ro b g)(f:Y2)(d:Y0 Bl)(i:Sl 279 LM f c d):Does prog 184 #[vA #[vS g.1,b.1,b.2.1,b.2.2.1,b.2.2.2.1,b.2.2.2.2.1,b.2.2.2.2.2.1,b.2.2.2.2.2.2.1,b.2.2.2.2.2.2.2.1,(D8 b).1,(D8 b).2.1,(D8 b).2.2.1,(D8 b).2.2.2.1,(D8 b).2.2.2.2.1,(D8 b).2.2.2.2.2,vI (D8 g).2.2.2.2.2.2.2.1,vI (D16 g).1,vI (D16 g).2,f],vI e,Aa1.v x] ro (V2 [d]) (pO (V2 [d]) (oI 279 LM f r.2 (oE (vI r.1) []))):=by
 unfold Ce at h
 refine BZ follows func184 Z 71 Z _ fz3 (λ_ _ h_ _=>h_) (λab=> ?_)
 refine Ad<|rA Z λm=>rz Z<|Ad<|rm 3 [0] Z<|kC h λJ h=>rI (W7 i) J Z ?_
 refine rE (AB i (Al (Ls:=[(BR m g b f),d]) (k:=1) Z Z)) J 0 Z ?_
 refine rA Z λp=>ry [0] Z ?_
 refine Aa λK6 ad=>AY [0] Z<|BS _ Z (λG=> ?_) (λG=> ?_)
 ·replace h:=ifn (Bool.eq_false_iff.1 (DG G)) h
  refine AZ Z ?_
  cases h
  refine AU (λhn=>CI (v0:=vI 0) (O:=[d]) (Gl Z) (W5 [(EP p ((c[e.toNat]!).1) ((c[e.toNat]!).2)),(BR m g b f),d] [2] Z) ⟨d,_,i,⟨Z,Z⟩,Z⟩)
 replace h:=ifp (DH G) h
 refine Ac<|ad _ _ ?_
 refine Ad<|rm 5 [1,0] Z<|kB h λu K h=>gV _ (cF oZ) (λo w z_=>Us N g x _ _ K z_.view b (Aa2.mono z_.ro_cell A))<|rz Z<|Aa λal L=>AZ Z<|aN h Z (λM h=> ?_) (λM h=> ?_)
 ·refine AZ Z<|CJ [(6,vI u.2)] Z (λT=> ?_)
  cases h
  refine AU (λhn=>CI (v0:=vI u.2) (O:=[d]) (Gl Z) (W5 [(EP p ((c[e.toNat]!).1) ((c[e.toNat]!).2)),(BR m g b f),d] [2] Z) ⟨d,_,i,⟨Z,Z⟩,Z⟩)
 refine Ac<|L _ _ ?_
 refine Ad<|rn 1 Z<|kC h λP h=>rX P Z<|rz Z ?_
 refine Cs (λtt ll=> ∃(q:Int) (z:Y0 (Y3×W4)),(Aq N g u q z=some r)/\ ∃(n:Y0 Bl),Sl 279 LM f z n/\Is [(3,vP m 0),(8,U u.1),(10,vI q)] (V2 [(BR m g b f),n]) tt ll) ?_ ?_
 ·refine AZ Z<|CJ [(3,vP m 0),(7,vP p 0),(8,U u.1),(10,vI (e+1)),(36,Aa1.v x)] Z (λT=> ?_)
  refine Ai<|Aa λam j=>Ah ?_
  rcases Aa1.cases x with a|⟨x29_0,x30_1,a⟩|⟨x31_0,x32_1,a⟩|a|⟨x33_0,x34_1,x35_2,a⟩|⟨x36_0,x37_1,a⟩|⟨x38_0,x39_1,x40_2,a⟩|⟨x41_0,x42_1,a⟩|⟨x43_0,x44_1,a⟩|⟨x45_0,x46_1,a⟩|⟨x47_0,x48_1,a⟩|⟨x49_0,a⟩
  ·replace h:=Aa1.on_nil a h
   refine r_W (vT #[vA #[vI 0,vI 0],vB false]) Z (AJ (congrArg Aa1.v a) Z) ?_
   refine rz Z<|j _ _ ?_
   refine Ch Z ?_
   refine Ad<|r_W (vT #[vA #[vI 0,vI 0],vB false]) Z (AJ (congrArg Aa1.v a) Z) ?_
   refine rz Z<|Ch Z ?_
   refine Ad<|r_W (vT #[vA #[],vB false]) Z (AJ (congrArg Aa1.v a) Z) ?_
   refine rz Z<|Ch Z ?_
   refine Ac<|fg _ (W5 [(EP p ((c[e.toNat]!).1) ((c[e.toNat]!).2)),(BR m g b f),d] [1,2] Z) ?_
   exact⟨(e+1),c,h,d,i,Ag Z Z⟩
  ·replace h:=Aa1.on_t322 a h
   refine r_W (vT #[vA #[vI x29_0,vI x30_1],vB true]) Z (AJ (congrArg Aa1.v a) Z) ?_
   refine rz Z<|j _ _ ?_
   refine JO Z ?_
   refine Ad<|rA Z λB=>ry [0] Z<|Ad ?_
   refine rm 4 [2,0] Z<|kB h λH s h=>kC h λai h=>gM (Ls:=[(PK B x29_0 x30_1),(EP p ((c[e.toNat]!).1) ((c[e.toNat]!).2)),(BR m g b f),d]) (FL:=[d]) [3] (cF TJ) (λo w hn_ z_=>HW N g c x30_1 u.1 _ s _ b (Aa2.mono (Fw (Ls:=[(PK B x29_0 x30_1),(EP p ((c[e.toNat]!).1) ((c[e.toNat]!).2)),(BR m g b f),d]) (is:=[3]) Z z_) A) f d i) ?_
   rintro _ _ ⟨y,_,Q,⟨rfl,rfl⟩,rfl⟩
   refine AK (Ls:=[(PK B x29_0 x30_1),(EP p ((c[e.toNat]!).1) ((c[e.toNat]!).2)),(BR m g b f),y]) (Ls':=[(PK B x29_0 x30_1),(EP p ((c[e.toNat]!).1) ((c[e.toNat]!).2)),(BR m g b f),y]) [0,1,2,3] Z Z ?_
   refine Aj<|AY [0] Z<|aE h Z (λS h=> ?_) (λS h=> ?_)
   ·refine AZ Z ?_
    cases h
    refine AU (λhn=>CI (v0:=vI 0) (O:=[y]) (Gl Z) (W5 [(PK B x29_0 x30_1),(EP p ((c[e.toNat]!).1) ((c[e.toNat]!).2)),(BR m g b f),y] [3] Z) ⟨y,_,Q,⟨Z,Z⟩,Z⟩)
   refine Ac<|fg _ (W5 [(PK B x29_0 x30_1),(EP p ((c[e.toNat]!).1) ((c[e.toNat]!).2)),(BR m g b f),y] [2,3] Z) ?_
   exact⟨(e+1),H,h,y,Q,Ag Z Z⟩
  ·replace h:=Aa1.on_t324 a h
   refine r_W (vT #[vA #[vI 0,vI 0],vB false]) Z (AJ (congrArg Aa1.v a) Z) ?_
   refine rz Z<|j _ _ ?_
   refine Ch Z ?_
   refine Ad<|r_W (vT #[vA #[vI x31_0,vI x32_1],vB true]) Z (AJ (congrArg Aa1.v a) Z) ?_
   refine rz Z<|JO Z ?_
   refine Ad<|rA Z λC=>ry [0] Z ?_
   refine BO [(some 59,true)] (conG prog [(59,λ_ _ v_ L_ U_=> ∀V,BA N ((c[e.toNat]!).2) x31_0=some V-> ∀W,AT N g c x32_1 V=some W->(pO (V2 [d]) (oI 279 LM f W (oE (vT #[]) []))) v_ L_ U_)]) [] (by decide+kernel) (λhn=>AN) ?_
   refine rm 6 [2,0,1] Z ?_
   refine rm 1 [0] Z<|kB h λH s h=>rc _ (cF Vw) (JK N _ x31_0 _ s)<|kB h λae D h=>kC h λX h=>ci (Ls:=[(Rp C x31_0 x32_1),(EP p ((c[e.toNat]!).1) ((c[e.toNat]!).2)),(BR m g b f),d]) (FL:=[d]) [3] _ (some 59) 183 _ Z Z Z Z Z (cF TJ) (λo w hn_ z_=>HW N g c x32_1 H _ D _ b (Aa2.mono (Fw (Ls:=[(Rp C x31_0 x32_1),(EP p ((c[e.toNat]!).1) ((c[e.toNat]!).2)),(BR m g b f),d]) (is:=[3]) Z z_) A) f d i) (λ_ _ v_ L_ U_=>⟨λh_=>h_ _ s _ D,λh_=>by intro _ e_;cases q3 (e_.symm.trans s);intro _ e_;cases q3 (e_.symm.trans D);exact h_⟩) (λ_=>(Ac2.sub (R:=(d++ [])) (vc i X (Oe Z)) (W5 [d] [0] Z))) ?_
   rintro _ _ ⟨F,_,af,⟨rfl,rfl⟩,rfl⟩
   refine AK (Ls:=[(Rp C x31_0 x32_1),(EP p ((c[e.toNat]!).1) ((c[e.toNat]!).2)),(BR m g b f),F]) (Ls':=[(Rp C x31_0 x32_1),(EP p ((c[e.toNat]!).1) ((c[e.toNat]!).2)),(BR m g b f),F]) [0,1,2,3] Z Z ?_
   refine Aj<|fg _ (W5 [(Rp C x31_0 x32_1),(EP p ((c[e.toNat]!).1) ((c[e.toNat]!).2)),(BR m g b f),F] [2,3] Z) ?_
   exact⟨(e+1),ae,h,F,af,Ag Z Z⟩
  ·replace h:=Aa1.on_t326 a h
   refine r_W (vT #[vA #[vI 0,vI 0],vB false]) Z (AJ (congrArg Aa1.v a) Z) ?_
   refine rz Z<|j _ _ ?_
   refine Ch Z ?_
   refine Ad<|r_W (vT #[vA #[vI 0,vI 0],vB false]) Z (AJ (congrArg Aa1.v a) Z) ?_
   refine rz Z<|Ch Z ?_
   refine Ad<|r_W (vT #[vA #[],vB true]) Z (AJ (congrArg Aa1.v a) Z) ?_
   refine rz Z<|JO Z ?_
   refine Ad<|rA Z λag=>ry [0] Z<|Ah<|rn 1 Z ?_
   refine rm 1 [2] Z<|rL (W7 i) Z<|kC h λY h=>rX Y Z<|rz Z ?_
   refine fg _ (W5 [(mQ ag),(EP p ((c[e.toNat]!).1) ((c[e.toNat]!).2)),(BR m g b f),d] [2,3] Z) ?_
   exact⟨((c.length:Int) - 1),c,h,d,i,Ag Z Z⟩
  ·replace h:=Aa1.on_t351 a h
   refine r_W (vT #[vA #[vI 0,vI 0],vB false]) Z (AJ (congrArg Aa1.v a) Z) ?_
   refine rz Z<|j _ _ ?_
   refine Ch Z ?_
   refine Ad<|r_W (vT #[vA #[vI 0,vI 0],vB false]) Z (AJ (congrArg Aa1.v a) Z) ?_
   refine rz Z<|Ch Z ?_
   refine Ad<|r_W (vT #[vA #[],vB false]) Z (AJ (congrArg Aa1.v a) Z) ?_
   refine rz Z<|Ch Z ?_
   refine Ac<|fg _ (W5 [(EP p ((c[e.toNat]!).1) ((c[e.toNat]!).2)),(BR m g b f),d] [1,2] Z) ?_
   exact⟨(e+1),c,h,d,i,Ag Z Z⟩
  ·replace h:=Aa1.on_t353 a h
   refine r_W (vT #[vA #[vI 0,vI 0],vB false]) Z (AJ (congrArg Aa1.v a) Z) ?_
   refine rz Z<|j _ _ ?_
   refine Ch Z ?_
   refine Ad<|r_W (vT #[vA #[vI 0,vI 0],vB false]) Z (AJ (congrArg Aa1.v a) Z) ?_
   refine rz Z<|Ch Z ?_
   refine Ad<|r_W (vT #[vA #[],vB false]) Z (AJ (congrArg Aa1.v a) Z) ?_
   refine rz Z<|Ch Z ?_
   refine Ac<|fg _ (W5 [(EP p ((c[e.toNat]!).1) ((c[e.toNat]!).2)),(BR m g b f),d] [1,2] Z) ?_
   exact⟨(e+1),c,h,d,i,Ag Z Z⟩
  ·replace h:=Aa1.on_t356 a h
   refine r_W (vT #[vA #[vI 0,vI 0],vB false]) Z (AJ (congrArg Aa1.v a) Z) ?_
   refine rz Z<|j _ _ ?_
   refine Ch Z ?_
   refine Ad<|r_W (vT #[vA #[vI 0,vI 0],vB false]) Z (AJ (congrArg Aa1.v a) Z) ?_
   refine rz Z<|Ch Z ?_
   refine Ad<|r_W (vT #[vA #[],vB false]) Z (AJ (congrArg Aa1.v a) Z) ?_
   refine rz Z<|Ch Z ?_
   refine Ac<|fg _ (W5 [(EP p ((c[e.toNat]!).1) ((c[e.toNat]!).2)),(BR m g b f),d] [1,2] Z) ?_
   exact⟨(e+1),c,h,d,i,Ag Z Z⟩
  ·replace h:=Aa1.on_t374 a h
   refine r_W (vT #[vA #[vI 0,vI 0],vB false]) Z (AJ (congrArg Aa1.v a) Z) ?_
   refine rz Z<|j _ _ ?_
   refine Ch Z ?_
   refine Ad<|r_W (vT #[vA #[vI 0,vI 0],vB false]) Z (AJ (congrArg Aa1.v a) Z) ?_
   refine rz Z<|Ch Z ?_
   refine Ad<|r_W (vT #[vA #[],vB false]) Z (AJ (congrArg Aa1.v a) Z) ?_
   refine rz Z<|Ch Z ?_
   refine Ac<|fg _ (W5 [(EP p ((c[e.toNat]!).1) ((c[e.toNat]!).2)),(BR m g b f),d] [1,2] Z) ?_
   exact⟨(e+1),c,h,d,i,Ag Z Z⟩
  ·replace h:=Aa1.on_t375 a h
   refine r_W (vT #[vA #[vI 0,vI 0],vB false]) Z (AJ (congrArg Aa1.v a) Z) ?_
   refine rz Z<|j _ _ ?_
   refine Ch Z ?_
   refine Ad<|r_W (vT #[vA #[vI 0,vI 0],vB false]) Z (AJ (congrArg Aa1.v a) Z) ?_
   refine rz Z<|Ch Z ?_
   refine Ad<|r_W (vT #[vA #[],vB false]) Z (AJ (congrArg Aa1.v a) Z) ?_
   refine rz Z<|Ch Z ?_
   refine Ac<|fg _ (W5 [(EP p ((c[e.toNat]!).1) ((c[e.toNat]!).2)),(BR m g b f),d] [1,2] Z) ?_
   exact⟨(e+1),c,h,d,i,Ag Z Z⟩
  ·replace h:=Aa1.on_t376 a h
   refine r_W (vT #[vA #[vI 0,vI 0],vB false]) Z (AJ (congrArg Aa1.v a) Z) ?_
   refine rz Z<|j _ _ ?_
   refine Ch Z ?_
   refine Ad<|r_W (vT #[vA #[vI 0,vI 0],vB false]) Z (AJ (congrArg Aa1.v a) Z) ?_
   refine rz Z<|Ch Z ?_
   refine Ad<|r_W (vT #[vA #[],vB false]) Z (AJ (congrArg Aa1.v a) Z) ?_
   refine rz Z<|Ch Z ?_
   refine Ac<|fg _ (W5 [(EP p ((c[e.toNat]!).1) ((c[e.toNat]!).2)),(BR m g b f),d] [1,2] Z) ?_
   exact⟨(e+1),c,h,d,i,Ag Z Z⟩
  ·replace h:=Aa1.on_t378 a h
   refine r_W (vT #[vA #[vI 0,vI 0],vB false]) Z (AJ (congrArg Aa1.v a) Z) ?_
   refine rz Z<|j _ _ ?_
   refine Ch Z ?_
   refine Ad<|r_W (vT #[vA #[vI 0,vI 0],vB false]) Z (AJ (congrArg Aa1.v a) Z) ?_
   refine rz Z<|Ch Z ?_
   refine Ad<|r_W (vT #[vA #[],vB false]) Z (AJ (congrArg Aa1.v a) Z) ?_
   refine rz Z<|Ch Z ?_
   refine Ac<|fg _ (W5 [(EP p ((c[e.toNat]!).1) ((c[e.toNat]!).2)),(BR m g b f),d] [1,2] Z) ?_
   exact⟨(e+1),c,h,d,i,Ag Z Z⟩
  replace h:=Aa1.on_t380 a h
  refine r_W (vT #[vA #[vI 0,vI 0],vB false]) Z (AJ (congrArg Aa1.v a) Z) ?_
  refine rz Z<|j _ _ ?_
  refine Ch Z ?_
  refine Ad<|r_W (vT #[vA #[vI 0,vI 0],vB false]) Z (AJ (congrArg Aa1.v a) Z) ?_
  refine rz Z<|Ch Z ?_
  refine Ad<|r_W (vT #[vA #[],vB false]) Z (AJ (congrArg Aa1.v a) Z) ?_
  refine rz Z<|Ch Z ?_
  refine Ac<|fg _ (W5 [(EP p ((c[e.toNat]!).1) ((c[e.toNat]!).2)),(BR m g b f),d] [1,2] Z) ?_
  exact⟨(e+1),c,h,d,i,Ag Z Z⟩
 clear h;rintro t l ⟨q,z,h,n,I,⟨T,rfl⟩,rfl⟩
 unfold Aq at h
 refine Ad<|rm 3 [0] Z<|kB h λan aa h=>kC h λaj h=>gM (Ls:=[(BR m g b f),n]) (FL:=[n]) [1] (cF TJ) (λo w hn_ z_=>HW N g z q u.1 _ aa _ b (Aa2.mono (Fw (Ls:=[(BR m g b f),n]) (is:=[1]) Z z_) A) f n I) ?_
 rintro _ _ ⟨E,_,ah,⟨rfl,rfl⟩,rfl⟩
 refine AK (Ls:=[(BR m g b f),E]) (Ls':=[(BR m g b f),E]) [0,1] Z Z ?_
 refine Aj<|AZ Z ?_
 cases h
 refine AU (λhn=>CI (v0:=vI 0) (O:=[E]) (Gl Z) (W5 [(BR m g b f),E] [1] Z) ⟨E,_,ah,⟨Z,Z⟩,Z⟩)
end Go.Proofs.YtjnanfkpdhmnpaaGreatDoor
