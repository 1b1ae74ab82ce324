import Derived.Test.YtjnanfkpdhmnpaaGreatDoorBd
namespace Go.Proofs.YtjnanfkpdhmnpaaGreatDoor
open Go Go.RowKit Go.Eng _root_.Go.Proofs.Tryz
set_option linter.unusedSimpArgs false
set_option linter.unusedVariables false
set_option maxRecDepth 100000
set_option maxHeartbeats 80000000
abbrev D16{a1 a2 a3 a4 a5 a6 a7 a8 a9 a10 a11 a12 a13 a14 a15 a16 a17:Type}(x:a1×a2×a3×a4×a5×a6×a7×a8×a9×a10×a11×a12×a13×a14×a15×a16×a17):a17:=x.2.2.2.2.2.2.2.2.2.2.2.2.2.2.2.2
abbrev To(b:Nat)(x0 x1 x2 x3 x4 x5 x6 x7 x8 x9 x10 x11 x12 x13 x14:Y2)(x15 x16 x17:Int):Y0 Bl:=[(b,35, #[x0,x1,x2,x3,x4,x5,x6,x7,x8,x9,x10,x11,x12,x13,x14,vI x15,vI x16,vI x17])]
abbrev aJ(b:Nat)(x0:W2)(x1:Y2)(x2 x3 x4 x5:Int):Y0 Bl:=[(b,97, #[vS x0,x1,vI x2,vI x3,vI x4,vI x5])]
abbrev iC(b:Nat)(x0:Y2):Y0 Bl:=[(b,24, #[x0])]
abbrev As(b:Nat)(x0 x1:Y2):Y0 Bl:=[(b,335, #[x0,x1])]
def Cm(N:Nat)(m:Ao):Nat->Int->Y1 (Int×Int×Int)
  |0,_=>none
  |c+1,a=>if a<15 then(Gx N m a).bind λb=>if(b.2:Int)≠0 then some (a,b.1,b.2)else ck (R64 (a+1)) ((Cm N m c) (a+1))else some (0,0,0)
def HG(N:Nat)(m:Ao):Y1 (Int×Int×Int):=Cm N m N 0
theorem Pz(N m r)(a:HG N m=some r)(q)(h:AC)(u:Aa2 q h m):Does prog 8 #[vA (Ab m h)] q [] (pV (vT #[vI r.1,vI r.2.1,vI r.2.2])):=by
 unfold HG at a
 refine Ak follows func8 Z 23 Z _ fz1 (λg=> ?_)
 refine Ad<|rA Z λp=>rz Z<|Aa λv i=>AZ Z<|Ai<|AL (λtt ll nn=> ∃(c:Nat) (b:Int),(Cm N m c b=some r)/\Is [(1,vP p 0),(5,vI b)] [(p,35,(Ab m h))] tt ll/\nn=c+1) (N+1) ?_ ?_
 ·exact⟨N,0,a,Ag Z Z,Z⟩
 clear a;rintro t l _ ⟨c,b,a,⟨⟨T,rfl⟩,rfl⟩,rfl⟩
 rcases c with _|c
 ·exact absurd a (by simp [Cm])
 rw [Cm] at a
 refine Aa λx j=>AZ Z<|aD a Z (λk a=> ?_) (λk a=> ?_)
 ·refine Ac<|j _ _ ?_
  refine Aa λy n=>Ai<|Ad<|rm 2 [0] Z<|kB a λs d a=>gV _ (cF uD) (λo w z_=>Qf N m b _ d z_.view h (Aa2.mono z_.ro_cell u))<|rz Z<|AZ Z<|aN a Z (λe a=> ?_) (λe a=> ?_)
  ·refine AZ Z ?_
   cases a
   exact aR eV3
  refine Ac<|n _ _ ?_
  refine Ah<|rn 1 Z<|kC a λf a=>rX f Z<|rz Z<|fg _ (Sub.of (suK _ suN)) ?_
  exact⟨c+1,by omega,c,(b+1),a,Ag Z Z,Z⟩
 refine AM<|i _ _ ?_
 refine AZ Z ?_
 cases a
 exact aR eV3
def Gk(N:Nat)(m:Ao):Y1 Y3:=ck ((R64 ((m.2.1.length:Int)+(m.2.2.1.length:Int)))) (ck ((R64 (((m.2.1.length:Int)+(m.2.2.1.length:Int))+(m.2.2.2.2.1.length:Int)))) (ck ((R64 ((((m.2.1.length:Int)+(m.2.2.1.length:Int))+(m.2.2.2.2.1.length:Int))+(m.2.2.2.2.2.1.length:Int)))) (ck ((R64 (((((m.2.1.length:Int)+(m.2.2.1.length:Int))+(m.2.2.2.2.1.length:Int))+(m.2.2.2.2.2.1.length:Int))+(m.2.2.2.2.2.2.1.length:Int)))) (ck ((R64 ((((((m.2.1.length:Int)+(m.2.2.1.length:Int))+(m.2.2.2.2.1.length:Int))+(m.2.2.2.2.2.1.length:Int))+(m.2.2.2.2.2.2.1.length:Int))+(m.2.2.2.2.2.2.2.1.length:Int)))) (ck ((R64 (((((((m.2.1.length:Int)+(m.2.2.1.length:Int))+(m.2.2.2.2.1.length:Int))+(m.2.2.2.2.2.1.length:Int))+(m.2.2.2.2.2.2.1.length:Int))+(m.2.2.2.2.2.2.2.1.length:Int))+(m.2.2.2.2.2.2.2.2.1.length:Int)))) (if((((((((m.2.1.length:Int)+(m.2.2.1.length:Int))+(m.2.2.2.2.1.length:Int))+(m.2.2.2.2.2.1.length:Int))+(m.2.2.2.2.2.2.1.length:Int))+(m.2.2.2.2.2.2.2.1.length:Int))+(m.2.2.2.2.2.2.2.2.1.length:Int)):Int)>150 then some false else(HG N m).bind λa=>some (a.2.2==0)))))))
theorem PA(N m r)(a:Gk N m=some r)(p)(n:AC)(b:Aa2 p n m):Does prog 4 #[vA (Ab m n)] p [] (pV (vB r)):=by
 unfold Gk at a
 refine Ak follows func4 Z 42 Z _ fz1 (λf=> ?_)
 refine Ad<|rA Z λq=>rz Z<|Aa λt g=>Ad<|rm 2 [0] Z<|rL (W9 b.1) Z<|rm 2 [0] Z<|rL (W8 b.2.1) Z<|kC a λh a=>rX h Z<|rm 2 [0] Z<|rL (W9 b.2.2.2.1) Z<|kC a λi a=>rX i Z<|rm 2 [0] Z<|rL (W9 b.2.2.2.2.1) Z<|kC a λj a=>rX j Z<|rm 2 [0] Z<|rL (W9 b.2.2.2.2.2.1) Z<|kC a λk a=>rX k Z<|rm 2 [0] Z<|rL (W9 b.2.2.2.2.2.2.1) Z<|kC a λl a=>rX l Z<|rm 2 [0] Z<|rL (W9 b.2.2.2.2.2.2.2.1) Z<|kC a λc a=>rX c Z<|rz Z ?_
 refine CJ [(1,vP q 0),(33,vB (decide (((((((((m.2.1.length:Int)+(m.2.2.1.length:Int))+(m.2.2.2.2.1.length:Int))+(m.2.2.2.2.2.1.length:Int))+(m.2.2.2.2.2.2.1.length:Int))+(m.2.2.2.2.2.2.2.1.length:Int))+((D8 m).1.length:Int)):Int)>150)))] Z (λT=> ?_)
 refine aD a Z (λd a=> ?_) (λd a=> ?_)
 ·refine AZ Z ?_
  cases a
  exact aR eV1
 refine Ac<|g _ _ ?_
 refine Ad<|rm 1 [0] Z<|kB a λs e a=>gV _ (cF xb) (λo w z_=>Pz N m _ e z_.view n (Aa2.mono z_.ro_cell b))<|rz Z<|AZ Z ?_
 cases a
 exact aR eV1
abbrev QA:EncO (Int×Int×(Y0 (W1))×(Y0 (Int×W3))×Int×Int):=(KI (Nm Ca) (KI (Nm Ca) (KI (QK 209 Ad5) (KI (QK 200 Ac6) (KI (Nm Ca) (Nm Ca))))))
abbrev Ty:EncO ((W2)×Int×(Y0 (Int×Int×Int))×(Y0 Int)×Int×(Y0 (Int×W3))×Int):=(KI (Nm Aa4) (KI (Nm Ca) (KI (QK 184 Ac9) (KI (QK 3 Ca) (KI (Nm Ca) (KI (QK 200 Ac6) (Nm Ca)))))))
abbrev Tx:EncO ((W2)×(Y0 Int)×(Y0 (W1))):=(KI (Nm Aa4) (KI (QK 3 Ca) (QK 209 Ad5)))
abbrev Km:EncO ((W2)×(Y0 (Int×Int))×(Y0 (Int×Int×Int))×(Y0 (Int×W3×Int×W3×Int))×Int):=(KI (Nm Aa4) (KI (QK 196 Af0) (KI (QK 184 Ac9) (KI (QK 202 Af1) (Nm Ca)))))
abbrev iV:EncO ((W2)×(Y0 (W2×Int))×Int×Int×Int×Int):=(KI (Nm Aa4) (KI (QK 136 Ab3) (KI (Nm Ca) (KI (Nm Ca) (KI (Nm Ca) (Nm Ca))))))
def Kg(_:Nat):Y1 (Ao):=some (([109]:W2),[],[],[],[(([115]:W2),[],[],[],-1)],[],[],[],[],[],[],[],[],[],[],1,1,0)
theorem QQ(N r)(g:Kg N=some r)(k:Ro):Does prog 9 #[] k [] (pO [] (oSO 97 iV r.2.1 λs_0=>(oS 124 Ad7 r.2.2.1 λs_1=>(oS 136 Ab3 r.2.2.2.1 λs_2=>(oSO 72 Km r.2.2.2.2.1 λs_3=>(oSO 120 Tx r.2.2.2.2.2.1 λs_4=>(oSO 111 Ty r.2.2.2.2.2.2.1 λs_5=>(oSO 88 QA r.2.2.2.2.2.2.2.1 λs_6=>(oSO 88 QA (D8 r).1 λs_7=>(oS 3 Ca (D8 r).2.1 λs_8=>(oS 133 Ad3 (D8 r).2.2.1 λs_9=>(oS 133 Ad3 (D8 r).2.2.2.1 λs_10=>(oS 138 Ae2 (D8 r).2.2.2.2.1 λs_11=>(oS 140 Ae3 (D8 r).2.2.2.2.2.1 λs_12=>(oS 142 Ae4 (D8 r).2.2.2.2.2.2.1 λs_13=>(oE (vA #[vS r.1,s_0,s_1,s_2,s_3,s_4,s_5,s_6,s_7,s_8,s_9,s_10,s_11,s_12,s_13,vI (D8 r).2.2.2.2.2.2.2.1,vI (D16 r).1,vI (D16 r).2]) [])))))))))))))))):=by
 unfold Kg at g
 refine BZ follows func9 Z 4 Z _ fz0 (λ_ _ h_ _=>h_) (λd=> ?_)
 refine Ad<|rA Z λb=>Aj<|Ad<|r_W (vA #[V4 (⟨#[115]⟩),nS,nS,nS,vI (-1)]) Z (Ar Z Z Z Z) ?_
 have hR4:(Km).R (([115]:W2),[],[],[],-1) [V4 (⟨#[115]⟩),nS,nS,nS,vI (-1)] ([]):=(by have h_:=(Nl (Tz (E:=Aa4) ([115]:W2)) (Nl (PV (e:=196) (E:=Af0) Sl.nil) (Nl (PV (e:=184) (E:=Ac9) Sl.nil) (Nl (PV (e:=202) (E:=Af1) Sl.nil) (Tz (E:=Ca) (-1))))));exact EncO.cast h_ (by first|rfl|simp only [y5,List.append_nil,j0]))
 refine cD 2<|KP (cs0:=[]) (Ls:=[(To b (V4 (⟨#[]⟩)) nS nS nS nS nS nS nS nS nS nS nS nS nS nS 0 0 0)]) 72 (EncO.raw Km) [EncO.of Km hR4] [V4 (⟨#[115]⟩),nS,nS,nS,vI (-1)] [V4 (⟨#[]⟩),nS,nS,nS,vI 0] Z Z Z Z Z Z Z (by kernel_rfl) ((Rz _ _ _ _ (FJ Z Qp)).trans (by kernel_rfl)) Z Z Z (λa h i=> ?_)
 refine au (Ls:=[(To b (V4 (⟨#[]⟩)) nS nS nS nS nS nS nS nS nS nS nS nS nS nS 0 0 0),h]) (p:=λS_=>SlO 72 Km a ([(([115]:W2),[],[],[],-1)]) S_) 1 Z (SlO.cast (⟨_,_,_,i,(Items.one hR4),Z⟩:SlO 72 Km a [(([115]:W2),[],[],[],-1)] _) (by first|rfl|simp only [y5,List.append_nil,j0])) (λc f=> ?_)
 refine r_W (vA #[V4 (⟨#[109]⟩),nS,nS,nS,a,nS,nS,nS,nS,nS,nS,nS,nS,nS,nS,vI 1,vI 1,vI 0]) Z (MM Z Z Z (FJ Z (FJ (CR Z (SlO.shp f)) (FJ Z (FJ Z Qp)))) (by kernel_rfl)) ?_
 refine r_s (V2 [(To b (V4 (⟨#[109]⟩)) nS nS nS a nS nS nS nS nS nS nS nS nS nS 1 1 0),c]) 0 _ _ _ _ _ (#[V4 (⟨#[109]⟩),nS,nS,nS,a,nS,nS,nS,nS,nS,nS,nS,nS,nS,nS,vI 1,vI 1,vI 0]) Z Z Z Z (.ofS Z Z (Ae Z (sE (sE (sE (sO f (sE (sE (sE (sE (sE (sE (sE (sE (sE (sE (Ae Z (Ae Z (Ae Z AD))))))))))))))))))) Z Z ?_
 refine Aj ?_
 cases g
 refine AU (λj=>CI (v0:=vA #[V4 (⟨#[109]⟩),nS,nS,nS,a,nS,nS,nS,nS,nS,nS,nS,nS,nS,nS,vI 1,vI 1,vI 0]) (O:=[[],[],[],c,[],[],[],[],[],[],[],[],[],[]]) (Gl (Bf j 0 Z Z Z)) (W6 (Ls:=[(To b (V4 (⟨#[109]⟩)) nS nS nS a nS nS nS nS nS nS nS nS nS nS 1 1 0),c,[],[],[],[],[],[],[],[],[],[],[],[],[]]) (Ls0:=[(To b (V4 (⟨#[109]⟩)) nS nS nS a nS nS nS nS nS nS nS nS nS nS 1 1 0),c]) Z [2,3,4,1,5,6,7,8,9,10,11,12,13,14] Z) ⟨nS,[],_,SlO.nil,⟨nS,[],_,Sl.nil,⟨nS,[],_,Sl.nil,⟨a,c,_,f,⟨nS,[],_,SlO.nil,⟨nS,[],_,SlO.nil,⟨nS,[],_,SlO.nil,⟨nS,[],_,SlO.nil,⟨nS,[],_,Sl.nil,⟨nS,[],_,Sl.nil,⟨nS,[],_,Sl.nil,⟨nS,[],_,Sl.nil,⟨nS,[],_,Sl.nil,⟨nS,[],_,Sl.nil,⟨Z,Z⟩,Z⟩,Z⟩,Z⟩,Z⟩,Z⟩,Z⟩,Z⟩,Z⟩,Z⟩,Z⟩,Z⟩,Z⟩,Z⟩,Z⟩)
def Sk(a:Y2):Y0 Fv:=[⟨vF 30 #[a] #[],Z⟩,⟨vF 31 #[a] #[],Z⟩,⟨vF 32 #[a] #[],Z⟩,⟨vF 33 #[a] #[],Z⟩,⟨vF 34 #[a] #[],Z⟩,⟨vF 35 #[a] #[],Z⟩,⟨vF 36 #[a] #[],Z⟩,⟨vF 37 #[a] #[],Z⟩,⟨vF 38 #[a] #[],Z⟩,⟨vF 39 #[a] #[],Z⟩,⟨vF 40 #[a] #[],Z⟩,⟨vF 41 #[a] #[],Z⟩,⟨vF 42 #[a] #[],Z⟩,⟨vF 43 #[a] #[],Z⟩,⟨vF 44 #[a] #[],Z⟩]
def NL(_:Nat)(_:Ao):Y1 Unit:=some ()
theorem aU(N c r)(d:NL N c=some r)(g:Ro)(a:AC)(_hc:Aa2 g a c):DoesI prog 16 #[vA (Ab c a)] Gt g [] (p1 (λs_=>s_) 77 Nn (Sk (vA (Ab c a)))):=by
 unfold NL at d
 refine Bq follows func16 Z 34 Z _ fz1 Bm (λb=> ?_)
 refine Ad<|rA Z λe=>rz Z<|Ad<|rm 1 [0] Z<|r_W (vF 30 #[vA (Ab c a)] #[]) Z (JL Z Z)<|rm 1 [0] Z<|r_W (vF 31 #[vA (Ab c a)] #[]) Z (JL Z Z)<|rm 1 [0] Z<|r_W (vF 32 #[vA (Ab c a)] #[]) Z (JL Z Z)<|rm 1 [0] Z<|r_W (vF 33 #[vA (Ab c a)] #[]) Z (JL Z Z)<|rm 1 [0] Z ?_
 refine r_W (vF 34 #[vA (Ab c a)] #[]) Z (JL Z Z)<|rm 1 [0] Z<|r_W (vF 35 #[vA (Ab c a)] #[]) Z (JL Z Z)<|rm 1 [0] Z<|r_W (vF 36 #[vA (Ab c a)] #[]) Z (JL Z Z)<|rm 1 [0] Z<|r_W (vF 37 #[vA (Ab c a)] #[]) Z (JL Z Z)<|rm 1 [0] Z<|r_W (vF 38 #[vA (Ab c a)] #[]) Z (JL Z Z) ?_
 refine rm 1 [0] Z<|r_W (vF 39 #[vA (Ab c a)] #[]) Z (JL Z Z)<|rm 1 [0] Z<|r_W (vF 40 #[vA (Ab c a)] #[]) Z (JL Z Z)<|rm 1 [0] Z<|r_W (vF 41 #[vA (Ab c a)] #[]) Z (JL Z Z)<|rm 1 [0] Z<|r_W (vF 42 #[vA (Ab c a)] #[]) Z (JL Z Z)<|rm 1 [0] Z ?_
 refine r_W (vF 43 #[vA (Ab c a)] #[]) Z (JL Z Z)<|rm 1 [0] Z<|r_W (vF 44 #[vA (Ab c a)] #[]) Z (JL Z Z)<|cD 33 ?_
 refine KP (cs0:=[]) (Ls:=[[(e,75,(Ab c a))]]) 77 Nn (Sk (vA (Ab c a))) [vF 30 #[vA (Ab c a)] #[],vF 31 #[vA (Ab c a)] #[],vF 32 #[vA (Ab c a)] #[],vF 33 #[vA (Ab c a)] #[],vF 34 #[vA (Ab c a)] #[],vF 35 #[vA (Ab c a)] #[],vF 36 #[vA (Ab c a)] #[],vF 37 #[vA (Ab c a)] #[],vF 38 #[vA (Ab c a)] #[],vF 39 #[vA (Ab c a)] #[],vF 40 #[vA (Ab c a)] #[],vF 41 #[vA (Ab c a)] #[],vF 42 #[vA (Ab c a)] #[],vF 43 #[vA (Ab c a)] #[],vF 44 #[vA (Ab c a)] #[]] [Value.nilFunc,Value.nilFunc,Value.nilFunc,Value.nilFunc,Value.nilFunc,Value.nilFunc,Value.nilFunc,Value.nilFunc,Value.nilFunc,Value.nilFunc,Value.nilFunc,Value.nilFunc,Value.nilFunc,Value.nilFunc,Value.nilFunc] Z Z Z Z Z Z Z (by kernel_rfl) (by kernel_rfl) Z Z Z (λf h i=> ?_)
 refine rz Z<|CJ [(2,f)] Z (λT=> ?_)
 cases d
 refine AU (λj=>Iq (v0:=f) i (Fu (W5 [[(e,75,(Ab c a))],h] [1] Z)) Z (Gl Z))
def AG(_:Nat)(n a b:Int):Y1 Y3:=if n>=a then some (decide (n<=b))else some false
theorem Ba(N n a b r)(c:AG N n a b=some r):Gives prog 65 #[vI n,vI a,vI b] (vB r):=by
 unfold AG at c
 refine Au follows func65 Z 15 Z _ fz3 (λf=> ?_)
 refine AZ Z<|Aa λg d=>Ah<|rn 4 Z ?_
 rcases e:(decide (n>=a))with _|_
 ·replace c:=iF e c
  refine rz Z<|d _ _ ?_
  cases c
  exact aR eE1
 replace c:=iD e c
 refine rz Z<|d _ _ ?_
 cases c
 exact aR eE1
def CP(_:Nat)(c a b:Int):Y1 Y3:=if c>=a then some (decide (c<=b))else some false
theorem FH(N c a b r)(d:CP N c a b=some r):Gives prog 234 #[Value.int .i32 c,Value.int .i32 a,Value.int .i32 b] (vB r):=by
 unfold CP at d
 refine Au follows func234 Z 15 Z _ fz3 (λg=> ?_)
 refine AZ Z<|Aa λh e=>Ah<|rn 4 Z ?_
 rcases f:(decide (c>=a))with _|_
 ·replace d:=iF f d
  refine rz Z<|e _ _ ?_
  cases d
  exact aR eE1
 replace d:=iD f d
 refine rz Z<|e _ _ ?_
 cases d
 exact aR eE1
def Il(N:Nat)(c:Int):Y1 Y3:=(CP N c 65 90).bind λf=>if f=true then some true else(CP N c 97 122).bind λe=>if e=true then some true else if c=95 then some true else(CP N c 192 591).bind λa=>if a=true then some true else(CP N c 913 969).bind λd=>if d=true then some true else(CP N c 1024 1279).bind λb=>some b
def JX(N:Nat)(c:Int):Y1 Y3:=if c=215 then if c=215 then some false else Il N c  else if c=247 then if c=247 then some false else Il N c  else if c=930 then some false else Il N c 
theorem Sj(N c r)(a:JX N c=some r):Gives prog 195 #[Value.int .i32 c] (vB r):=by
 unfold JX at a
 refine Au follows func195 Z 30 Z _ fz1 (λv=> ?_)
 refine AZ Z<|Cs (λtt ll=>(Il N c  =some r)/\Is [(0,Value.int .i32 c)] [] tt ll) ?_ ?_
 ·refine AZ Z<|Ai<|Aa λz d=>AZ Z<|aE a Z (λg a=> ?_) (λg a=> ?_)
  ·refine Ac<|d _ _ ?_
   refine aE a Z (λh a=> ?_) (λh a=> ?_)
   ·refine AZ Z ?_
    cases a
    exact aR eE1
   refine Ac<|fg _ (Sub.of suN) ?_
   exact⟨a,Ag Z Z⟩
  refine AZ Z<|aE a Z (λi a=> ?_) (λi a=> ?_)
  ·refine Ac<|d _ _ ?_
   refine aE a Z (λj a=> ?_) (λj a=> ?_)
   ·refine AZ Z ?_
    cases a
    exact aR eE1
   refine Ac<|fg _ (Sub.of suN) ?_
   exact⟨a,Ag Z Z⟩
  refine Ah<|rz Z<|d _ _ ?_
  refine aE a Z (λk a=> ?_) (λk a=> ?_)
  ·refine AZ Z ?_
   cases a
   exact aR eE1
  refine Ac<|fg _ (Sub.of suN) ?_
  exact⟨a,Ag Z Z⟩
 clear a;rintro t l ⟨a,⟨T,rfl⟩,rfl⟩
 unfold Il at a
 refine Aa λD b=>Ah<|rn 1 Z<|kB a λA w a=>rc _ (cF KJ) (FH N c 65 90 _ w)<|rn 1 Z ?_
 rcases m:A with _|_
 ·replace a:=iB m a
  refine rn 1 Z<|r_y Z<|kB a λB x a=>rc _ (cF KJ) (FH N c 97 122 _ x)<|rn 2 Z ?_
  rcases n:B with _|_
  ·replace a:=iB n a
   refine rn 4 Z ?_
   rcases o:(c==95)with _|_
   ·replace a:=iG o a
    refine rn 1 Z<|r_y Z<|kB a λp q a=>rc _ (cF KJ) (FH N c 192 591 _ q)<|rn 2 Z<|fJ [(0,Value.int .i32 c),(22,vB p)] Z (λT=> ?_)
    rcases e:p with _|_
    ·replace a:=iB e a
     refine rn 1 Z<|r_y Z<|kB a λy s a=>rc _ (cF KJ) (FH N c 913 969 _ s)<|rn 2 Z ?_
     rcases f:y with _|_
     ·replace a:=iB f a
      refine rn 1 Z<|r_y Z<|kB a λC u a=>rc _ (cF KJ) (FH N c 1024 1279 _ u)<|rz Z<|b _ _ ?_
      cases a
      exact aR eE1
     replace a:=ifp f a
     refine rz Z<|b _ _ ?_
     cases a
     exact aR eE1
    replace a:=ifp e a
    refine rz Z<|b _ _ ?_
    cases a
    exact aR eE1
   replace a:=iE o a
   refine rz Z<|b _ _ ?_
   cases a
   exact aR eE1
  replace a:=ifp n a
  refine rz Z<|b _ _ ?_
  cases a
  exact aR eE1
 replace a:=ifp m a
 refine rz Z<|b _ _ ?_
 cases a
 exact aR eE1
def Mn(N:Nat)(c:Int):Y1 Y3:=(CP N c 48 57).bind λa=>some a
theorem aq(N c r)(a:Mn N c=some r):Gives prog 196 #[Value.int .i32 c] (vB r):=by
 unfold Mn at a
 refine Au follows func196 Z 5 Z _ fz1 (λb=> ?_)
 refine AZ Z<|Ad<|rn 1 Z<|kB a λe d a=>rc _ (cF KJ) (FH N c 48 57 _ d)<|rz Z ?_
 cases a
 exact aR eE1
def JP(N:Nat)(c a:Int):Y1 Y3:=(JX N c).bind λb=>if b=true then some true else if a>0 then(Mn N c).bind λd=>if d=true then some true else if c=45 then some true else some (c==46)else some false
theorem UP(N c b r)(a:JP N c b=some r):Gives prog 125 #[Value.int .i32 c,vI b] (vB r):=by
 unfold JP at a
 refine Au follows func125 Z 23 Z _ fz2 (λi=> ?_)
 refine AZ Z<|Aa λn d=>Ah<|rn 1 Z<|kB a λl j a=>rc _ (cF ek) (Sj N c _ j)<|rn 1 Z ?_
 rcases f:l with _|_
 ·replace a:=iB f a
  refine rn 3 Z ?_
  rcases g:(decide (b>0))with _|_
  ·replace a:=iF g a
   refine rn 3 Z<|Ct Z Z<|Ct Z Z<|rn 2 Z<|Ct Z Z<|Ct Z Z<|rz Z<|d _ _ ?_
   cases a
   exact aR eE1
  replace a:=iD g a
  refine rn 1 Z<|r_y Z<|kB a λm k a=>rc _ (cF pE) (aq N c _ k)<|rn 1 Z ?_
  rcases h:m with _|_
  ·replace a:=iB h a
   refine rn 4 Z ?_
   rcases e:(c==45)with _|_
   ·replace a:=iG e a
    refine rz Z<|d _ _ ?_
    cases a
    exact aR eE1
   replace a:=iE e a
   refine rz Z<|d _ _ ?_
   cases a
   exact aR eE1
  replace a:=ifp h a
  refine rz Z<|d _ _ ?_
  cases a
  exact aR eE1
 replace a:=ifp f a
 refine rn 3 Z<|Ct Z Z<|Ct Z Z<|Ct Z Z<|Ct Z Z<|Ct Z Z<|Ct Z Z<|Ct Z Z<|Ct Z Z<|Ct Z Z<|Ct Z Z<|rz Z<|d _ _ ?_
 cases a
 exact aR eE1
def Jx(N:Nat)(s:W2):Nat->Int->Nat->Y1 Y3
  |0,_,_=>none
  |d+1,a,b=>if b<(s).length then ck (b<(s).length) (if a=24 then some false else(JP N ((runeAt s b:Nat):Int) a).bind λc=>if c=true then ck (R64 (a+1)) ((Jx N s d) (a+1) (Jh s b))else some false)else some (decide (a>0))
def LP(N:Nat)(s:W2):Y1 Y3:=Jx N s N 0 0
theorem SB(N s r)(b:LP N s=some r):Gives prog 68 #[vS s] (vB r):=by
 unfold LP at b
 refine Au follows func68 Z 23 Z _ fz1 (λn=> ?_)
 refine AZ Z<|AZ Z<|Aa λy o=>Ad<|rn 1 Z<|cB 7 (p:=(pIt s))<|ib s Z Z Z Z Z (λ_ _ _ _ _=>Iff.rfl) (λh=> ?_)
 refine Aj<|Ai<|AL (λtt ll nn=> ∃(g:Nat) (a:Int) (c:Nat),(Jx N s g a c=some r)/\Is [(3,vI a),(7,vP h 0)] [(h,(itT s c), #[])] tt ll/\nn=g+1) (N+1) ?_ ?_
 ·exact⟨N,0,0,b,Ag Z Z,Z⟩
 clear b;rintro t l _ ⟨g,a,c,b,⟨⟨T,rfl⟩,rfl⟩,rfl⟩
 rcases g with _|g
 ·exact absurd b (by simp [Jx])
 rw [Jx] at b
 refine Ad<|cA 8 (p:=(pNx h s c))<|lL (lN:=[(h,(itT s (Jh s c)), #[])]) 0 h s c Z Z Z Z Z Z (λ_ _ _ _ _=>Iff.rfl) Z<|r_W (vB (decide (c<(s).length))) Z (GV (dw s c))<|Aj<|Aa λz q=>aD b Z (λu b=> ?_) (λu b=> ?_)
 ·refine Ac<|q _ _ ?_
  refine Ai<|Ad<|kC b λi b=>r_W (Value.int .i32 ((runeAt s c:Nat):Int)) Z (GV (dv i))<|rz Z<|Aa λv j=>Aa λw f=>Ah<|rn 3 Z ?_
  rcases d:(a==24)with _|_
  ·replace b:=iG d b
   refine rn 2 Z<|r_y Z<|kB b λx k b=>rc _ (cF qD) (UP N _ a _ k)<|rz Z<|f _ _ ?_
   refine BS _ Z (λe=> ?_) (λe=> ?_)
   ·replace b:=ifn (Bool.eq_false_iff.1 (DG e)) b
    refine AZ Z ?_
    cases b
    exact aR eE1
   replace b:=ifp (DH e) b
   refine Ac<|j _ _ ?_
   refine Ah<|rn 1 Z<|kC b λm b=>rX m Z<|rz Z<|fg _ (Sub.of (suK _ suN)) ?_
   exact⟨g+1,by omega,g,(a+1),Jh s c,b,Ag (by first|rfl|(simp only [d];done)|(simp only [d];rfl)|(simp only [BB];rfl)) Z,Z⟩
  replace b:=iE d b
  refine rz Z<|f _ _ ?_
  refine JO Z ?_
  refine AZ Z ?_
  cases b
  exact aR eE1
 refine AM<|o _ _ ?_
 refine AZ Z ?_
 cases b
 exact aR eE1
def Ap(_:Nat)(b:Y3)(a:Int):Y1 Int:=if b=true then some 0 else some a
theorem AE(N e f r)(a:Ap N e f=some r):Gives prog 67 #[vB e,vI f] (vI r):=by
 unfold Ap at a
 refine Au follows func67 Z 7 Z _ fz2 (λb=> ?_)
 refine AZ Z<|Aa λg c=>AZ Z<|aB a Z (λd a=> ?_) (λd a=> ?_)
 ·refine AZ Z ?_
  cases a
  exact aR eE1
 refine Ac<|c _ _ ?_
 refine AZ Z ?_
 cases a
 exact aR eE1
def OM(_:Nat)(a:Int):Y1 Y3:=some (a !=0)
theorem cW(N c r)(b:OM N c=some r):Gives prog 124 #[vI c] (vB r):=by
 unfold OM at b
 refine Au follows func124 Z 5 Z _ fz1 (λa=> ?_)
 refine AZ Z<|AZ Z ?_
 cases b
 exact aR eE1
def bW(N:Nat)(s:Y0 Int):Nat->Int->Y1 Int
  |0,_=>none
  |c+1,a=>if a<(s.length:Int)then ck (0<=a/\a<(s.length:Int)) ((OM N (s[a.toNat]!)).bind λb=>if b=true then some a else ck (R64 (a+1)) ((bW N s c) (a+1)))else some (-1)
def sFm(N:Nat)(s:Y0 Int):Y1 Int:=bW N s N 0
theorem sFg(N s r)(a:sFm N s=some r)(p n)(o:Rd Ca p n s):Does prog 123 #[n,vF 124 #[] #[]] p [] (pV (vI r)):=by
 unfold sFm at a
 refine Ak follows func123 Z 19 Z _ fz2 (λh=> ?_)
 refine AZ Z<|Aa λu i=>Ad<|rn 1 Z<|rL (W8 o) Z<|rz Z<|Ai<|AL (λtt ll nn=> ∃(d:Nat) (b:Int),(bW N s d b=some r)/\Is [(0,n),(1,vF 124 #[] #[]),(7,vI (s.length:Int)),(8,vI b)] [] tt ll/\nn=d+1) (N+1) ?_ ?_
 ·exact⟨N,0,a,Ag Z Z,Z⟩
 clear a;rintro t l _ ⟨d,b,a,⟨⟨T,rfl⟩,rfl⟩,rfl⟩
 rcases d with _|d
 ·exact absurd a (by simp [bW])
 rw [bW] at a
 refine AZ Z<|Aa λv j=>aD a Z (λk a=> ?_) (λk a=> ?_)
 ·refine Ac<|j _ _ ?_
  refine Aa λw m=>Ai<|AZ Z<|Ad<|rn 3 Z<|kC a λc a=>rI (W8 o) c Z<|rE (Ay o) c 0 Z<|kB a λq e a=>rc _ (Cc (caps:=[]) Z qE Z) (cW N _ _ e)<|Aj<|aB a Z (λf a=> ?_) (λf a=> ?_)
  ·refine AZ Z ?_
   cases a
   exact aR eV1
  refine Ac<|m _ _ ?_
  refine Ah<|kC a λg a=>rX g Z<|rz Z<|fg _ (Sub.of suN) ?_
  exact⟨d+1,by omega,d,(b+1),a,Ag Z Z,Z⟩
 refine AM<|i _ _ ?_
 refine AZ Z ?_
 cases a
 exact aR eV1
def AO(N:Nat)(b:Y0 Int):Y1 Int:=(sFm N b).bind λa=>if a<0 then some 0 else ck (0<=a/\a<(b.length:Int)) (some (b[a.toNat]!))
theorem Co(N i r)(a:AO N i=some r)(j c)(d:Rd Ca j c i):Does prog 66 #[c] j [] (pV (vI r)):=by
 unfold AO at a
 refine Ak follows func66 Z 12 Z _ fz1 (λe=> ?_)
 refine AZ Z<|Ad<|rn 1 Z<|kB a λk f a=>gV _ (cF qF) (λo w z_=>sFg N i _ f z_.view c ((Ay d) o w z_))<|rz Z<|Aa λl g=>AZ Z<|aD a Z (λh a=> ?_) (λh a=> ?_)
 ·refine AZ Z ?_
  cases a
  exact aR eV1
 refine Ac<|g _ _ ?_
 refine Ad<|rn 2 Z<|kC a λb a=>rI (W8 d) b Z<|rE (Ay d) b 0 Z<|rz Z ?_
 cases a
 exact aR eV1
def IV(N:Nat)(c:Ao)(a:Y3):Y1 (Int×Int):=(LP N c.1).bind λf=>(Ap N f 4).bind λe=>(Ap N a 7).bind λd=>(AO N ([e,d])).bind λb=>some (0,b)
def JJ(N:Nat)(c:Ao):Y1 (Int×Int):=(AG N c.2.2.2.2.2.2.2.2.2.2.2.2.2.2.2.1 1 64).bind λb=>if b=true then(AG N c.2.2.2.2.2.2.2.2.2.2.2.2.2.2.2.2.1 1 32).bind λd=>if d=true then(AG N c.2.2.2.2.2.2.2.2.2.2.2.2.2.2.2.2.2 0 4).bind λa=>IV N c a else IV N c false else IV N c false
theorem ba(N c r)(b:JJ N c=some r)(B:Ro)(j:AC)(_hc:Aa2 B j c):Does prog 30 #[vA (Ab c j)] B [] (pV (vT #[vI r.1,vI r.2])):=by
 unfold JJ at b
 refine Ak follows func30 Z 30 Z _ fz1 (λm=> ?_)
 refine Ad<|rA Z λn=>rz Z<|Cs (λtt ll=> ∃(a:Y3),(IV N c a=some r)/\Is [(1,vP n 0),(4,vB a)] [(n,75,(Ab c j))] tt ll) ?_ ?_
 ·refine Ah<|rm 3 [0] Z<|kB b λp f b=>rc _ (cF FK) (Ba N _ 1 64 _ f)<|rn 1 Z ?_
  rcases d:p with _|_
  ·replace b:=iB d b
   refine rz Z<|fg _ (Sub.of (suK _ suN)) ?_
   exact⟨false,b,Ag (by first|rfl|(simp only [d];done)|(simp only [d];rfl)|(simp only [BB];rfl)) Z⟩
  replace b:=ifp d b
  refine rn 2 Z<|r_y Z<|rm 1 [0] Z<|r_y Z<|kB b λq g b=>rc _ (cF FK) (Ba N _ 1 32 _ g)<|rn 2 Z ?_
  rcases e:q with _|_
  ·replace b:=iB e b
   refine rz Z<|fg _ (Sub.of (suK _ suN)) ?_
   exact⟨false,b,Ag (by first|rfl|(simp only [d,e];done)|(simp only [d,e];rfl)|(simp only [BB];rfl)) Z⟩
  replace b:=ifp e b
  refine rn 2 Z<|r_y Z<|rm 1 [0] Z<|r_y Z<|kB b λs h b=>rc _ (cF FK) (Ba N _ 0 4 _ h)<|rz Z<|fg _ (Sub.of (suK _ suN)) ?_
  exact⟨s,b,Ag (by first|rfl|(simp only [d,e];done)|(simp only [d,e];rfl)|(simp only [BB];rfl)) Z⟩
 clear b;rintro t l ⟨a,b,⟨T,rfl⟩,rfl⟩
 unfold IV at b
 refine Ad<|rm 3 [0] Z<|kB b λC u b=>rc _ (cF bx) (SB N c.1 _ u)<|kB b λD v b=>rc _ (cF Bw) (AE N C 4 _ v)<|rn 1 Z<|kB b λE x b=>rc _ (cF Bw) (AE N _ 7 _ x)<|gB (Ls:=[[(n,75,(Ab c j))]]) 51 Ca [D,E] (λy z A=> ?_)
 refine kB b λF i b=>gV _ (cF Fo) (λo w z_=>Co N _ _ i z_.view y ((AB A (Al (Ls:=[[(n,75,(Ab c j))],z]) (k:=1) Z Z)) o w z_))<|rz Z ?_
 cases b
 exact aR eV2
def MJ(_:Nat)(a:W2)(_:Y0 (W2×Int))(_ _ _ _:Int):Y1 (W2):=some a
theorem Up(N b c d e f g r)(i:MJ N b c d e f g=some r)(j:Ro)(a:Y2)(_hh_1:Rd Ab3 j a c):Does prog 70 #[vA #[vS b,a,vI d,vI e,vI f,vI g]] j [] (pV (vS r)):=by
 unfold MJ at i
 refine Ak follows func70 Z 5 Z _ fz1 (λh=> ?_)
 refine Ad<|rA Z λk=>rz Z<|AY [0] Z ?_
 cases i
 exact aR eV1
def Ix(N:Nat)(b:Y0 ((W2)×(Y0 (W2×Int))×Int×Int×Int×Int)):Nat->Y0 (W2)->Int->Y1 (Y0 (W2))
  |0,_,_=>none
  |e+1,c,a=>if a<(b.length:Int)then ck (0<=a/\a<(b.length:Int)) ((MJ N (b[a.toNat]!.1) (b[a.toNat]!.2.1) (b[a.toNat]!.2.2.1) (b[a.toNat]!.2.2.2.1) (b[a.toNat]!.2.2.2.2.1) (b[a.toNat]!.2.2.2.2.2)).bind λd=>ck (0<=a/\a<(c.length:Int)) (ck (R64 (a+1)) ((Ix N b e) ((c).set (a.toNat) d) (a+1))))else some c
def Mu(N:Nat)(a:Y0 ((W2)×(Y0 (W2×Int))×Int×Int×Int×Int)):Y1 (Y0 (W2)):=ck (0<=(a.length:Int)/\(a.length:Int)<=8796093022208) (Ix N a N ((List.replicate ((a.length:Int)).toNat ([]))) 0)
theorem WD(N b r)(c:Mu N b=some r)(H p)(h:RdN Ad1 H p b):Does prog 69 #[p,vF 70 #[] #[]] H [] (p1 (λs_=>s_) 9 Aa4 r):=by
 unfold Mu at c
 refine Ak follows func69 Z 26 Z _ fz2 (λA=> ?_)
 refine AZ Z<|Ad<|rn 1 Z<|rL (W9 h) Z<|kC c λB c=>cB 10<|Ta (Ls:=[]) 9 Aa4 ([]) (b.length:Int) Z Z Z Z Z Z Z Z Z Z 8796093022208 Z B (λ_ _ _ _ _=>Iff.rfl) (λC G I=> ?_)
 refine rz Z<|Aa λL D=>Ad<|rn 1 Z<|rL (W9 h) Z<|rz Z<|Ai<|BF _ (W5 [G] [0] Z)<|AL (λtt ll nn=> ∃(m:Nat) (f:Y0 (W2)) (a:Int),(Ix N b m f a=some r)/\ ∃(d:Y0 Bl),Sl 9 Aa4 C f d/\Is [(1,vF 70 #[] #[]),(5,C),(11,p),(12,vI (b.length:Int)),(13,vI a)] (V2 [d]) tt ll/\nn=m+1) (N+1) ?_ ?_
 ·exact⟨N,(List.replicate ((b.length:Int)).toNat ([])),0,c,G,I,Ag Z Z,Z⟩
 clear c;rintro t l _ ⟨m,f,a,c,d,g,⟨⟨T,rfl⟩,rfl⟩,rfl⟩
 rcases m with _|m
 ·exact absurd c (by simp [Ix])
 rw [Ix] at c
 refine AZ Z<|Aa λJ q=>aD c Z (λs c=> ?_) (λs c=> ?_)
 ·refine Ac<|q _ _ ?_
  refine Aa λK u=>Ai<|Ad<|rn 1 Z<|kC c λi c=> ?_
  obtain⟨_,⟨e,j,rfl⟩,hat18⟩:=RdN.at (E:=Ad1) h (Cp i)
  refine rI (W9 h) i Z<|Mk (vA #[vS (b[a.toNat]!.1),e,vI (b[a.toNat]!.2.2.1),vI (b[a.toNat]!.2.2.2.1),vI (b[a.toNat]!.2.2.2.2.1),vI (b[a.toNat]!.2.2.2.2.2)]) (vs:=[vS (b[a.toNat]!.1),e,vI (b[a.toNat]!.2.2.1),vI (b[a.toNat]!.2.2.2.1),vI (b[a.toNat]!.2.2.2.2.1),vI (b[a.toNat]!.2.2.2.2.2)]) (a.toNat*6) 0 Z Z (λo w z_=>At.mono z_.ro_cell hat18) Z<|rA Z λn=>rn 1 Z<|r_s (V2 [(aJ n (b[a.toNat]!.1) e (b[a.toNat]!.2.2.1) (b[a.toNat]!.2.2.2.1) (b[a.toNat]!.2.2.2.2.1) (b[a.toNat]!.2.2.2.2.2)),d]) 0 _ _ _ _ _ (#[vS (b[a.toNat]!.1),e,vI (b[a.toNat]!.2.2.1),vI (b[a.toNat]!.2.2.2.1),vI (b[a.toNat]!.2.2.2.2.1),vI (b[a.toNat]!.2.2.2.2.2)]) Z Z Z Z (.ofS Z Z (Ae Z (sR j (Ae Z (Ae Z (Ae Z (Ae Z AD))))))) Z Z<|Aj<|Ah<|rn 3 Z ?_
  refine rm 1 [0] Z<|kB c λv x c=>gV _ (Cc (caps:=[]) Z tS Z) (λo w z_=>Up N _ _ _ _ _ _ _ x z_.view e (z_.r j))<|kC c λk c=>rI (W7 g) k Z<|QR (Ls:=[(aJ n (b[a.toNat]!.1) e (b[a.toNat]!.2.2.1) (b[a.toNat]!.2.2.2.1) (b[a.toNat]!.2.2.2.2.1) (b[a.toNat]!.2.2.2.2.2)),d]) 1 (En:=Aa4) (f[a.toNat]!) v (a.toNat) 0 Z Z Z g (Cp k) Z Z Z (It Z) Z (λy F=> ?_)
  refine Aj<|u _ _ ?_
  refine Ah<|kC c λz c=>rX z Z<|rz Z<|fg _ (W5 [(aJ n (b[a.toNat]!.1) e (b[a.toNat]!.2.2.1) (b[a.toNat]!.2.2.2.1) (b[a.toNat]!.2.2.2.2.1) (b[a.toNat]!.2.2.2.2.2)),y] [1] Z) ?_
  exact⟨m+1,by omega,m,(f).set (a.toNat) v,(a+1),c,y,F,Ag Z Z,Z⟩
 refine AM<|D _ _ ?_
 refine AZ Z ?_
 cases c
 refine AU (λM=>Iq (v0:=C) g (Fu (W5 [d] [0] Z)) Z (Gl Z))
def RI(_:Nat)(s a:W2):Y1 Int:=ck ((a).length=1) (some (Lib.index s a))
theorem jC(N s a r)(b:RI N s a=some r):Gives prog 235 #[vS s,vS a] (vI r):=by
 unfold RI at b
 refine Au follows func235 Z 8 Z _ fz2 (λc=> ?_)
 refine AZ Z<|Ad<|rn 2 Z<|kC b λd b=>rc _ (cF ow) (mW s a d)<|rz Z ?_
 cases b
 exact aR eE1
def Mi(N:Nat)(s a:W2):Y1 Y3:=(RI N s a).bind λb=>some (decide (b>=0))
theorem SS(N s a r)(b:Mi N s a=some r):Gives prog 197 #[vS s,vS a] (vB r):=by
 unfold Mi at b
 refine Au follows func197 Z 9 Z _ fz2 (λc=> ?_)
 refine AZ Z<|Ad<|rn 2 Z<|kB b λe d b=>rc _ (cF oW) (jC N s a _ d)<|rz Z ?_
 cases b
 exact aR eE1
def NP(N:Nat)(s:W2):Y1 Y3:=(LP N s).bind λa=>if a=true then(Mi N s ([46]:W2)).bind λb=>some (!(b))else some false
theorem YS(N s r)(a:NP N s=some r):Gives prog 126 #[vS s] (vB r):=by
 unfold NP at a
 refine Au follows func126 Z 10 Z _ fz1 (λd=> ?_)
 refine AZ Z<|Aa λh b=>Ah<|rn 1 Z<|kB a λg e a=>rc _ (cF bx) (SB N s _ e)<|rn 1 Z ?_
 rcases c:g with _|_
 ·replace a:=iB c a
  refine rz Z<|b _ _ ?_
  cases a
  exact aR eE1
 replace a:=ifp c a
 refine rn 1 Z<|r_y Z<|kB a λi f a=>rc _ (cF ej) (SS N s _ _ f)<|rz Z<|b _ _ ?_
 cases a
 exact aR eE1
def IZ(_:Nat)(i:Int)(a:Y0 (W2×Int)):Y1 (W2):=ck (0<=i/\i<(a.length:Int)) (some ((a[i.toNat]!).1))
theorem RW(N i f r)(g:IZ N i f=some r)(j)(c:Nat)(a)(b:Rd Ab3 j a f)(d:Blk j c [a]):Does prog 236 #[vI i,vP c 0] j [] (pV (vS r)):=by
 unfold IZ at g
 refine Ak follows func236 Z 9 Z _ fz2 (λh=> ?_)
 refine AZ Z<|Ad<|Ii a (vs:=[a]) (o:=0) Z Z (Bg d) Z<|rn 1 Z<|kC g λe g=>rI (W8 b) e Z<|rF (W8 b) (Bp e) Z<|rE (Ay b) e 0 Z<|rz Z ?_
 cases g
 exact aR eV1
def GH(N:Nat)(b:Int)(c:Y0 (W2×Int)):Nat->Y0 (W2)->Int->Y1 (Y0 (W2))
  |0,_,_=>none
  |f+1,d,a=>if a<b then(IZ N a c).bind λe=>ck (0<=a/\a<(d.length:Int)) (ck (R64 (a+1)) ((GH N b c f) ((d).set (a.toNat) e) (a+1)))else some d
def MS(N:Nat)(a:Int)(b:Y0 (W2×Int)):Y1 (Y0 (W2)):=ck (0<=a/\a<=8796093022208) (GH N a b N (List.replicate a.toNat ([])) 0)
theorem XJ(N a g r)(c:MS N a g=some r)(E)(b:Nat)(f)(m:Rd Ab3 E f g)(j:Blk E b [f]):Does prog 202 #[vI a,vF 236 #[] #[vP b 0]] E [] (p1 (λs_=>s_) 9 Aa4 r):=by
 unfold MS at c
 refine Ak follows func202 Z 21 Z _ fz2 (λz=> ?_)
 refine AZ Z<|Ad<|rn 1 Z<|kC c λA c=>cB 8<|Ta (Ls:=[]) 9 Aa4 ([]) a Z Z Z Z Z Z Z Z Z Z 8796093022208 Z A (λ_ _ _ _ _=>Iff.rfl) (λB F G=> ?_)
 refine rz Z<|Aa λJ C=>AZ Z<|Ai<|BF _ (W5 [F] [0] Z)<|AL (λtt ll nn=> ∃(n:Nat) (h:Y0 (W2)) (d:Int),(GH N a g n h d=some r)/\ ∃(e:Y0 Bl),Sl 9 Aa4 B h e/\Is [(1,vF 236 #[] #[vP b 0]),(5,B),(9,vI a),(10,vI d)] (V2 [e]) tt ll/\nn=n+1) (N+1) ?_ ?_
 ·exact⟨N,(List.replicate a.toNat ([])),0,c,F,G,Ag Z Z,Z⟩
 clear c;rintro t l _ ⟨n,h,d,c,e,i,⟨⟨T,rfl⟩,rfl⟩,rfl⟩
 rcases n with _|n
 ·exact absurd c (by simp [GH])
 rw [GH] at c
 refine AZ Z<|Aa λH p=>aD c Z (λq c=> ?_) (λq c=> ?_)
 ·refine Ac<|p _ _ ?_
  refine Aa λI s=>Ai<|AZ Z<|Ah<|rn 4 Z<|kB c λu v c=>gV _ (Cc (caps:=[vP b 0]) Z oV Z) (λo w z_=>RW N d g _ v z_.view b f (z_.r m) (Bg j o w z_))<|kC c λk c=>rI (W7 i) k Z<|QR (Ls:=[e]) 0 (En:=Aa4) (h[d.toNat]!) u (d.toNat) 0 Z Z Z i (Cp k) Z Z Z (It Z) Z (λx D=> ?_)
  refine Aj<|s _ _ ?_
  refine Ah<|kC c λy c=>rX y Z<|rz Z<|fg _ (W5 [x] [0] Z) ?_
  exact⟨n+1,by omega,n,(h).set (d.toNat) u,(d+1),c,x,D,Ag Z Z,Z⟩
 refine AM<|C _ _ ?_
 refine AZ Z ?_
 cases c
 refine AU (λK=>Iq (v0:=B) i (Fu (W5 [e] [0] Z)) Z (Gl Z))
def Ku(N:Nat)(a:Y0 (W2×Int)):Y1 (Y0 (W2)):=(MS N (a.length:Int) a).bind λb=>some b
theorem VJ(N g r)(c:Ku N g=some r)(h a)(b:Rd Ab3 h a g):Does prog 198 #[a] h [] (p1 (λs_=>s_) 9 Aa4 r):=by
 unfold Ku at c
 refine Ak follows func198 Z 7 Z _ fz1 (λd=> ?_)
 refine Ad<|r_a (24, #[a]) Z Z (Oz Z (W8 b)) (λe=> ?_) (.inr Z)
 refine rz Z<|Ad<|rm 1 [0] Z<|rL (W8 b) Z<|r_W (vF 236 #[] #[vP e 0]) Z (Jt Z)<|kB c λl f c=>gS (Ls:=[(iC e a)]) (cF ef) (λo w z_=>XJ N _ g _ f z_.view e a ((Ay b) o w z_) (Da 0 Z Z o w z_)) (λi j k=> ?_)
 refine rz Z ?_
 cases c
 refine AU (λm=>Iq (v0:=i) k (Fu (W5 [(iC e a),j] [1] Z)) Z (Gl Z))
def KN(_:Nat):Y1 Unit:=some ()
theorem TS(N r)(c:KN N=some r)(d:Ro)(a:Nat):Does prog 258 #[vP a 0] d (As a (V7 none) nS) (pO (As a (V7 none) nS) (oE (vT #[]) [(As a (vP a 0) nS)])):=by
 unfold KN at c
 refine BZ follows func258 Z 20 Z _ fz1 (λ_ _ h_ _=>h_) (λb=> ?_)
 refine AY [0] Z<|JO Z ?_
 refine Ah<|rn 2 Z<|cA 9 (p:=(pUp (λv_ U_=>v_=vP a 0/\U_=(As a (V7 none) nS))))<|jR (Ls:=[(As a (V7 none) nS)]) (vP a 0) 0 Z Z Z Z Z (gX (TB:=335) (cs:= #[V7 none,nS]) Z Z Z Z Z Z Z (List.mem_singleton.2 Z)) (λ_ _ _ _ _=>Iff.rfl)<|cA 10 (p:=(pUp (λv_ U_=>v_=vP a 0/\U_=(As a (V7 none) nS)))) ?_
 refine jR (Ls:=[(As a (V7 none) nS)]) (vP a 0) 0 Z Z Z Z Z (λw_ _=>ZP (args:= #[vP a 0]) (e:=Extern.AbiNoEscape.same) (w':=w_) (bm Z) func274 (by kernel_rfl) (by kernel_rfl) (by kernel_rfl) (by kernel_rfl) Z) (λ_ _ _ _ _=>Iff.rfl)<|cA 11 (p:=(pUp (λv_ U_=>v_=vP a 0/\U_=(As a (V7 none) nS))))<|jR (Ls:=[(As a (V7 none) nS)]) (vP a 0) 0 Z Z Z Z Z (Za (TB:=335) (cs:= #[V7 none,nS]) 2 Z Z Z Z Z (List.mem_singleton.2 Z) Z (by kernel_rfl)) (λ_ _ _ _ _=>Iff.rfl)<|rn 2 Z ?_
 refine ry [0] Z ?_
 cases c
 refine Xb (v0:=vT #[]) (O:=[(As a (vP a 0) nS)]) Z (W5 [(As a (vP a 0) nS)] [0] Z) ⟨Z,Z⟩
def OH(_:Nat)(n:Int):Y1 (W2):=ck (R64 (0+n)) (ck (0<=(0+n)/\(0+n)<=140737488355328) (some ((([]:W2)).take (([]:W2)).length++(([]:W2)).drop (([]:W2)).length)))
theorem bX(N n r)(d:OH N n=some r)(l:Ro)(a:Nat):Does prog 259 #[vP a 0,vI n] l (As a (vP a 0) nS) (pO (As a (vP a 0) nS) (oS 5 Ab8 r λs_0=>(oE (vT #[]) [(As a (vP a 0) s_0)]))):=by
 unfold OH at d
 refine BZ follows func259 Z 30 Z _ fz2 (λ_ _ h_ _=>h_) (λe=> ?_)
 refine Aa λm g=>BO [(some 13,false)] (conG prog [(13,λ_ _ v_ L_ U_=>(rS 5 ((0+n)).toNat) v_ L_ U_)]) [] (by decide+kernel) (λo=>AN)<|rm 4 [0] Z<|r_W (vI 0) Z (iT Z Z Z)<|r_X (vI 0) Z (RU Z (by decide) (by decide)) Z<|rn 1 Z<|kC d λh d=>rX h Z<|kC d λi d=>xy (Ls:=[(As a (vP a 0) nS)]) (ps:= #[3]) (t:=333) 5 (0+n) Z Z Z (bm Z) func275 (by kernel_rfl) (by kernel_rfl) (by kernel_rfl) (by kernel_rfl) Z i (λ_ _ _ _ _=>Iff.rfl) (λb j xs4 _ k=> ?_)
 refine rm 4 [0] Z<|rL (.inl ⟨Z,Z⟩) Z<|r_W (GX b 0 ((((([]:W2)).length:Int)).toNat) 1) Z (GV (ID Z Z Z Z (W7 k) (by exact⟨by decide,Int.natCast_nonneg _⟩)))<|rz Z<|g _ _ ?_
 refine Ad<|rm 5 [0] Z<|cA 25 (p:=(pUp (λv_ U_=>v_= .int .i64 ((min (([]:W2)).length (([]:W2)).length:Nat):Int)/\Sl 5 Ab8 (GX b 0 ((((([]:W2)).length:Int)).toNat) 1) ((([]:W2)).take (([]:W2)).length++(([]:W2)).drop (([]:W2)).length) U_/\U_.map (·.1)=j.map (·.1)))) ?_
 refine va (Ls:=[(As a (vP a 0) nS),j]) 1 (En:=Ab8) (ys:=([]:W2)) Z Z Z Z Z Z (Sl.take00 k) (.inl ⟨Z,Z⟩) (λ_ _ _=> .inl ⟨Z,Z⟩) Z Z Z Z (λ_ _ _ _ _=>Iff.rfl) (λf c=> ?_)
 refine Aj<|Ah<|rn 4 Z<|r_s (V2 [(As a (vP a 0) (GX b 0 ((((([]:W2)).length:Int)).toNat) 1)),f]) 0 _ _ _ _ _ (#[vP a 0,GX b 0 ((((([]:W2)).length:Int)).toNat) 1]) Z Z Z (CR Z (W7 c)) (.ofS Z Z (sS c AD)) Z Z<|Aj ?_
 cases d
 refine Xb (v0:=vT #[]) (O:=[f,(As a (vP a 0) (GX b 0 ((((([]:W2)).length:Int)).toNat) 1))]) Z (W5 [(As a (vP a 0) (GX b 0 ((((([]:W2)).length:Int)).toNat) 1)),f] [1,0] Z) ⟨GX b 0 ((((([]:W2)).length:Int)).toNat) 1,f,_,c,⟨Z,Z⟩,Z⟩
def NH(N:Nat)(n:Int):Y1 (W2):=ck ((R64 (0 - ((([]:W2)).length:Int)))) (if((0 - ((([]:W2)).length:Int)):Int)<n then(OH N n).bind λa=>some a else some ([]:W2))
def Nf(N:Nat)(n:Int):Y1 (W2):=(KN N).bind λa=>if n<0 then none else NH N n 
theorem bY(N n r)(b:Nf N n=some r)(p:Ro)(a:Nat):Does prog 237 #[vP a 0,vI n] p (As a (V7 none) nS) (pO (As a (V7 none) nS) (oS 5 Ab8 r λs_0=>(oE (vT #[]) [(As a (vP a 0) s_0)]))):=by
 unfold Nf at b
 refine BZ follows func237 Z 25 Z _ fz2 (λ_ _ h_ _=>h_) (λf=> ?_)
 refine Ad<|rn 1 Z<|kB b λq g b=>gM (Ls:=[(As a (V7 none) nS)]) (FL:=[(As a (V7 none) nS)]) [0] (cF Xj) (λo w hn_ z_=>TS N  _ g _ a) ?_
 rintro _ _ ⟨rfl,rfl⟩
 refine AK (Ls:=[(As a (vP a 0) nS)]) (Ls':=[(As a (vP a 0) nS)]) [0] Z Z<|Aj<|Cs (λtt ll=>(NH N n  =some r)/\Is [(0,vP a 0),(1,vI n)] (As a (vP a 0) nS) tt ll) ?_ ?_
 ·refine AZ Z<|aD b Z (λd b=> ?_) (λd b=> ?_)
  ·refine Ah<|rn 1 Z ?_
   cases b
  refine Ac<|fg _ (Sub.of (suK _ suN)) ?_
  exact⟨b,Ag Z Z⟩
 clear b;rintro t l ⟨b,⟨T,rfl⟩,rfl⟩
 unfold NH at b
 refine Aa λs h=>HS [] (by decide+kernel) (λu=>AN)<|rm 4 [0] Z<|r_W (vI 0) Z (iT Z Z Z)<|rm 4 [0] Z<|rL (.inl ⟨Z,Z⟩) Z<|kC b λi b=>rX i Z<|rz Z<|h _ _ ?_
 refine aD b Z (λj b=> ?_) (λj b=> ?_)
 ·refine Ah<|rn 2 Z<|kB b λv k b=>gM (Ls:=[(As a (vP a 0) nS)]) (FL:=[(As a (vP a 0) nS)]) [0] (cF ou) (λo w hn_ z_=>bX N n _ k _ a) ?_
  rintro _ _ ⟨e,c,_,m,⟨rfl,rfl⟩,rfl⟩
  refine AK (Ls:=[c,(As a (vP a 0) e)]) (Ls':=[(As a (vP a 0) e),c]) [1,0] Z Z<|Aj ?_
  cases b
  refine Xb (v0:=vT #[]) (O:=[c,(As a (vP a 0) e)]) Z (W5 [(As a (vP a 0) e),c] [1,0] Z) ⟨e,c,_,m,⟨Z,Z⟩,Z⟩
 refine Ac ?_
 cases b
 refine Xb (v0:=vT #[]) (O:=[[],(As a (vP a 0) nS)]) Z (W6 (Ls:=[(As a (vP a 0) nS),[]]) (Ls0:=[(As a (vP a 0) nS)]) Z [1,0] Z) ⟨nS,[],_,Sl.nil,⟨Z,Z⟩,Z⟩
def II(N:Nat)(c:Int)(b:Y3):Y1 Int:=if b=true then some (IntKind.i32.wrap (c+32))else(CP N c 1024 1039).bind λa=>if a=true then some (IntKind.i32.wrap (c+80))else if c=962 then some 963 else some c
def Ni(N:Nat)(c:Int):Y1 Int:=(JX N c).bind λf=>if f=true then(CP N c 65 90).bind λd=>if d=true then II N c d else(CP N c 192 222).bind λa=>if a=true then II N c a else(CP N c 913 937).bind λb=>if b=true then II N c b else(CP N c 1040 1071).bind λe=>II N c e else some c
theorem cz(N c r)(a:Ni N c=some r):Gives prog 239 #[Value.int .i32 c] (Value.int .i32 r):=by
 unfold Ni at a
 refine Au follows func239 Z 28 Z _ fz1 (λp=> ?_)
 refine AZ Z<|Aa λA q=>Ai<|Ad<|rn 1 Z<|kB a λB s a=>rc _ (cF ek) (Sj N c _ s)<|rz Z<|BS _ Z (λb=> ?_) (λb=> ?_)
 ·replace a:=ifn (Bool.eq_false_iff.1 (DG b)) a
  refine AZ Z ?_
  cases a
  exact aR eE1
 replace a:=ifp (DH b) a
 refine Cs (λtt ll=> ∃(d:Y3),(II N c d=some r)/\Is [(0,Value.int .i32 c),(8,vB d)] [] tt ll) ?_ ?_
 ·refine Ad<|rn 1 Z<|kB a λu e a=>rc _ (cF KJ) (FH N c 65 90 _ e)<|rz Z<|aB a Z (λf a=> ?_) (λf a=> ?_)
  ·refine Ac<|fg _ (Sub.of suN) ?_
   exact⟨u,a,Ag Z Z⟩
  refine Ad<|rn 1 Z<|kB a λv g a=>rc _ (cF KJ) (FH N c 192 222 _ g)<|rz Z<|aB a Z (λh a=> ?_) (λh a=> ?_)
  ·refine Ac<|fg _ (Sub.of suN) ?_
   exact⟨v,a,Ag Z Z⟩
  refine Ad<|rn 1 Z<|kB a λw i a=>rc _ (cF KJ) (FH N c 913 937 _ i)<|rz Z<|aB a Z (λj a=> ?_) (λj a=> ?_)
  ·refine Ac<|fg _ (Sub.of suN) ?_
   exact⟨w,a,Ag Z Z⟩
  refine Ah<|rn 1 Z<|kB a λx k a=>rc _ (cF KJ) (FH N c 1040 1071 _ k)<|rz Z<|fg _ (Sub.of suN) ?_
  exact⟨x,a,Ag Z Z⟩
 clear a;rintro t l ⟨d,a,⟨T,rfl⟩,rfl⟩
 unfold II at a
 refine aB a Z (λy a=> ?_) (λy a=> ?_)
 ·refine AZ Z ?_
  cases a
  exact aR eE1
 refine Ad<|rn 1 Z<|kB a λz m a=>rc _ (cF KJ) (FH N c 1024 1039 _ m)<|rz Z<|aB a Z (λn a=> ?_) (λn a=> ?_)
 ·refine AZ Z ?_
  cases a
  exact aR eE1
 refine AZ Z<|aE a Z (λo a=> ?_) (λo a=> ?_)
 ·refine AZ Z ?_
  cases a
  exact aR eE1
 refine Ac<|q _ _ ?_
 refine AZ Z ?_
 cases a
 exact aR eE1
def ME(_:Nat)(b:W2):Y1 (W2):=some b
theorem TR(N b r)(g:ME N b=some r)(h:Ro)(a:Nat)(c:Y2)(d:Y0 Bl)(i:Sl 5 Ab8 c b d):Does prog 258 #[vP a 0] h (V2 [(As a (V7 none) c),d]) (pO (V2 [(As a (V7 none) c),d]) (oI 5 Ab8 c r (oE (vT #[]) [(As a (vP a 0) c)]))):=by
 unfold ME at g
 refine BZ follows func258 Z 20 Z _ fz1 (λ_ _ h_ _=>h_) (λf=> ?_)
 refine AY [0] Z<|JO Z ?_
 refine Ah<|rn 2 Z<|cA 9 (p:=(pUp (λv_ U_=>v_=vP a 0/\U_=(As a (V7 none) c))))<|jR (Ls:=[(As a (V7 none) c),d]) (vP a 0) 0 Z Z Z Z Z (gX (TB:=335) (cs:= #[V7 none,c]) Z Z Z Z Z Z Z (List.mem_singleton.2 Z)) (λ_ _ _ _ _=>Iff.rfl)<|cA 10 (p:=(pUp (λv_ U_=>v_=vP a 0/\U_=(As a (V7 none) c)))) ?_
 refine jR (Ls:=[(As a (V7 none) c),d]) (vP a 0) 0 Z Z Z Z Z (λw_ _=>ZP (args:= #[vP a 0]) (e:=Extern.AbiNoEscape.same) (w':=w_) (bm Z) func274 (by kernel_rfl) (by kernel_rfl) (by kernel_rfl) (by kernel_rfl) Z) (λ_ _ _ _ _=>Iff.rfl)<|cA 11 (p:=(pUp (λv_ U_=>v_=vP a 0/\U_=(As a (V7 none) c))))<|jR (Ls:=[(As a (V7 none) c),d]) (vP a 0) 0 Z Z Z Z Z (Za (TB:=335) (cs:= #[V7 none,c]) 2 Z Z Z Z Z (List.mem_singleton.2 Z) Z (by kernel_rfl)) (λ_ _ _ _ _=>Iff.rfl)<|rn 2 Z ?_
 refine ry [0] Z ?_
 cases g
 refine Xb (v0:=vT #[]) (O:=[d,(As a (vP a 0) c)]) Z (W5 [(As a (vP a 0) c),d] [1,0] Z) ⟨d,_,i,⟨Z,Z⟩,Z⟩
def ld(p:W2)(a:Int)(b:Y3):Y1 (W2):=if b=true then ck ((0:Int)<=((18#64).toNat:Int)) (ck ((0:Int)<=((12#64).toNat:Int)) (ck ((0:Int)<=((6#64).toNat:Int)) (ck ((p).length+([((240:UInt8)|||(BI (FI a 18))),((128:UInt8)|||((BI (FI a 12))&&&(63:UInt8))),((128:UInt8)|||((BI (FI a 6))&&&(63:UInt8))),((128:UInt8)|||((BI a)&&&(63:UInt8)))]).length<=140737488355328) (some ((p++([((240:UInt8)|||(BI (FI a 18))),((128:UInt8)|||((BI (FI a 12))&&&(63:UInt8))),((128:UInt8)|||((BI (FI a 6))&&&(63:UInt8))),((128:UInt8)|||((BI a)&&&(63:UInt8)))])))))))else ck ((p).length+([(239:UInt8),(191:UInt8),(189:UInt8)]).length<=140737488355328) (some (p++([(239:UInt8),(191:UInt8),(189:UInt8)])))
def bM(p:W2)(a:Int)(b:Y3):Y1 (W2):=if b=true then ck ((0:Int)<=((12#64).toNat:Int)) (ck ((0:Int)<=((6#64).toNat:Int)) (ck ((p).length+([((224:UInt8)|||(BI (FI a 12))),((128:UInt8)|||((BI (FI a 6))&&&(63:UInt8))),((128:UInt8)|||((BI a)&&&(63:UInt8)))]).length<=140737488355328) (some ((p++([((224:UInt8)|||(BI (FI a 12))),((128:UInt8)|||((BI (FI a 6))&&&(63:UInt8))),((128:UInt8)|||((BI a)&&&(63:UInt8)))]))))))else if((((LV a).toNat:Nat):Int):Int)>65535 then ld p a (decide (((((LV a).toNat:Nat):Int):Int)<=1114111))else ld p a false
def uNm(_:Nat)(p:W2)(a:Int):Y1 (W2):=if((((LV a).toNat:Nat):Int):Int)<=2047 then ck ((0:Int)<=((6#64).toNat:Int)) (ck ((p).length+([((192:UInt8)|||(BI (FI a 6))),((128:UInt8)|||((BI a)&&&(63:UInt8)))]).length<=140737488355328) (some ((p++([((192:UInt8)|||(BI (FI a 6))),((128:UInt8)|||((BI a)&&&(63:UInt8)))])))))else if((((LV a).toNat:Nat):Int):Int)<55296 then bM p a (decide (((((LV a).toNat:Nat):Int):Int)<55296))else if(57343:Int)<(((LV a).toNat:Nat):Int)then bM p a (decide (((((LV a).toNat:Nat):Int):Int)<=65535))else bM p a false
theorem uNg(N p a r)(b:uNm N p a=some r)(ro:Ro)(I:Y2)(c:Y0 Bl)(J:Sl 5 Ab8 I p c):Does prog 276 #[I,Value.int .i32 a] ro (V2 [c]) (pO (V2 [c]) (oS 5 Ab8 r λs_0=>(oE s_0 []))):=by
 unfold uNm at b
 refine BZ follows func276 Z 78 Z _ fz2 (λ_ _ h_ _=>h_) (λH=> ?_)
 refine AZ Z<|Ad<|rn 1 Z<|r_w (Value.int .u32 (((LV a).toNat:Nat):Int)) Z Z (eV a) (λ_=>Z)<|rz Z<|Ai<|AZ Z<|aD b Z (λK b=> ?_) (λK b=> ?_)
 ·refine Ad<|rn 2 Z<|kC b λad b=>r_W (Value.int .i32 (FI a 6)) Z (RP (x:=a) 6 Z Z)<|r_w (Value.int .u8 ((((BI (FI a 6)).toNat:Nat):Int))) Z Z (MQ (FI a 6)) (λ_=>Z)<|r_X (Value.int .u8 (((((192:UInt8)|||(BI (FI a 6))).toNat:Nat):Int))) Z (bJ (192:UInt8) (BI (FI a 6))) Z<|rn 1 Z<|r_w (Value.int .u8 (((BI a).toNat:Nat):Int)) Z Z (MQ a) (λ_=>Z)<|r_X (Value.int .u8 (((((BI a)&&&(63:UInt8)).toNat:Nat):Int))) Z (ZG (BI a) (63:UInt8)) Z ?_
  refine r_X (Value.int .u8 (((((128:UInt8)|||((BI a)&&&(63:UInt8))).toNat:Nat):Int))) Z (bJ (128:UInt8) ((BI a)&&&(63:UInt8))) Z<|gB (Ls:=[c]) 5 encY [((192:UInt8)|||(BI (FI a 6))),((128:UInt8)|||((BI a)&&&(63:UInt8)))] (λs7 L H9=> ?_)
  refine kC b λf b=>cC 24<|Ln (cs0:=[]) (Ls:=[c,L]) 0 (En:=Ab8) Z Z Z Z Z J Z (λo w z_=>PG ((AB H9 (Al (Ls:=[c,L]) (k:=1) Z Z)) o w z_)) Z Z Z Z Z (LB f Z) (LA f Z) Z (λA j M=> ?_)
  refine rz Z ?_
  cases b
  refine AU (λP=>CI (v0:=A) (O:=[j]) (Gl Z) (W5 [j,L] [0] Z) ⟨A,j,_,M,⟨Z,Z⟩,Z⟩)
 refine Cs (λtt ll=> ∃(m:Y3),(bM p a m=some r)/\Is [(0,I),(1,Value.int .i32 a),(5,Value.int .u32 (((LV a).toNat:Nat):Int)),(25,vB m)] (V2 [c]) tt ll) ?_ ?_
 ·refine AZ Z<|aD b Z (λB b=> ?_) (λB b=> ?_)
  ·refine Ac<|fg _ (W5 [c] [0] Z) ?_
   exact⟨decide (((((LV a).toNat:Nat):Int):Int)<55296),b,Ag Z Z⟩
  refine Ah<|rn 3 Z ?_
  rcases d:(decide ((57343:Int)<(((LV a).toNat:Nat):Int)))with _|_
  ·replace b:=iF d b
   refine rz Z<|fg _ (W5 [c] [0] Z) ?_
   exact⟨false,b,Ag (by first|rfl|(simp only [d];done)|(simp only [d];rfl)|(simp only [BB];rfl)) Z⟩
  replace b:=iD d b
  refine rz Z<|fg _ (W5 [c] [0] Z) ?_
  exact⟨decide (((((LV a).toNat:Nat):Int):Int)<=65535),b,Ag (by first|rfl|(simp only [d];done)|(simp only [d];rfl)|(simp only [BB];rfl)) Z⟩
 clear b;rintro t l ⟨m,b,⟨T,rfl⟩,rfl⟩
 unfold bM at b
 refine aB b Z (λC b=> ?_) (λC b=> ?_)
 ·refine Ad<|rn 2 Z<|kC b λX b=>r_W (Value.int .i32 (FI a 12)) Z (RP (x:=a) 12 Z Z)<|r_w (Value.int .u8 ((((BI (FI a 12)).toNat:Nat):Int))) Z Z (MQ (FI a 12)) (λ_=>Z)<|r_X (Value.int .u8 (((((224:UInt8)|||(BI (FI a 12))).toNat:Nat):Int))) Z (bJ (224:UInt8) (BI (FI a 12))) Z<|rn 1 Z<|kC b λY b=>r_W (Value.int .i32 (FI a 6)) Z (RP (x:=a) 6 Z Z)<|r_w (Value.int .u8 ((((BI (FI a 6)).toNat:Nat):Int))) Z Z (MQ (FI a 6)) (λ_=>Z)<|r_X (Value.int .u8 (((((BI (FI a 6))&&&(63:UInt8)).toNat:Nat):Int))) Z (ZG (BI (FI a 6)) (63:UInt8)) Z<|r_X (Value.int .u8 (((((128:UInt8)|||((BI (FI a 6))&&&(63:UInt8))).toNat:Nat):Int))) Z (bJ (128:UInt8) ((BI (FI a 6))&&&(63:UInt8))) Z<|rn 1 Z<|r_w (Value.int .u8 (((BI a).toNat:Nat):Int)) Z Z (MQ a) (λ_=>Z) ?_
  refine r_X (Value.int .u8 (((((BI a)&&&(63:UInt8)).toNat:Nat):Int))) Z (ZG (BI a) (63:UInt8)) Z<|r_X (Value.int .u8 (((((128:UInt8)|||((BI a)&&&(63:UInt8))).toNat:Nat):Int))) Z (bJ (128:UInt8) ((BI a)&&&(63:UInt8))) Z<|cD 48 ?_
  refine KP (cs0:=[]) (Ls:=[c]) 5 encY [((224:UInt8)|||(BI (FI a 12))),((128:UInt8)|||((BI (FI a 6))&&&(63:UInt8))),((128:UInt8)|||((BI a)&&&(63:UInt8)))] [Value.int .u8 (((((224:UInt8)|||(BI (FI a 12))).toNat:Nat):Int)),Value.int .u8 (((((128:UInt8)|||((BI (FI a 6))&&&(63:UInt8))).toNat:Nat):Int)),Value.int .u8 (((((128:UInt8)|||((BI a)&&&(63:UInt8))).toNat:Nat):Int))] [Value.int .u8 0,Value.int .u8 0,Value.int .u8 0] Z Z Z Z Z Z Z (by kernel_rfl) (by kernel_rfl) Z Z Z (λaf n Q=> ?_)
  refine kC b λg b=>cC 49<|Ln (cs0:=[]) (Ls:=[c,n]) 0 (En:=Ab8) Z Z Z Z Z J Z (λo w z_=>PG ((AB Q (Al (Ls:=[c,n]) (k:=1) Z Z)) o w z_)) Z Z Z Z Z (LB g Z) (LA g Z) Z (λD q R=> ?_)
  refine rz Z ?_
  cases b
  refine AU (λP=>CI (v0:=D) (O:=[q]) (Gl Z) (W5 [q,n] [0] Z) ⟨D,q,_,R,⟨Z,Z⟩,Z⟩)
 refine Cs (λtt ll=> ∃(s:Y3),(ld p a s=some r)/\Is [(0,I),(1,Value.int .i32 a),(50,vB s)] (V2 [c]) tt ll) ?_ ?_
 ·refine Ah<|rn 3 Z ?_
  rcases e:(decide (((((LV a).toNat:Nat):Int):Int)>65535))with _|_
  ·replace b:=iF e b
   refine rz Z<|fg _ (W5 [c] [0] Z) ?_
   exact⟨false,b,Ag (by first|rfl|(simp only [e];done)|(simp only [e];rfl)|(simp only [BB];rfl)) Z⟩
  replace b:=iD e b
  refine rz Z<|fg _ (W5 [c] [0] Z) ?_
  exact⟨decide (((((LV a).toNat:Nat):Int):Int)<=1114111),b,Ag (by first|rfl|(simp only [e];done)|(simp only [e];rfl)|(simp only [BB];rfl)) Z⟩
 clear b;rintro t l ⟨s,b,⟨T,rfl⟩,rfl⟩
 unfold ld at b
 refine aB b Z (λE b=> ?_) (λE b=> ?_)
 ·refine Ad<|rn 2 Z<|kC b λaa b=>r_W (Value.int .i32 (FI a 18)) Z (RP (x:=a) 18 Z Z)<|r_w (Value.int .u8 ((((BI (FI a 18)).toNat:Nat):Int))) Z Z (MQ (FI a 18)) (λ_=>Z)<|r_X (Value.int .u8 (((((240:UInt8)|||(BI (FI a 18))).toNat:Nat):Int))) Z (bJ (240:UInt8) (BI (FI a 18))) Z<|rn 1 Z<|kC b λab b=>r_W (Value.int .i32 (FI a 12)) Z (RP (x:=a) 12 Z Z)<|r_w (Value.int .u8 ((((BI (FI a 12)).toNat:Nat):Int))) Z Z (MQ (FI a 12)) (λ_=>Z)<|r_X (Value.int .u8 (((((BI (FI a 12))&&&(63:UInt8)).toNat:Nat):Int))) Z (ZG (BI (FI a 12)) (63:UInt8)) Z<|r_X (Value.int .u8 (((((128:UInt8)|||((BI (FI a 12))&&&(63:UInt8))).toNat:Nat):Int))) Z (bJ (128:UInt8) ((BI (FI a 12))&&&(63:UInt8))) Z<|rn 1 Z<|kC b λac b=>r_W (Value.int .i32 (FI a 6)) Z (RP (x:=a) 6 Z Z)<|r_w (Value.int .u8 ((((BI (FI a 6)).toNat:Nat):Int))) Z Z (MQ (FI a 6)) (λ_=>Z)<|r_X (Value.int .u8 (((((BI (FI a 6))&&&(63:UInt8)).toNat:Nat):Int))) Z (ZG (BI (FI a 6)) (63:UInt8)) Z<|r_X (Value.int .u8 (((((128:UInt8)|||((BI (FI a 6))&&&(63:UInt8))).toNat:Nat):Int))) Z (bJ (128:UInt8) ((BI (FI a 6))&&&(63:UInt8))) Z<|rn 1 Z<|r_w (Value.int .u8 (((BI a).toNat:Nat):Int)) Z Z (MQ a) (λ_=>Z) ?_
  refine r_X (Value.int .u8 (((((BI a)&&&(63:UInt8)).toNat:Nat):Int))) Z (ZG (BI a) (63:UInt8)) Z<|r_X (Value.int .u8 (((((128:UInt8)|||((BI a)&&&(63:UInt8))).toNat:Nat):Int))) Z (bJ (128:UInt8) ((BI a)&&&(63:UInt8))) Z<|cD 76 ?_
  refine KP (cs0:=[]) (Ls:=[c]) 5 encY [((240:UInt8)|||(BI (FI a 18))),((128:UInt8)|||((BI (FI a 12))&&&(63:UInt8))),((128:UInt8)|||((BI (FI a 6))&&&(63:UInt8))),((128:UInt8)|||((BI a)&&&(63:UInt8)))] [Value.int .u8 (((((240:UInt8)|||(BI (FI a 18))).toNat:Nat):Int)),Value.int .u8 (((((128:UInt8)|||((BI (FI a 12))&&&(63:UInt8))).toNat:Nat):Int)),Value.int .u8 (((((128:UInt8)|||((BI (FI a 6))&&&(63:UInt8))).toNat:Nat):Int)),Value.int .u8 (((((128:UInt8)|||((BI a)&&&(63:UInt8))).toNat:Nat):Int))] [Value.int .u8 0,Value.int .u8 0,Value.int .u8 0,Value.int .u8 0] Z Z Z Z Z Z Z (by kernel_rfl) (by kernel_rfl) Z Z Z (λag u S=> ?_)
  refine kC b λh b=>cC 77<|Ln (cs0:=[]) (Ls:=[c,u]) 0 (En:=Ab8) Z Z Z Z Z J Z (λo w z_=>PG ((AB S (Al (Ls:=[c,u]) (k:=1) Z Z)) o w z_)) Z Z Z Z Z (LB h Z) (LA h Z) Z (λF v U=> ?_)
  refine rz Z ?_
  cases b
  refine AU (λP=>CI (v0:=F) (O:=[v]) (Gl Z) (W5 [v,u] [0] Z) ⟨F,v,_,U,⟨Z,Z⟩,Z⟩)
 refine Ad<|rn 1 Z<|gB (Ls:=[c]) 5 encY [(239:UInt8),(191:UInt8),(189:UInt8)] (λah y V=> ?_)
 refine kC b λi b=>cC 10<|Ln (cs0:=[]) (Ls:=[c,y]) 0 (En:=Ab8) Z Z Z Z Z J Z (λo w z_=>PG ((AB V (Al (Ls:=[c,y]) (k:=1) Z Z)) o w z_)) Z Z Z Z Z (LB i Z) (LA i Z) Z (λG z W=> ?_)
 refine rz Z ?_
 cases b
 refine AU (λP=>CI (v0:=G) (O:=[z]) (Gl Z) (W5 [z,y] [0] Z) ⟨G,z,_,W,⟨Z,Z⟩,Z⟩)
def TM(N:Nat)(p:W2)(a:Int):Y1 (W2):=if((((LV a).toNat:Nat):Int):Int)<=127 then ck ((p).length+([(BI a)]).length<=140737488355328) (some (p++([(BI a)])))else(uNm N p a).bind λb=>some b
theorem lf(N p d r)(b:TM N p d=some r)(z:Ro)(t:Y2)(c:Y0 Bl)(u:Sl 5 Ab8 t p c):Does prog 260 #[t,Value.int .i32 d] z (V2 [c]) (pO (V2 [c]) (oS 5 Ab8 r λs_0=>(oE s_0 []))):=by
 unfold TM at b
 refine BZ follows func260 Z 16 Z _ fz2 (λ_ _ h_ _=>h_) (λj=> ?_)
 refine AZ Z<|Aa λA l=>Ad<|rn 1 Z<|r_w (Value.int .u32 (((LV d).toNat:Nat):Int)) Z Z (eV d) (λ_=>Z)<|rz Z<|aD b Z (λm b=> ?_) (λm b=> ?_)
 ·refine Ad<|rn 2 Z<|r_w (Value.int .u8 (((BI d).toNat:Nat):Int)) Z Z (MQ d) (λ_=>Z)<|gB (Ls:=[c]) 5 encY [(BI d)] (λB n v=> ?_)
  refine kC b λf b=>cC 12<|Ln (cs0:=[]) (Ls:=[c,n]) 0 (En:=Ab8) Z Z Z Z Z u Z (λo w z_=>PG ((AB v (Al (Ls:=[c,n]) (k:=1) Z Z)) o w z_)) Z Z Z Z Z (LB f Z) (LA f Z) Z (λg e q=> ?_)
  refine rz Z ?_
  cases b
  refine AU (λx=>CI (v0:=g) (O:=[e]) (Gl Z) (W5 [e,n] [0] Z) ⟨g,e,_,q,⟨Z,Z⟩,Z⟩)
 refine Ac<|l _ _ ?_
 refine Ad<|rn 2 Z<|kB b λy h b=>gM (Ls:=[c]) (FL:=[c]) [0] (cF oe) (λo w hn_ z_=>uNg N p d _ h _ t c u) ?_
 rintro i _ ⟨_,a,_,s,⟨rfl,rfl⟩,rfl⟩
 refine AK (Ls:=[a]) (Ls':=[a]) [0] Z Z<|rz Z ?_
 cases b
 refine AU (λx=>CI (v0:=i) (O:=[a]) (Gl Z) (W5 [a] [0] Z) ⟨i,a,_,s,⟨Z,Z⟩,Z⟩)
def PD(N:Nat)(b:W2)(d:Int):Y1 (Int×(W2)):=(ME N b).bind λc=>ck ((c).length=(b).length) ((TM N c d).bind λa=>ck ((R64 ((a.length:Int) - (c.length:Int)))) (some (((a.length:Int) - (c.length:Int)),a)))
theorem TU(N b q r)(f:PD N b q=some r)(u:Ro)(a:Nat)(d:Y2)(h:Y0 Bl)(v:Sl 5 Ab8 d b h):Does prog 238 #[vP a 0,Value.int .i32 q] u (V2 [(As a (V7 none) d),h]) (pO (V2 [(As a (V7 none) d),h]) (oS 5 Ab8 r.2 λs_0=>(oE (vT #[vI r.1,V6]) [(As a (vP a 0) s_0)]))):=by
 unfold PD at f
 refine BZ follows func238 Z 30 Z _ fz2 (λ_ _ h_ _=>h_) (λm=> ?_)
 refine AZ Z<|Ad<|rn 1 Z<|kB f λn p f=>kC f λt f=>gM (Ls:=[(As a (V7 none) d),h]) (FL:=[(As a (V7 none) d),h]) [0,1] (cF Xj) (λo w hn_ z_=>TR N b _ p _ a d h v) ?_
 rintro _ _ ⟨i,_,s,⟨rfl,rfl⟩,rfl⟩
 refine AK (Ls:=[i,(As a (vP a 0) d)]) (Ls':=[(As a (vP a 0) d),i]) [1,0] Z Z<|Aj<|Ad<|rm 4 [0] Z<|rL (W7 s) Z<|rz Z<|Ad<|rm 6 [0] Z<|kB f λj k f=>gM (Ls:=[(As a (vP a 0) d),i]) (FL:=[i]) [1] (cF dV) (λo w hn_ z_=>lf N n q _ k _ d i s) ?_
 rintro e _ ⟨_,c,_,g,⟨rfl,rfl⟩,rfl⟩
 refine AK (Ls:=[(As a (vP a 0) d),c]) (Ls':=[(As a (vP a 0) d),c]) [0,1] Z Z<|rn 2 Z<|r_s (V2 [(As a (vP a 0) e),c]) 0 _ _ _ _ _ (#[vP a 0,e]) Z Z Z (CR Z (W7 g)) (.ofS Z Z (sS g AD)) Z Z<|Aj<|Ad<|rm 4 [0] Z<|rL (W7 g) Z<|rn 1 Z<|kC f λl f=>rX l Z<|rz Z<|CJ [(4,vI ((j.length:Int) - (n.length:Int))),(5,V6)] Z (λT=> ?_)
 cases f
 refine AU (λx=>CI (v0:=vT #[vI ((j.length:Int) - (n.length:Int)),V6]) (O:=[c,(As a (vP a 0) e)]) (Jg Z Z) (W5 [(As a (vP a 0) e),c] [1,0] Z) ⟨e,c,_,g,⟨Z,Z⟩,Z⟩)
def KM(_:Nat)(b:W2):Y1 (W2):=some b
theorem TQ(N b r)(f:KM N b=some r)(g:Ro)(a:Nat)(c:Y2)(d:Y0 Bl)(h:Sl 5 Ab8 c b d):Does prog 258 #[vP a 0] g (V2 [(As a (vP a 0) c),d]) (pO (V2 [(As a (vP a 0) c),d]) (oI 5 Ab8 c r (oE (vT #[]) [(As a (vP a 0) c)]))):=by
 unfold KM at f
 refine BZ follows func258 Z 20 Z _ fz1 (λ_ _ h_ _=>h_) (λe=> ?_)
 refine AY [0] Z<|Ch Z ?_
 refine Ad<|rm 5 [0] Z<|r_W (vB false) Z (te Z Z Z Z Z)<|Aj<|Ch Z ?_
 refine Ac ?_
 cases f
 refine Xb (v0:=vT #[]) (O:=[d,(As a (vP a 0) c)]) Z (W5 [(As a (vP a 0) c),d] [1,0] Z) ⟨d,_,h,⟨Z,Z⟩,Z⟩
def KO(N:Nat)(b:W2)(d:Int):Y1 (Int×(W2)):=(KM N b).bind λc=>ck ((c).length=(b).length) ((TM N c d).bind λa=>ck ((R64 ((a.length:Int) - (c.length:Int)))) (some (((a.length:Int) - (c.length:Int)),a)))
theorem TT(N b q r)(f:KO N b q=some r)(u:Ro)(a:Nat)(d:Y2)(h:Y0 Bl)(v:Sl 5 Ab8 d b h):Does prog 238 #[vP a 0,Value.int .i32 q] u (V2 [(As a (vP a 0) d),h]) (pO (V2 [(As a (vP a 0) d),h]) (oS 5 Ab8 r.2 λs_0=>(oE (vT #[vI r.1,V6]) [(As a (vP a 0) s_0)]))):=by
 unfold KO at f
 refine BZ follows func238 Z 30 Z _ fz2 (λ_ _ h_ _=>h_) (λm=> ?_)
 refine AZ Z<|Ad<|rn 1 Z<|kB f λn p f=>kC f λt f=>gM (Ls:=[(As a (vP a 0) d),h]) (FL:=[(As a (vP a 0) d),h]) [0,1] (cF Xj) (λo w hn_ z_=>TQ N b _ p _ a d h v) ?_
 rintro _ _ ⟨i,_,s,⟨rfl,rfl⟩,rfl⟩
 refine AK (Ls:=[i,(As a (vP a 0) d)]) (Ls':=[(As a (vP a 0) d),i]) [1,0] Z Z<|Aj<|Ad<|rm 4 [0] Z<|rL (W7 s) Z<|rz Z<|Ad<|rm 6 [0] Z<|kB f λj k f=>gM (Ls:=[(As a (vP a 0) d),i]) (FL:=[i]) [1] (cF dV) (λo w hn_ z_=>lf N n q _ k _ d i s) ?_
 rintro e _ ⟨_,c,_,g,⟨rfl,rfl⟩,rfl⟩
 refine AK (Ls:=[(As a (vP a 0) d),c]) (Ls':=[(As a (vP a 0) d),c]) [0,1] Z Z<|rn 2 Z<|r_s (V2 [(As a (vP a 0) e),c]) 0 _ _ _ _ _ (#[vP a 0,e]) Z Z Z (CR Z (W7 g)) (.ofS Z Z (sS g AD)) Z Z<|Aj<|Ad<|rm 4 [0] Z<|rL (W7 g) Z<|rn 1 Z<|kC f λl f=>rX l Z<|rz Z<|CJ [(4,vI ((j.length:Int) - (n.length:Int))),(5,V6)] Z (λT=> ?_)
 cases f
 refine AU (λx=>CI (v0:=vT #[vI ((j.length:Int) - (n.length:Int)),V6]) (O:=[c,(As a (vP a 0) e)]) (Jg Z Z) (W5 [(As a (vP a 0) e),c] [1,0] Z) ⟨e,c,_,g,⟨Z,Z⟩,Z⟩)
def Ki(N:Nat)(b:W2)(a:Int):Y1 (Int×(W2)):=KO N b a
set_option maxRecDepth 100000 in
theorem SU(N b g r)(j:Ki N b g=some r)(h:Ro)(a:Y2)(c:Y0 Bl)(i:Bd 335 5 a b c):Does prog 238 #[a,Value.int .i32 g] h (V2 [c]) (pO (V2 [c]) (oIB 335 5 a r.2 (oE (vT #[vI r.1,V6]) []))):=by
 rw [dt]
 obtain⟨b_,f_,s_,d,rfl,e,rfl⟩:=i
 cases f_
 ·exact yz (f:=true) (TU N b g r j h b_ s_ d e)
 exact yz (f:=true) (TT N b g r j h b_ s_ d e)
def Se(_:Nat)(b:W2):Y1 (W2):=ck ((b).length<=140737488355328) (some b)
theorem XM(N b r)(e:Se N b=some r)(l:Ro)(c:Nat)(a:Y2)(d:Y0 Bl)(j:Sl 5 Ab8 a b d):Does prog 240 #[vP c 0] l (V2 [(As c (V7 none) a),d]) (pO (V2 [(As c (V7 none) a),d]) (oE (vS r) [])):=by
 unfold Se at e
 refine BZ follows func240 Z 14 Z _ fz1 (λ_ _ h_ _=>h_) (λf=> ?_)
 refine AZ Z<|Aa λm g=>BO [(some 7,false),(some 13,true)] (conG prog [(7,λ_ _ v_ L_ U_=>(λv_ L_ U_=>eX a v_/\L_=[]/\U_=[]) v_ L_ U_),(13,λ_ _ v_ L_ U_=>(pUp (λv_ U_=>v_= .string ⟨(b).toArray⟩/\U_=Pb d)) v_ L_ U_)]) [] (by decide+kernel) (λk=>AN)<|rm 4 [0] Z<|uZ (Ls:=[(As c (V7 none) a),d]) 1 Z Z Z Z Z j Z Z (λ_ _ _ _ _=>Iff.rfl) (λn h=> ?_)
 refine rm 4 [0] Z<|rL (W7 j) Z<|kC e λi e=>lK (Ls:=[(As c (V7 none) a),d]) 1 (xs:=b) Z Z Z Z Z Z j h Z (by kernel_rfl) Z i (λ_ _ _ _ _=>Iff.rfl)<|AK (Ls:=[(As c (V7 none) a),Pb d]) (Ls':=[(As c (V7 none) a)]) [0] Z Z<|rz Z<|g _ _ ?_
 cases e
 refine AU (λk=>CI (v0:=vS b) (O:=[]) (Gl Z) (Sub.nil _) ⟨Z,Z⟩)
def MT(_:Nat)(b:W2):Y1 (W2):=ck ((b).length<=140737488355328) (some b)
theorem XL(N b r)(e:MT N b=some r)(l:Ro)(a:Nat)(c:Y2)(d:Y0 Bl)(j:Sl 5 Ab8 c b d):Does prog 240 #[vP a 0] l (V2 [(As a (vP a 0) c),d]) (pO (V2 [(As a (vP a 0) c),d]) (oE (vS r) [])):=by
 unfold MT at e
 refine BZ follows func240 Z 14 Z _ fz1 (λ_ _ h_ _=>h_) (λf=> ?_)
 refine AZ Z<|Aa λm g=>BO [(some 7,false),(some 13,true)] (conG prog [(7,λ_ _ v_ L_ U_=>(λv_ L_ U_=>eX c v_/\L_=[]/\U_=[]) v_ L_ U_),(13,λ_ _ v_ L_ U_=>(pUp (λv_ U_=>v_= .string ⟨(b).toArray⟩/\U_=Pb d)) v_ L_ U_)]) [] (by decide+kernel) (λk=>AN)<|rm 4 [0] Z<|uZ (Ls:=[(As a (vP a 0) c),d]) 1 Z Z Z Z Z j Z Z (λ_ _ _ _ _=>Iff.rfl) (λn h=> ?_)
 refine rm 4 [0] Z<|rL (W7 j) Z<|kC e λi e=>lK (Ls:=[(As a (vP a 0) c),d]) 1 (xs:=b) Z Z Z Z Z Z j h Z (by kernel_rfl) Z i (λ_ _ _ _ _=>Iff.rfl)<|AK (Ls:=[(As a (vP a 0) c),Pb d]) (Ls':=[(As a (vP a 0) c)]) [0] Z Z<|rz Z<|g _ _ ?_
 cases e
 refine AU (λk=>CI (v0:=vS b) (O:=[]) (Gl Z) (Sub.nil _) ⟨Z,Z⟩)
def NZ(N:Nat)(b:W2):Y1 (W2):=MT N b
set_option maxRecDepth 100000 in
theorem VK(N b r)(h:NZ N b=some r)(f:Ro)(e:Y2)(a:Y0 Bl)(g:Bd 335 5 e b a):Does prog 240 #[e] f (V2 [a]) (pO (V2 [a]) (oE (vS r) [])):=by
 rw [dt]
 obtain⟨b_,f_,s_,c,rfl,d,rfl⟩:=g
 cases f_
 ·exact XM N b r h f b_ s_ c d 
 exact XL N b r h f b_ s_ c d 
def Kz(N:Nat)(s:W2):Nat->W2->Nat->Y1 (W2)
  |0,_,_=>none
  |e+1,a,b=>if b<(s).length then ck (b<(s).length) ((Ni N ((runeAt s b:Nat):Int)).bind λc=>(Ki N a c).bind λd=>(Kz N s e) d.2 (Jh s b))else(NZ N a).bind λf=>some f
def MF(N:Nat)(s:W2):Y1 (W2):=(Nf N (s.length:Int)).bind λa=>Kz N s N a 0
theorem We(N s r)(g:MF N s=some r):Gives prog 199 #[vS s] (vS r):=by
 unfold MF at g
 refine Au follows func199 Z 18 Z _ fz1 (λA=> ?_)
 refine AZ Z<|Ad<|rA Z λe=>Aj<|Ad<|rn 1 Z<|r_W (vI (s.length:Int)) Z (NN Z Z Z)<|kB g λG B g=>gM (Ls:=[(As e (V7 none) nS)]) (FL:=[(As e (V7 none) nS)]) [0] (cF oU) (λo w hn_ z_=>bY N _ _ B _ e) ?_
 rintro _ _ ⟨k,m,_,H,⟨rfl,rfl⟩,rfl⟩
 refine AK (Ls:=[m,(As e (vP e 0) k)]) (Ls':=[(As e (vP e 0) k),m]) [1,0] Z Z<|AK (Ls:=[(As e (vP e 0) k),m]) (Ls':=[(As e (vP e 0) k),m]) [0,1] Z Z<|xZ (Ls:=[(As e (vP e 0) k),m]) (Ls':=[(V2 [(As e (vP e 0) k),m])]) (by simp only [List.flatten_cons,List.flatten_nil,List.append_nil,j0])<|au (Ls:=[(V2 [(As e (vP e 0) k),m])]) (p:=λS_=>Bd 335 5 (vP e 0) G S_) 0 Z ⟨e,true,_,_,Z,H,Z⟩ (λi C=> ?_)
 refine Aj<|Aa λI n=>Ad<|rn 1 Z<|cB 10 (p:=(pIt s))<|ib s Z Z Z Z Z (λ_ _ _ _ _=>Iff.rfl) (λc=> ?_)
 refine sC (Ls:=[i])<|AK (Ls:=[i,[(c,(itT s 0), #[])]]) (Ls':=[[(c,(itT s 0), #[])],i]) [1,0] Z Z<|Aj<|Ai<|BF _ (W5 [[(c,(itT s 0), #[])],i] [0,1] Z)<|AL (λtt ll nn=> ∃(h:Nat) (d:W2) (b:Nat),(Kz N s h d b=some r)/\ ∃(a:Y0 Bl),Bd 335 5 (vP e 0) d a/\Is [(3,vP e 0),(10,vP c 0)] (V2 [[(c,(itT s b), #[])],a]) tt ll/\nn=h+1) (N+1) ?_ ?_
 ·exact⟨N,G,0,g,i,C,Ag Z Z,Z⟩
 clear g;rintro t l _ ⟨h,d,b,g,a,f,⟨⟨T,rfl⟩,rfl⟩,rfl⟩
 rcases h with _|h
 ·exact absurd g (by simp [Kz])
 rw [Kz] at g
 refine Ad<|cA 11 (p:=(pNx c s b))<|lL (lN:=(V2 [[(c,(itT s (Jh s b)), #[])],a])) 0 c s b Z Z Z Z Z Z (λ_ _ _ _ _=>Iff.rfl) Z<|r_W (vB (decide (b<(s).length))) Z (GV (dw s b))<|Aj<|Aa λJ q=>aD g Z (λu g=> ?_) (λu g=> ?_)
 ·refine Ac<|q _ _ ?_
  refine Ai<|Ad<|kC g λv g=>r_W (Value.int .i32 ((runeAt s b:Nat):Int)) Z (GV (dv v))<|rz Z<|Ah<|rn 1 Z<|kB g λD x g=>rc _ (cF oQ) (cz N _ _ x)<|kB g λE y g=>gM (Ls:=[[(c,(itT s (Jh s b)), #[])],a]) (FL:=[a]) [1] (cF oT) (λo w hn_ z_=>SU N _ D _ y _ (vP e 0) a f) ?_
  rintro _ _ ⟨j,_,F,⟨rfl,rfl⟩,rfl⟩
  refine AK (Ls:=[[(c,(itT s (Jh s b)), #[])],j]) (Ls':=[[(c,(itT s (Jh s b)), #[])],j]) [0,1] Z Z<|Aj<|fg _ (W5 [[(c,(itT s (Jh s b)), #[])],j] [0,1] Z) ?_
  exact⟨h+1,by omega,h,E.2,Jh s b,g,j,F,Ag Z Z,Z⟩
 refine AM<|n _ _ ?_
 refine Ad<|kB g λK z g=>gM (Ls:=[[(c,(itT s (Jh s b)), #[])],a]) (FL:=[a]) [1] (cF oP) (λo w hn_ z_=>VK N _ _ z _ (vP e 0) a f) ?_
 rintro _ _ ⟨rfl,rfl⟩
 refine AK (Ls:=[[(c,(itT s (Jh s b)), #[])]]) (Ls':=[[(c,(itT s (Jh s b)), #[])]]) [0] Z Z<|rz Z ?_
 cases g
 exact aR eE1
def Kj(N:Nat)(a b:W2):Y1 Y3:=(MF N a).bind λc=>some (c==b)
theorem Tg(N a b r)(e:Kj N a b=some r)(i:Ro)(c:Nat)(d:Blk i c [vS b]):Does prog 201 #[vS a,vP c 0] i [] (pV (vB r)):=by
 unfold Kj at e
 refine Ak follows func201 Z 8 Z _ fz2 (λf=> ?_)
 refine AZ Z<|Aa λk g=>HS [] (by decide+kernel) (λl=>AN)<|rn 1 Z<|kB e λj h e=>rc _ (cF eh) (We N a _ h)<|Ii (vS b) (vs:=[vS b]) (o:=0) Z Z (Bg d) Z<|r_W (vB (j==b)) Z (FQ Z Z)<|rz Z<|g _ _ ?_
 cases e
 exact aR eV1
def bT(N:Nat)(s:Y0 (W2))(b:W2):Nat->Int->Y1 Int
  |0,_=>none
  |d+1,a=>if a<(s.length:Int)then ck (0<=a/\a<(s.length:Int)) ((Kj N (s[a.toNat]!) b).bind λc=>if c=true then some a else ck (R64 (a+1)) ((bT N s b d) (a+1)))else some (-1)
def sfm(N:Nat)(s:Y0 (W2))(a:W2):Y1 Int:=bT N s a N 0
theorem sfg(N s c r)(a:sfm N s c=some r)(u v)(x:Rd Aa4 u v s)(b:Nat)(f:Blk u b [vS c]):Does prog 200 #[v,vF 201 #[] #[vP b 0]] u [] (pV (vI r)):=by
 unfold sfm at a
 refine Ak follows func200 Z 19 Z _ fz2 (λk=> ?_)
 refine AZ Z<|Aa λz m=>Ad<|rn 1 Z<|rL (W8 x) Z<|rz Z<|Ai<|AL (λtt ll nn=> ∃(g:Nat) (d:Int),(bT N s c g d=some r)/\Is [(0,v),(1,vF 201 #[] #[vP b 0]),(7,vI (s.length:Int)),(8,vI d)] [] tt ll/\nn=g+1) (N+1) ?_ ?_
 ·exact⟨N,0,a,Ag Z Z,Z⟩
 clear a;rintro t l _ ⟨g,d,a,⟨⟨T,rfl⟩,rfl⟩,rfl⟩
 rcases g with _|g
 ·exact absurd a (by simp [bT])
 rw [bT] at a
 refine AZ Z<|Aa λA n=>aD a Z (λp a=> ?_) (λp a=> ?_)
 ·refine Ac<|n _ _ ?_
  refine Aa λB q=>Ai<|AZ Z<|Ad<|rn 3 Z<|kC a λe a=>rI (W8 x) e Z<|rE (Ay x) e 0 Z<|kB a λy h a=>gV _ (Cc (caps:=[vP b 0]) Z pB Z) (λo w z_=>Tg N _ c _ h z_.view b (Bg f o w z_))<|Aj<|aB a Z (λi a=> ?_) (λi a=> ?_)
  ·refine AZ Z ?_
   cases a
   exact aR eV1
  refine Ac<|q _ _ ?_
  refine Ah<|kC a λj a=>rX j Z<|rz Z<|fg _ (Sub.of suN) ?_
  exact⟨g+1,by omega,g,(d+1),a,Ag Z Z,Z⟩
 refine AM<|m _ _ ?_
 refine AZ Z ?_
 cases a
 exact aR eV1
def IH(N:Nat)(b:Y0 (W2))(s:W2):Y1 Int:=(MF N s).bind λa=>(sfm N b a).bind λc=>some c
theorem Tf(N f s r)(b:IH N f s=some r)(i a)(g:Rd Aa4 i a f):Does prog 130 #[a,vS s] i [] (pV (vI r)):=by
 unfold IH at b
 refine Ak follows func130 Z 11 Z _ fz2 (λc=> ?_)
 refine AZ Z<|Ad<|rn 1 Z<|kB b λj d b=>rc _ (cF eh) (We N s _ d)<|rA Z λh=>ry [0] Z<|Ad<|rn 1 Z<|r_W (vF 201 #[] #[vP h 0]) Z (Jt Z)<|kB b λk e b=>gV _ (cF pC) (λo w z_=>sfg N f j _ e z_.view a ((Ay g) o w z_) h (Da 0 Z Z o w z_))<|rz Z ?_
 cases b
 exact aR eV1
def LT(N:Nat)(a:Y0 (W2))(i:Int):Y1 Int:=ck (0<=i/\i<(a.length:Int)) ((NP N (a[i.toNat]!)).bind λc=>if c=true then ck (0<=i/\i<=(a.length:Int)) (ck (0<=i/\i<(a.length:Int)) ((IH N (((a).take (i.toNat)).drop 0) (a[i.toNat]!)).bind λb=>if b>=0 then some 6 else some 0))else some 4)
theorem UD(N d i r)(c:LT N d i=some r)(s b)(a:Rd Aa4 s b d):Does prog 132 #[b,vI i] s [] (pV (vI r)):=by
 unfold LT at c
 refine Ak follows func132 Z 22 Z _ fz2 (λl=> ?_)
 refine AZ Z<|Aa λu m=>Ai<|Ad<|rn 2 Z<|kC c λj c=>rI (W8 a) j Z<|rE (Ay a) j 0 Z<|kB c λv n c=>rc _ (cF eI) (YS N _ _ n)<|rz Z<|BS _ Z (λh=> ?_) (λh=> ?_)
 ·replace c:=ifn (Bool.eq_false_iff.1 (DG h)) c
  refine AZ Z ?_
  cases c
  exact aR eV1
 replace c:=ifp (DH h) c
 refine Aa λx p=>BO [(some 20,false)] (conG prog [(20,cV (IH N (((d).take (i.toNat)).drop 0) (d[i.toNat]!)) λq=>vI q)]) [] (by decide+kernel) (λy=>AN)<|rn 2 Z<|kC c λe c=>r_W (GX b 0 (i.toNat) 1) Z (GV (ID Z Z Z Z (W8 a) e))<|rn 2 Z<|kC c λf c=>rI (W8 a) f Z<|rE (Ay a) f 0 Z<|kB c λt g c=>rg _ (cF eG) (λo w z_=>Tf N _ _ _ g z_.view (GX b 0 (i.toNat) 1) ((Ql (Ay a) (Nat.zero_le _) (Fy e.2)) o w z_)) (Hq g)<|rz Z<|p _ _ ?_
 refine aD c Z (λk c=> ?_) (λk c=> ?_)
 ·refine AZ Z ?_
  cases c
  exact aR eV1
 refine Ac<|m _ _ ?_
 refine AZ Z ?_
 cases c
 exact aR eV1
end Go.Proofs.YtjnanfkpdhmnpaaGreatDoor
