import Derived.Test.YtjlomkippigejaaGreatDoorBd
namespace Go.Proofs.YtjlomkippigejaaGreatDoor
open Go Go.RowKit Go.Eng _root_.Go.Proofs.Tryz
set_option linter.unusedSimpArgs false
set_option linter.unusedVariables false
set_option maxRecDepth 100000
set_option maxHeartbeats 80000000
abbrev Ku(b:Nat)(x0:Value)(x1:Value)(x2:Value)(x3:Value)(x4:Value)(x5:Value)(x6:Value)(x7:Value)(x8:Value)(x9:Value)(x10:Value)(x11:Value)(x12:Value)(x13:Value)(x14:Value)(x15:Int)(x16:Int)(x17:Int):List Bl:=[(b,35, #[x0,x1,x2,x3,x4,x5,x6,x7,x8,x9,x10,x11,x12,x13,x14,vI x15,vI x16,vI x17])]
abbrev ZQ(b:Nat)(x0:W2)(x1:Value)(x2:Int)(x3:Int)(x4:Int)(x5:Int):List Bl:=[(b,94, #[vS x0,x1,vI x2,vI x3,vI x4,vI x5])]
abbrev gJ(b:Nat)(x0:Value):List Bl:=[(b,24, #[x0])]
abbrev As(b:Nat)(x0:Value)(x1:Value):List Bl:=[(b,357, #[x0,x1])]
def BZ(N:Nat)(m:Ao):Nat->Int->Option (Int×Int×Int)
  |0,_=>none
  |c+1,a=>if a<15 then(Gf N m a).bind λb=>if(b.2:Int)≠0 then some (a,b.1,b.2)else ck (R64 (a+1)) ((BZ N m c) (a+1))else some (0,0,0)
def Hr(N:Nat)(m:Ao):Option (Int×Int×Int):=BZ N m N 0
theorem Pe(N m r)(a:Hr N m=some r)(q)(h:AB)(u:Aa1 q h m):Does prog 14 #[vA (Ac m h)] q [] (pV (vT #[vI r.1,vI r.2.1,vI r.2.2])):=by
 unfold Hr at a
 refine Al follows func14 Z 23 Z _ fz1 (λg=> ?_)
 refine Ad<|rA Z λp=>rz Z<|Aa λv i=>AZ Z<|Ai<|AH (λtt ll nn=> ∃(c:Nat) (b:Int),(BZ N m c b=some r)/\Is [(1,vP p 0),(5,vI b)] [(p,35,(Ac m h))] tt ll/\nn=c+1) (N+1) ?_ ?_
 ·exact⟨N,0,a,Ag Z Z,Z⟩
 clear a;rintro t l _ ⟨c,b,a,⟨⟨T,rfl⟩,rfl⟩,rfl⟩
 rcases c with _|c
 ·exact absurd a (by simp [BZ])
 rw [BZ] at a
 refine Aa λx j=>AZ Z<|aD a Z (λk a=> ?_) (λk a=> ?_)
 ·refine Ab<|j _ _ ?_
  refine Aa λy n=>Ai<|Ad<|rm 2 [0] Z<|kB a λs d a=>gV _ (cF th) (λo w z_=>PF N m b _ d z_.view h (Aa1.mono z_.ro_cell u))<|rz Z<|AZ Z<|aN a Z (λe a=> ?_) (λe a=> ?_)
  ·refine AZ Z ?_
   cases a
   exact aR eV3
  refine Ab<|n _ _ ?_
  refine Ah<|rn 1 Z<|kC a λf a=>rX f Z<|rz Z<|fg _ (Sub.of (suK _ suN)) ?_
  exact⟨c+1,by omega,c,(b+1),a,Ag Z Z,Z⟩
 refine AG<|i _ _ ?_
 refine AZ Z ?_
 cases a
 exact aR eV3
def Db(N:Nat)(m:Ao):Option Bool:=ck ((R64 ((m.2.1.length:Int)+(m.2.2.1.length:Int)))) (ck ((R64 (((m.2.1.length:Int)+(m.2.2.1.length:Int))+(m.2.2.2.2.1.length:Int)))) (ck ((R64 ((((m.2.1.length:Int)+(m.2.2.1.length:Int))+(m.2.2.2.2.1.length:Int))+(m.2.2.2.2.2.1.length:Int)))) (ck ((R64 (((((m.2.1.length:Int)+(m.2.2.1.length:Int))+(m.2.2.2.2.1.length:Int))+(m.2.2.2.2.2.1.length:Int))+(m.2.2.2.2.2.2.1.length:Int)))) (ck ((R64 ((((((m.2.1.length:Int)+(m.2.2.1.length:Int))+(m.2.2.2.2.1.length:Int))+(m.2.2.2.2.2.1.length:Int))+(m.2.2.2.2.2.2.1.length:Int))+(m.2.2.2.2.2.2.2.1.length:Int)))) (ck ((R64 (((((((m.2.1.length:Int)+(m.2.2.1.length:Int))+(m.2.2.2.2.1.length:Int))+(m.2.2.2.2.2.1.length:Int))+(m.2.2.2.2.2.2.1.length:Int))+(m.2.2.2.2.2.2.2.1.length:Int))+(m.2.2.2.2.2.2.2.2.1.length:Int)))) (if((((((((m.2.1.length:Int)+(m.2.2.1.length:Int))+(m.2.2.2.2.1.length:Int))+(m.2.2.2.2.2.1.length:Int))+(m.2.2.2.2.2.2.1.length:Int))+(m.2.2.2.2.2.2.2.1.length:Int))+(m.2.2.2.2.2.2.2.2.1.length:Int)):Int)>150 then some false else(Hr N m).bind λa=>some (a.2.2==0)))))))
theorem Pf(N m r)(a:Db N m=some r)(p)(n:AB)(b:Aa1 p n m):Does prog 4 #[vA (Ac m n)] p [] (pV (vB r)):=by
 unfold Db at a
 refine Al follows func4 Z 42 Z _ fz1 (λf=> ?_)
 refine Ad<|rA Z λq=>rz Z<|Aa λt g=>Ad<|rm 2 [0] Z<|rL (RdN.shp b.1) Z<|rm 2 [0] Z<|rL (Rd.shp b.2.1) Z<|kC a λh a=>rX h Z<|rm 2 [0] Z<|rL (RdN.shp b.2.2.2.1) Z<|kC a λi a=>rX i Z<|rm 2 [0] Z<|rL (RdN.shp b.2.2.2.2.1) Z<|kC a λj a=>rX j Z<|rm 2 [0] Z<|rL (RdN.shp b.2.2.2.2.2.1) Z<|kC a λk a=>rX k Z<|rm 2 [0] Z<|rL (RdN.shp b.2.2.2.2.2.2.1) Z<|kC a λl a=>rX l Z<|rm 2 [0] Z<|rL (RdN.shp b.2.2.2.2.2.2.2.1) Z<|kC a λc a=>rX c Z<|rz Z ?_
 refine GS [(1,vP q 0),(33,vB (decide (((((((((m.2.1.length:Int)+(m.2.2.1.length:Int))+(m.2.2.2.2.1.length:Int))+(m.2.2.2.2.2.1.length:Int))+(m.2.2.2.2.2.2.1.length:Int))+(m.2.2.2.2.2.2.2.1.length:Int))+(m.2.2.2.2.2.2.2.2.1.length:Int)):Int)>150)))] Z (λT=> ?_)
 refine aD a Z (λd a=> ?_) (λd a=> ?_)
 ·refine AZ Z ?_
  cases a
  exact aR eV1
 refine Ab<|g _ _ ?_
 refine Ad<|rm 1 [0] Z<|kB a λs e a=>gV _ (cF tp) (λo w z_=>Pe N m _ e z_.view n (Aa1.mono z_.ro_cell b))<|rz Z<|AZ Z ?_
 cases a
 exact aR eV1
abbrev QX:EncO (Int×Int×(List (W1))×(List (Int×W3))×Int×Int):=(Kn (MQ BE) (Kn (MQ BE) (Kn (Qg 53 Ac8) (Kn (Qg 51 Ad0) (Kn (MQ BE) (MQ BE))))))
abbrev WI:EncO ((W2)×Int×(List (Int×Int×Int))×(List Int)×Int×(List (Int×W3))×Int):=(Kn (MQ Aa3) (Kn (MQ BE) (Kn (Qg 319 Ad1) (Kn (Qg 3 BE) (Kn (MQ BE) (Kn (Qg 51 Ad0) (MQ BE)))))))
abbrev WJ:EncO ((W2)×(List Int)×(List (W1))):=(Kn (MQ Aa3) (Kn (Qg 3 BE) (Qg 53 Ac8)))
abbrev MP:EncO ((W2)×(List (Int×Int))×(List (Int×Int×Int))×(List (Int×W3×Int×W3×Int))×Int):=(Kn (MQ Aa3) (Kn (Qg 255 Af3) (Kn (Qg 319 Ad1) (Kn (Qg 259 Af4) (MQ BE)))))
abbrev OG:EncO ((W2)×(List (W2×Int))×Int×Int×Int×Int):=(Kn (MQ Aa3) (Kn (Qg 92 Ab3) (Kn (MQ BE) (Kn (MQ BE) (Kn (MQ BE) (MQ BE))))))
def Fo(_:Nat):Option ((W2)×(List ((W2)×(List (W2×Int))×Int×Int×Int×Int))×(List (W2×Int×Int))×(List (W2×Int))×(List ((W2)×(List (Int×Int))×(List (Int×Int×Int))×(List (Int×W3×Int×W3×Int))×Int))×(List ((W2)×(List Int)×(List (W1))))×(List ((W2)×Int×(List (Int×Int×Int))×(List Int)×Int×(List (Int×W3))×Int))×(List (Int×Int×(List (W1))×(List (Int×W3))×Int×Int))×(List (Int×Int×(List (W1))×(List (Int×W3))×Int×Int))×(List Int)×(List (Int×Int))×(List (Int×Int))×(List (W2×Int×Int))×(List (W2×Int))×(List (W2×Int×Int×Int))×Int×Int×Int):=some (([109]:W2),[(([104]:W2),[(([97]:W2),8)],0,0,0,0)],[(([120]:W2),0,0)],[],[(([115]:W2),[],[],[],-1)],[],[],[],[],[],[],[],[],[],[],1,1,0)
theorem Mj(N r)(u:Fo N=some r)(x:Ro):Does prog 15 #[] x [] (pO [] (oSO 94 OG r.2.1 λs_0=>(oS 96 Ad8 r.2.2.1 λs_1=>(oS 92 Ab3 r.2.2.2.1 λs_2=>(oSO 101 MP r.2.2.2.2.1 λs_3=>(oSO 185 WJ r.2.2.2.2.2.1 λs_4=>(oSO 190 WI r.2.2.2.2.2.2.1 λs_5=>(oSO 180 QX r.2.2.2.2.2.2.2.1 λs_6=>(oSO 180 QX r.2.2.2.2.2.2.2.2.1 λs_7=>(oS 3 BE r.2.2.2.2.2.2.2.2.2.1 λs_8=>(oS 182 Ae6 r.2.2.2.2.2.2.2.2.2.2.1 λs_9=>(oS 182 Ae6 r.2.2.2.2.2.2.2.2.2.2.2.1 λs_10=>(oS 148 Af0 r.2.2.2.2.2.2.2.2.2.2.2.2.1 λs_11=>(oS 151 Af1 r.2.2.2.2.2.2.2.2.2.2.2.2.2.1 λs_12=>(oS 154 Af2 r.2.2.2.2.2.2.2.2.2.2.2.2.2.2.1 λs_13=>(oE (vA #[vS r.1,s_0,s_1,s_2,s_3,s_4,s_5,s_6,s_7,s_8,s_9,s_10,s_11,s_12,s_13,vI r.2.2.2.2.2.2.2.2.2.2.2.2.2.2.2.1,vI r.2.2.2.2.2.2.2.2.2.2.2.2.2.2.2.2.1,vI r.2.2.2.2.2.2.2.2.2.2.2.2.2.2.2.2.2]) [])))))))))))))))):=by
 unfold Fo at u
 refine EE follows func15 Z 10 Z _ fz0 (λ_ _ h_ _=>h_) (λn=> ?_)
 refine Ad<|rA Z λf=>Ak<|Ad<|r_W (vA #[Value.string (⟨#[97]⟩),vI 8]) Z (Ar Z Z Z Z)<|gB (Ls:=[(Ku f (Value.string (⟨#[]⟩)) nS nS nS nS nS nS nS nS nS nS nS nS nS nS 0 0 0)]) 92 Ab3 [(([97]:W2),8)] (λo i v=> ?_)
 refine r_W (vA #[Value.string (⟨#[104]⟩),o,vI 0,vI 0,vI 0,vI 0]) Z (NW Z Z Z (Jo Z (Jo (Gs Z (Sl.shp v)) QI)) Z) ?_
 have hR7:(OG).R (([104]:W2),[(([97]:W2),8)],0,0,0,0) [Value.string (⟨#[104]⟩),o,vI 0,vI 0,vI 0,vI 0] i:=(by have h_:=(Mc (NX (E:=Aa3) ([104]:W2)) (Mc (SX (e:=92) (E:=Ab3) v) (Mc (NX (E:=BE) 0) (Mc (NX (E:=BE) 0) (Mc (NX (E:=BE) 0) (NX (E:=BE) 0))))));exact EncO.cast h_ (by first|rfl|simp only [j7,List.append_nil,zu]))
 refine cD 4<|Ke (cs0:=[]) (Ls:=[(Ku f (Value.string (⟨#[]⟩)) nS nS nS nS nS nS nS nS nS nS nS nS nS nS 0 0 0),i]) 94 (EncO.raw OG) [EncO.of OG hR7] [Value.string (⟨#[104]⟩),o,vI 0,vI 0,vI 0,vI 0] [Value.string (⟨#[]⟩),nS,vI 0,vI 0,vI 0,vI 0] Z Z Z Z Z Z Z (by kernel_rfl) ((QU _ _ _ _ (Jo Z QI)).trans (by kernel_rfl)) Z Z Z (λh m q=> ?_)
 refine Dv (Ls:=[(Ku f (Value.string (⟨#[]⟩)) nS nS nS nS nS nS nS nS nS nS nS nS nS nS 0 0 0),i,m]) (Ls':=[(Ku f (Value.string (⟨#[]⟩)) nS nS nS nS nS nS nS nS nS nS nS nS nS nS 0 0 0),m,i]) [0,2,1] Z Z<|tT (Ls:=[(Ku f (Value.string (⟨#[]⟩)) nS nS nS nS nS nS nS nS nS nS nS nS nS nS 0 0 0),m,i]) (Ls':=[(Ku f (Value.string (⟨#[]⟩)) nS nS nS nS nS nS nS nS nS nS nS nS nS nS 0 0 0),(m++i)]) (by simp only [List.flatten_cons,List.flatten_nil,List.append_nil,zu]) ?_
 refine ZJ (Ls:=[(Ku f (Value.string (⟨#[]⟩)) nS nS nS nS nS nS nS nS nS nS nS nS nS nS 0 0 0),(m++i)]) (p:=λS_=>SlO 94 OG h ([(([104]:W2),[(([97]:W2),8)],0,0,0,0)]) S_) 1 Z (SlO.cast (⟨_,_,_,q,(Items.one hR7),Z⟩:SlO 94 OG h [(([104]:W2),[(([97]:W2),8)],0,0,0,0)] _) (by first|rfl|simp only [j7,List.append_nil,zu])) (λb j=> ?_)
 refine r_W (vA #[Value.string (⟨#[120]⟩),vI 0,vI 0]) Z (Ar Z Z Z Z)<|gB (Ls:=[(Ku f (Value.string (⟨#[]⟩)) nS nS nS nS nS nS nS nS nS nS nS nS nS nS 0 0 0),b]) 96 Ad8 [(([120]:W2),0,0)] (λc d k=> ?_)
 refine r_W (vA #[Value.string (⟨#[115]⟩),nS,nS,nS,vI (-1)]) Z (Ar Z Z Z Z) ?_
 have hR16:(MP).R (([115]:W2),[],[],[],-1) [Value.string (⟨#[115]⟩),nS,nS,nS,vI (-1)] ([]):=(by have h_:=(Mc (NX (E:=Aa3) ([115]:W2)) (Mc (SX (e:=255) (E:=Af3) Sl.nil) (Mc (SX (e:=319) (E:=Ad1) Sl.nil) (Mc (SX (e:=259) (E:=Af4) Sl.nil) (NX (E:=BE) (-1))))));exact EncO.cast h_ (by first|rfl|simp only [j7,List.append_nil,zu]))
 refine cD 8<|Ke (cs0:=[]) (Ls:=[(Ku f (Value.string (⟨#[]⟩)) nS nS nS nS nS nS nS nS nS nS nS nS nS nS 0 0 0),b,d]) 101 (EncO.raw MP) [EncO.of MP hR16] [Value.string (⟨#[115]⟩),nS,nS,nS,vI (-1)] [Value.string (⟨#[]⟩),nS,nS,nS,vI 0] Z Z Z Z Z Z Z (by kernel_rfl) ((QU _ _ _ _ (Jo Z QI)).trans (by kernel_rfl)) Z Z Z (λa s t=> ?_)
 refine ZJ (Ls:=[(Ku f (Value.string (⟨#[]⟩)) nS nS nS nS nS nS nS nS nS nS nS nS nS nS 0 0 0),b,d,s]) (p:=λS_=>SlO 101 MP a ([(([115]:W2),[],[],[],-1)]) S_) 3 Z (SlO.cast (⟨_,_,_,t,(Items.one hR16),Z⟩:SlO 101 MP a [(([115]:W2),[],[],[],-1)] _) (by first|rfl|simp only [j7,List.append_nil,zu])) (λg l=> ?_)
 refine r_W (vA #[Value.string (⟨#[109]⟩),h,c,nS,a,nS,nS,nS,nS,nS,nS,nS,nS,nS,nS,vI 1,vI 1,vI 0]) Z (NW Z Z Z (Jo Z (Jo (Gs Z (SlO.shp j)) (Jo (Gs Z (Sl.shp k)) (Jo (Gs Z (SlO.shp l)) (Jo Z (Jo Z QI)))))) Z) ?_
 refine r_s (List.flatten [(Ku f (Value.string (⟨#[109]⟩)) h c nS a nS nS nS nS nS nS nS nS nS nS 1 1 0),b,d,g]) 0 _ _ _ _ _ (#[Value.string (⟨#[109]⟩),h,c,nS,a,nS,nS,nS,nS,nS,nS,nS,nS,nS,nS,vI 1,vI 1,vI 0]) Z Z Z Z (.ofS Z Z (Ae Z (Ae (Shp.one (SlO.shp j)) (Ae (Shp.one (Sl.shp k)) (Ae (Shp.one (.inl ⟨Z,Z⟩)) (Ae (Shp.one (SlO.shp l)) (Ae (Shp.one (.inl ⟨Z,Z⟩)) (Ae (Shp.one (.inl ⟨Z,Z⟩)) (Ae (Shp.one (.inl ⟨Z,Z⟩)) (Ae (Shp.one (.inl ⟨Z,Z⟩)) (Ae (Shp.one (.inl ⟨Z,Z⟩)) (Ae (Shp.one (.inl ⟨Z,Z⟩)) (Ae (Shp.one (.inl ⟨Z,Z⟩)) (Ae (Shp.one (.inl ⟨Z,Z⟩)) (Ae (Shp.one (.inl ⟨Z,Z⟩)) (Ae (Shp.one (.inl ⟨Z,Z⟩)) (Ae Z (Ae Z (Ae Z BA))))))))))))))))))) Z Z ?_
 refine Ak ?_
 cases u
 refine Bh (λw=>KV (v0:=vA #[Value.string (⟨#[109]⟩),h,c,nS,a,nS,nS,nS,nS,nS,nS,nS,nS,nS,nS,vI 1,vI 1,vI 0]) (O:=[b,d,[],g,[],[],[],[],[],[],[],[],[],[]]) (FZ (AW w 0 Z Z Z)) (Sub.pickE (Ls:=[(Ku f (Value.string (⟨#[109]⟩)) h c nS a nS nS nS nS nS nS nS nS nS nS 1 1 0),b,d,g,[],[],[],[],[],[],[],[],[],[],[]]) (Ls0:=[(Ku f (Value.string (⟨#[109]⟩)) h c nS a nS nS nS nS nS nS nS nS nS nS 1 1 0),b,d,g]) Z [1,2,4,3,5,6,7,8,9,10,11,12,13,14] Z) ⟨h,b,_,j,⟨c,d,_,k,⟨nS,[],_,Sl.nil,⟨a,g,_,l,⟨nS,[],_,SlO.nil,⟨nS,[],_,SlO.nil,⟨nS,[],_,SlO.nil,⟨nS,[],_,SlO.nil,⟨nS,[],_,Sl.nil,⟨nS,[],_,Sl.nil,⟨nS,[],_,Sl.nil,⟨nS,[],_,Sl.nil,⟨nS,[],_,Sl.nil,⟨nS,[],_,Sl.nil,⟨Z,Z⟩,Z⟩,Z⟩,Z⟩,Z⟩,Z⟩,Z⟩,Z⟩,Z⟩,Z⟩,Z⟩,Z⟩,Z⟩,Z⟩,Z⟩)
def RH(a:Value):List Fv:=[⟨vF 49 #[a] #[],Z⟩,⟨vF 50 #[a] #[],Z⟩,⟨vF 51 #[a] #[],Z⟩,⟨vF 52 #[a] #[],Z⟩,⟨vF 53 #[a] #[],Z⟩,⟨vF 54 #[a] #[],Z⟩,⟨vF 55 #[a] #[],Z⟩,⟨vF 56 #[a] #[],Z⟩,⟨vF 57 #[a] #[],Z⟩,⟨vF 58 #[a] #[],Z⟩,⟨vF 59 #[a] #[],Z⟩,⟨vF 60 #[a] #[],Z⟩,⟨vF 61 #[a] #[],Z⟩,⟨vF 62 #[a] #[],Z⟩,⟨vF 63 #[a] #[],Z⟩]
def Nq(_:Nat)(_:Ao):Option Unit:=some ()
theorem aa(N c r)(d:Nq N c=some r)(g:Ro)(a:AB)(_hc:Aa1 g a c):DoesI prog 28 #[vA (Ac c a)] Ho g [] (p1 (λs_=>s_) 106 MR (RH (vA (Ac c a)))):=by
 unfold Nq at d
 refine Be follows func28 Z 34 Z _ fz1 Bi (λb=> ?_)
 refine Ad<|rA Z λe=>rz Z<|Ad<|rm 1 [0] Z<|r_W (vF 49 #[vA (Ac c a)] #[]) Z (Jv Z Z)<|rm 1 [0] Z<|r_W (vF 50 #[vA (Ac c a)] #[]) Z (Jv Z Z)<|rm 1 [0] Z<|r_W (vF 51 #[vA (Ac c a)] #[]) Z (Jv Z Z)<|rm 1 [0] Z<|r_W (vF 52 #[vA (Ac c a)] #[]) Z (Jv Z Z)<|rm 1 [0] Z ?_
 refine r_W (vF 53 #[vA (Ac c a)] #[]) Z (Jv Z Z)<|rm 1 [0] Z<|r_W (vF 54 #[vA (Ac c a)] #[]) Z (Jv Z Z)<|rm 1 [0] Z<|r_W (vF 55 #[vA (Ac c a)] #[]) Z (Jv Z Z)<|rm 1 [0] Z<|r_W (vF 56 #[vA (Ac c a)] #[]) Z (Jv Z Z)<|rm 1 [0] Z<|r_W (vF 57 #[vA (Ac c a)] #[]) Z (Jv Z Z) ?_
 refine rm 1 [0] Z<|r_W (vF 58 #[vA (Ac c a)] #[]) Z (Jv Z Z)<|rm 1 [0] Z<|r_W (vF 59 #[vA (Ac c a)] #[]) Z (Jv Z Z)<|rm 1 [0] Z<|r_W (vF 60 #[vA (Ac c a)] #[]) Z (Jv Z Z)<|rm 1 [0] Z<|r_W (vF 61 #[vA (Ac c a)] #[]) Z (Jv Z Z)<|rm 1 [0] Z ?_
 refine r_W (vF 62 #[vA (Ac c a)] #[]) Z (Jv Z Z)<|rm 1 [0] Z<|r_W (vF 63 #[vA (Ac c a)] #[]) Z (Jv Z Z)<|cD 33 ?_
 refine Ke (cs0:=[]) (Ls:=[[(e,104,(Ac c a))]]) 106 MR (RH (vA (Ac c a))) [vF 49 #[vA (Ac c a)] #[],vF 50 #[vA (Ac c a)] #[],vF 51 #[vA (Ac c a)] #[],vF 52 #[vA (Ac c a)] #[],vF 53 #[vA (Ac c a)] #[],vF 54 #[vA (Ac c a)] #[],vF 55 #[vA (Ac c a)] #[],vF 56 #[vA (Ac c a)] #[],vF 57 #[vA (Ac c a)] #[],vF 58 #[vA (Ac c a)] #[],vF 59 #[vA (Ac c a)] #[],vF 60 #[vA (Ac c a)] #[],vF 61 #[vA (Ac c a)] #[],vF 62 #[vA (Ac c a)] #[],vF 63 #[vA (Ac c a)] #[]] [Value.nilFunc,Value.nilFunc,Value.nilFunc,Value.nilFunc,Value.nilFunc,Value.nilFunc,Value.nilFunc,Value.nilFunc,Value.nilFunc,Value.nilFunc,Value.nilFunc,Value.nilFunc,Value.nilFunc,Value.nilFunc,Value.nilFunc] Z Z Z Z Z Z Z (by kernel_rfl) (by kernel_rfl) Z Z Z (λf h i=> ?_)
 refine rz Z<|GS [(2,f)] Z (λT=> ?_)
 cases d
 refine Bh (λj=>GZ (v0:=f) i (Dy (Sub.pick [[(e,104,(Ac c a))],h] [1] Z)) Z (FZ Z))
def AA(_:Nat)(n:Int)(a:Int)(b:Int):Option Bool:=if n>=a then some (decide (n<=b))else some false
theorem AR(N n a b r)(c:AA N n a b=some r):Gives prog 75 #[vI n,vI a,vI b] (vB r):=by
 unfold AA at c
 refine Aq follows func75 Z 15 Z _ fz3 (λf=> ?_)
 refine AZ Z<|Aa λg d=>Ah<|rn 4 Z ?_
 rcases e:(decide (n>=a))with _|_
 ·replace c:=iF e c
  refine rz Z<|d _ _ ?_
  cases c
  exact aR eE1
 replace c:=iD e c
 refine rz Z<|d _ _ ?_
 cases c
 exact aR eE1
def CD(_:Nat)(c:Int)(a:Int)(b:Int):Option Bool:=if c>=a then some (decide (c<=b))else some false
theorem Fr(N c a b r)(d:CD N c a b=some r):Gives prog 247 #[Value.int .i32 c,Value.int .i32 a,Value.int .i32 b] (vB r):=by
 unfold CD at d
 refine Aq follows func247 Z 15 Z _ fz3 (λg=> ?_)
 refine AZ Z<|Aa λh e=>Ah<|rn 4 Z ?_
 rcases f:(decide (c>=a))with _|_
 ·replace d:=iF f d
  refine rz Z<|e _ _ ?_
  cases d
  exact aR eE1
 replace d:=iD f d
 refine rz Z<|e _ _ ?_
 cases d
 exact aR eE1
def HP(N:Nat)(c:Int):Option Bool:=(CD N c 65 90).bind λe=>if e=true then some true else(CD N c 97 122).bind λf=>if f=true then some true else if c=95 then some true else(CD N c 192 591).bind λa=>if a=true then some true else(CD N c 913 969).bind λd=>if d=true then some true else(CD N c 1024 1279).bind λb=>some b
def JE(N:Nat)(c:Int):Option Bool:=if c=215 then if c=215 then some false else HP N c  else if c=247 then if c=247 then some false else HP N c  else if c=930 then some false else HP N c 
theorem RG(N c r)(a:JE N c=some r):Gives prog 217 #[Value.int .i32 c] (vB r):=by
 unfold JE at a
 refine Aq follows func217 Z 30 Z _ fz1 (λv=> ?_)
 refine AZ Z<|Cb (λtt ll=>(HP N c  =some r)/\Is [(0,Value.int .i32 c)] [] tt ll) ?_ ?_
 ·refine AZ Z<|Ai<|Aa λz d=>AZ Z<|aE a Z (λg a=> ?_) (λg a=> ?_)
  ·refine Ab<|d _ _ ?_
   refine aE a Z (λh a=> ?_) (λh a=> ?_)
   ·refine AZ Z ?_
    cases a
    exact aR eE1
   refine Ab<|fg _ (Sub.of suN) ?_
   exact⟨a,Ag Z Z⟩
  refine AZ Z<|aE a Z (λi a=> ?_) (λi a=> ?_)
  ·refine Ab<|d _ _ ?_
   refine aE a Z (λj a=> ?_) (λj a=> ?_)
   ·refine AZ Z ?_
    cases a
    exact aR eE1
   refine Ab<|fg _ (Sub.of suN) ?_
   exact⟨a,Ag Z Z⟩
  refine Ah<|rz Z<|d _ _ ?_
  refine aE a Z (λk a=> ?_) (λk a=> ?_)
  ·refine AZ Z ?_
   cases a
   exact aR eE1
  refine Ab<|fg _ (Sub.of suN) ?_
  exact⟨a,Ag Z Z⟩
 clear a;rintro t l ⟨a,⟨T,rfl⟩,rfl⟩
 unfold HP at a
 refine Aa λD b=>Ah<|rn 1 Z<|kB a λA w a=>rc _ (cF Ko) (Fr N c 65 90 _ w)<|rn 1 Z ?_
 rcases m:A with _|_
 ·replace a:=iB m a
  refine rn 1 Z<|r_y Z<|kB a λB x a=>rc _ (cF Ko) (Fr N c 97 122 _ x)<|rn 2 Z ?_
  rcases n:B with _|_
  ·replace a:=iB n a
   refine rn 4 Z ?_
   rcases o:(c==95)with _|_
   ·replace a:=iG o a
    refine rn 1 Z<|r_y Z<|kB a λp q a=>rc _ (cF Ko) (Fr N c 192 591 _ q)<|rn 2 Z<|fb [(0,Value.int .i32 c),(22,vB p)] Z (λT=> ?_)
    rcases e:p with _|_
    ·replace a:=iB e a
     refine rn 1 Z<|r_y Z<|kB a λy s a=>rc _ (cF Ko) (Fr N c 913 969 _ s)<|rn 2 Z ?_
     rcases f:y with _|_
     ·replace a:=iB f a
      refine rn 1 Z<|r_y Z<|kB a λC u a=>rc _ (cF Ko) (Fr N c 1024 1279 _ u)<|rz Z<|b _ _ ?_
      cases a
      exact aR eE1
     replace a:=ifp f a
     refine rz Z<|b _ _ ?_
     cases a
     exact aR eE1
    replace a:=ifp e a
    refine rz Z<|b _ _ ?_
    cases a
    exact aR eE1
   replace a:=iE o a
   refine rz Z<|b _ _ ?_
   cases a
   exact aR eE1
  replace a:=ifp n a
  refine rz Z<|b _ _ ?_
  cases a
  exact aR eE1
 replace a:=ifp m a
 refine rz Z<|b _ _ ?_
 cases a
 exact aR eE1
def LM(N:Nat)(c:Int):Option Bool:=(CD N c 48 57).bind λa=>some a
theorem ZG(N c r)(a:LM N c=some r):Gives prog 218 #[Value.int .i32 c] (vB r):=by
 unfold LM at a
 refine Aq follows func218 Z 5 Z _ fz1 (λb=> ?_)
 refine AZ Z<|Ad<|rn 1 Z<|kB a λe d a=>rc _ (cF Ko) (Fr N c 48 57 _ d)<|rz Z ?_
 cases a
 exact aR eE1
def Jz(N:Nat)(c:Int)(a:Int):Option Bool:=(JE N c).bind λb=>if b=true then some true else if a>0 then(LM N c).bind λd=>if d=true then some true else if c=45 then some true else some (c==46)else some false
theorem Uu(N c b r)(a:Jz N c b=some r):Gives prog 152 #[Value.int .i32 c,vI b] (vB r):=by
 unfold Jz at a
 refine Aq follows func152 Z 23 Z _ fz2 (λi=> ?_)
 refine AZ Z<|Aa λn d=>Ah<|rn 1 Z<|kB a λl j a=>rc _ (cF dB) (RG N c _ j)<|rn 1 Z ?_
 rcases f:l with _|_
 ·replace a:=iB f a
  refine rn 3 Z ?_
  rcases g:(decide (b>0))with _|_
  ·replace a:=iF g a
   refine rn 3 Z<|Cd Z Z<|Cd Z Z<|rn 2 Z<|Cd Z Z<|Cd Z Z<|rz Z<|d _ _ ?_
   cases a
   exact aR eE1
  replace a:=iD g a
  refine rn 1 Z<|r_y Z<|kB a λm k a=>rc _ (cF nI) (ZG N c _ k)<|rn 1 Z ?_
  rcases h:m with _|_
  ·replace a:=iB h a
   refine rn 4 Z ?_
   rcases e:(c==45)with _|_
   ·replace a:=iG e a
    refine rz Z<|d _ _ ?_
    cases a
    exact aR eE1
   replace a:=iE e a
   refine rz Z<|d _ _ ?_
   cases a
   exact aR eE1
  replace a:=ifp h a
  refine rz Z<|d _ _ ?_
  cases a
  exact aR eE1
 replace a:=ifp f a
 refine rn 3 Z<|Cd Z Z<|Cd Z Z<|Cd Z Z<|Cd Z Z<|Cd Z Z<|Cd Z Z<|Cd Z Z<|Cd Z Z<|Cd Z Z<|Cd Z Z<|rz Z<|d _ _ ?_
 cases a
 exact aR eE1
def Jg(N:Nat)(s:W2):Nat->Int->Nat->Option Bool
  |0,_,_=>none
  |d+1,a,b=>if b<(s).length then ck (b<(s).length) (if a=24 then some false else(Jz N ((runeAt s b:Nat):Int) a).bind λc=>if c=true then ck (R64 (a+1)) ((Jg N s d) (a+1) (IP s b))else some false)else some (decide (a>0))
def Li(N:Nat)(s:W2):Option Bool:=Jg N s N 0 0
theorem RV(N s r)(b:Li N s=some r):Gives prog 93 #[vS s] (vB r):=by
 unfold Li at b
 refine Aq follows func93 Z 23 Z _ fz1 (λn=> ?_)
 refine AZ Z<|AZ Z<|Aa λy o=>Ad<|rn 1 Z<|cB 7 (p:=(pIt s))<|gn s Z Z Z Z Z (λ_ _ _ _ _=>Iff.rfl) (λh=> ?_)
 refine Ak<|Ai<|AH (λtt ll nn=> ∃(g:Nat) (a:Int) (c:Nat),(Jg N s g a c=some r)/\Is [(3,vI a),(7,vP h 0)] [(h,(itT s c), #[])] tt ll/\nn=g+1) (N+1) ?_ ?_
 ·exact⟨N,0,0,b,Ag Z Z,Z⟩
 clear b;rintro t l _ ⟨g,a,c,b,⟨⟨T,rfl⟩,rfl⟩,rfl⟩
 rcases g with _|g
 ·exact absurd b (by simp [Jg])
 rw [Jg] at b
 refine Ad<|cA 8 (p:=(pNx h s c))<|kF (lN:=[(h,(itT s (IP s c)), #[])]) 0 h s c Z Z Z Z Z Z (λ_ _ _ _ _=>Iff.rfl) Z<|r_W (vB (decide (c<(s).length))) Z (Fc (cR s c))<|Ak<|Aa λz q=>aD b Z (λu b=> ?_) (λu b=> ?_)
 ·refine Ab<|q _ _ ?_
  refine Ai<|Ad<|kC b λi b=>r_W (Value.int .i32 ((runeAt s c:Nat):Int)) Z (Fc (cQ i))<|rz Z<|Aa λv j=>Aa λw f=>Ah<|rn 3 Z ?_
  rcases d:(a==24)with _|_
  ·replace b:=iG d b
   refine rn 2 Z<|r_y Z<|kB b λx k b=>rc _ (cF oQ) (Uu N ((runeAt s c:Nat):Int) a _ k)<|rz Z<|f _ _ ?_
   refine BI _ Z (λe=> ?_) (λe=> ?_)
   ·replace b:=ifn (Bool.eq_false_iff.1 (Dk e)) b
    refine AZ Z ?_
    cases b
    exact aR eE1
   replace b:=ifp (Dl e) b
   refine Ab<|j _ _ ?_
   refine Ah<|rn 1 Z<|kC b λm b=>rX m Z<|rz Z<|fg _ (Sub.of (suK _ suN)) ?_
   exact⟨g+1,by omega,g,(a+1),IP s c,b,Ag (by first|rfl|(simp only [d];done)|(simp only [d];rfl)|(simp only [Br];rfl)) Z,Z⟩
  replace b:=iE d b
  refine rz Z<|f _ _ ?_
  refine Nt Z ?_
  refine AZ Z ?_
  cases b
  exact aR eE1
 refine AG<|o _ _ ?_
 refine AZ Z ?_
 cases b
 exact aR eE1
def Ap(_:Nat)(b:Bool)(a:Int):Option Int:=if b=true then some 0 else some a
theorem Az(N e f r)(a:Ap N e f=some r):Gives prog 32 #[vB e,vI f] (vI r):=by
 unfold Ap at a
 refine Aq follows func32 Z 7 Z _ fz2 (λb=> ?_)
 refine AZ Z<|Aa λg c=>AZ Z<|aB a Z (λd a=> ?_) (λd a=> ?_)
 ·refine AZ Z ?_
  cases a
  exact aR eE1
 refine Ab<|c _ _ ?_
 refine AZ Z ?_
 cases a
 exact aR eE1
def On(_:Nat)(a:Int):Option Bool:=some (a !=0)
theorem cp(N c r)(b:On N c=some r):Gives prog 65 #[vI c] (vB r):=by
 unfold On at b
 refine Aq follows func65 Z 5 Z _ fz1 (λa=> ?_)
 refine AZ Z<|AZ Z ?_
 cases b
 exact aR eE1
def bD(N:Nat)(s:List Int):Nat->Int->Option Int
  |0,_=>none
  |c+1,a=>if a<(s.length:Int)then ck (0<=a/\a<(s.length:Int)) ((On N (s[a.toNat]!)).bind λb=>if b=true then some a else ck (R64 (a+1)) ((bD N s c) (a+1)))else some (-1)
def sFm(N:Nat)(s:List Int):Option Int:=bD N s N 0
theorem sFg(N s r)(a:sFm N s=some r)(p n)(o:Rd BE p n s):Does prog 64 #[n,vF 65 #[] #[]] p [] (pV (vI r)):=by
 unfold sFm at a
 refine Al follows func64 Z 19 Z _ fz2 (λh=> ?_)
 refine AZ Z<|Aa λu i=>Ad<|rn 1 Z<|rL (Rd.shp o) Z<|rz Z<|Ai<|AH (λtt ll nn=> ∃(d:Nat) (b:Int),(bD N s d b=some r)/\Is [(0,n),(1,vF 65 #[] #[]),(7,vI (s.length:Int)),(8,vI b)] [] tt ll/\nn=d+1) (N+1) ?_ ?_
 ·exact⟨N,0,a,Ag Z Z,Z⟩
 clear a;rintro t l _ ⟨d,b,a,⟨⟨T,rfl⟩,rfl⟩,rfl⟩
 rcases d with _|d
 ·exact absurd a (by simp [bD])
 rw [bD] at a
 refine AZ Z<|Aa λv j=>aD a Z (λk a=> ?_) (λk a=> ?_)
 ·refine Ab<|j _ _ ?_
  refine Aa λw m=>Ai<|AZ Z<|Ad<|rn 3 Z<|kC a λc a=>rI (Rd.shp o) c Z<|rE (Aw o) c 0 Z<|kB a λq e a=>rc _ (BO (caps:=[]) Z sC Z) (cp N (s[b.toNat]!) _ e)<|Ak<|aB a Z (λf a=> ?_) (λf a=> ?_)
  ·refine AZ Z ?_
   cases a
   exact aR eV1
  refine Ab<|m _ _ ?_
  refine Ah<|kC a λg a=>rX g Z<|rz Z<|fg _ (Sub.of suN) ?_
  exact⟨d+1,by omega,d,(b+1),a,Ag Z Z,Z⟩
 refine AG<|i _ _ ?_
 refine AZ Z ?_
 cases a
 exact aR eV1
def AI(N:Nat)(b:List Int):Option Int:=(sFm N b).bind λa=>if a<0 then some 0 else ck (0<=a/\a<(b.length:Int)) (some (b[a.toNat]!))
theorem Cc(N i r)(a:AI N i=some r)(j c)(d:Rd BE j c i):Does prog 31 #[c] j [] (pV (vI r)):=by
 unfold AI at a
 refine Al follows func31 Z 12 Z _ fz1 (λe=> ?_)
 refine AZ Z<|Ad<|rn 1 Z<|kB a λk f a=>gV _ (cF sD) (λo w z_=>sFg N i _ f z_.view c ((Aw d) o w z_))<|rz Z<|Aa λl g=>AZ Z<|aD a Z (λh a=> ?_) (λh a=> ?_)
 ·refine AZ Z ?_
  cases a
  exact aR eV1
 refine Ab<|g _ _ ?_
 refine Ad<|rn 2 Z<|kC a λb a=>rI (Rd.shp d) b Z<|rE (Aw d) b 0 Z<|rz Z ?_
 cases a
 exact aR eV1
def ID(N:Nat)(c:Ao)(a:Bool):Option (Int×Int):=(Li N c.1).bind λd=>(Ap N d 4).bind λf=>(Ap N a 7).bind λe=>(AI N ([f,e])).bind λb=>some (0,b)
def Jt(N:Nat)(c:Ao):Option (Int×Int):=(AA N c.2.2.2.2.2.2.2.2.2.2.2.2.2.2.2.1 1 64).bind λd=>if d=true then(AA N c.2.2.2.2.2.2.2.2.2.2.2.2.2.2.2.2.1 1 32).bind λb=>if b=true then(AA N c.2.2.2.2.2.2.2.2.2.2.2.2.2.2.2.2.2 0 4).bind λa=>ID N c a else ID N c false else ID N c false
theorem aj(N c r)(b:Jt N c=some r)(D:Ro)(j:AB)(_hc:Aa1 D j c):Does prog 49 #[vA (Ac c j)] D [] (pV (vT #[vI r.1,vI r.2])):=by
 unfold Jt at b
 refine Al follows func49 Z 30 Z _ fz1 (λm=> ?_)
 refine Ad<|rA Z λn=>rz Z<|Cb (λtt ll=> ∃(a:Bool),(ID N c a=some r)/\Is [(1,vP n 0),(4,vB a)] [(n,104,(Ac c j))] tt ll) ?_ ?_
 ·refine Ah<|rm 3 [0] Z<|kB b λp f b=>rc _ (cF Fz) (AR N c.2.2.2.2.2.2.2.2.2.2.2.2.2.2.2.1 1 64 _ f)<|rn 1 Z ?_
  rcases d:p with _|_
  ·replace b:=iB d b
   refine rz Z<|fg _ (Sub.of (suK _ suN)) ?_
   exact⟨false,b,Ag (by first|rfl|(simp only [d];done)|(simp only [d];rfl)|(simp only [Br];rfl)) Z⟩
  replace b:=ifp d b
  refine rn 2 Z<|r_y Z<|rm 1 [0] Z<|r_y Z<|kB b λq g b=>rc _ (cF Fz) (AR N c.2.2.2.2.2.2.2.2.2.2.2.2.2.2.2.2.1 1 32 _ g)<|rn 2 Z ?_
  rcases e:q with _|_
  ·replace b:=iB e b
   refine rz Z<|fg _ (Sub.of (suK _ suN)) ?_
   exact⟨false,b,Ag (by first|rfl|(simp only [d,e];done)|(simp only [d,e];rfl)|(simp only [Br];rfl)) Z⟩
  replace b:=ifp e b
  refine rn 2 Z<|r_y Z<|rm 1 [0] Z<|r_y Z<|kB b λs h b=>rc _ (cF Fz) (AR N c.2.2.2.2.2.2.2.2.2.2.2.2.2.2.2.2.2 0 4 _ h)<|rz Z<|fg _ (Sub.of (suK _ suN)) ?_
  exact⟨s,b,Ag (by first|rfl|(simp only [d,e];done)|(simp only [d,e];rfl)|(simp only [Br];rfl)) Z⟩
 clear b;rintro t l ⟨a,b,⟨T,rfl⟩,rfl⟩
 unfold ID at b
 refine Ad<|rm 3 [0] Z<|kB b λE u b=>rc _ (cF aO) (RV N c.1 _ u)<|kB b λB v b=>rc _ (cF Bk) (Az N E 4 _ v)<|rn 1 Z<|kB b λC x b=>rc _ (cF Bk) (Az N a 7 _ x)<|gB (Ls:=[[(n,104,(Ac c j))]]) 43 BE [B,C] (λy z A=> ?_)
 refine kB b λF i b=>gV _ (cF Fb) (λo w z_=>Cc N ([B,C]) _ i z_.view y ((Ax A (Aj (Ls:=[[(n,104,(Ac c j))],z]) (k:=1) Z Z)) o w z_))<|rz Z ?_
 cases b
 exact aR eV2
def Mq(_:Nat)(a:W2)(_:List (W2×Int))(_:Int)(_:Int)(_:Int)(_:Int):Option (W2):=some a
theorem TR(N b c d e f g r)(i:Mq N b c d e f g=some r)(j:Ro)(a:Value)(_hh_1:Rd Ab3 j a c):Does prog 95 #[vA #[vS b,a,vI d,vI e,vI f,vI g]] j [] (pV (vS r)):=by
 unfold Mq at i
 refine Al follows func95 Z 5 Z _ fz1 (λh=> ?_)
 refine Ad<|rA Z λk=>rz Z<|AY [0] Z ?_
 cases i
 exact aR eV1
def Ie(N:Nat)(b:List ((W2)×(List (W2×Int))×Int×Int×Int×Int)):Nat->List (W2)->Int->Option (List (W2))
  |0,_,_=>none
  |e+1,c,a=>if a<(b.length:Int)then ck (0<=a/\a<(b.length:Int)) ((Mq N (b[a.toNat]!.1) (b[a.toNat]!.2.1) (b[a.toNat]!.2.2.1) (b[a.toNat]!.2.2.2.1) (b[a.toNat]!.2.2.2.2.1) (b[a.toNat]!.2.2.2.2.2)).bind λd=>ck (0<=a/\a<(c.length:Int)) (ck (R64 (a+1)) ((Ie N b e) ((c).set (a.toNat) d) (a+1))))else some c
def LX(N:Nat)(a:List ((W2)×(List (W2×Int))×Int×Int×Int×Int)):Option (List (W2)):=ck (0<=(a.length:Int)/\(a.length:Int)<=8796093022208) (Ie N a N ((List.replicate ((a.length:Int)).toNat ([]))) 0)
theorem Wg(N b r)(c:LX N b=some r)(H p)(h:RdN Ad5 H p b):Does prog 94 #[p,vF 95 #[] #[]] H [] (p1 (λs_=>s_) 9 Aa3 r):=by
 unfold LX at c
 refine Al follows func94 Z 26 Z _ fz2 (λA=> ?_)
 refine AZ Z<|Ad<|rn 1 Z<|rL (RdN.shp h) Z<|kC c λB c=>cB 10<|Tx (Ls:=[]) 9 Aa3 ([]) (b.length:Int) Z Z Z Z Z Z Z Z Z Z 8796093022208 Z B (λ_ _ _ _ _=>Iff.rfl) (λC G I=> ?_)
 refine rz Z<|Aa λL D=>Ad<|rn 1 Z<|rL (RdN.shp h) Z<|rz Z<|Ai<|Bs _ (Sub.pick [G] [0] Z)<|AH (λtt ll nn=> ∃(m:Nat) (f:List (W2)) (a:Int),(Ie N b m f a=some r)/\ ∃(d:List Bl),Sl 9 Aa3 C f d/\Is [(1,vF 95 #[] #[]),(5,C),(11,p),(12,vI (b.length:Int)),(13,vI a)] (List.flatten [d]) tt ll/\nn=m+1) (N+1) ?_ ?_
 ·exact⟨N,(List.replicate ((b.length:Int)).toNat ([])),0,c,G,I,Ag Z Z,Z⟩
 clear c;rintro t l _ ⟨m,f,a,c,d,g,⟨⟨T,rfl⟩,rfl⟩,rfl⟩
 rcases m with _|m
 ·exact absurd c (by simp [Ie])
 rw [Ie] at c
 refine AZ Z<|Aa λJ q=>aD c Z (λs c=> ?_) (λs c=> ?_)
 ·refine Ab<|q _ _ ?_
  refine Aa λK u=>Ai<|Ad<|rn 1 Z<|kC c λi c=> ?_
  obtain⟨_,⟨e,j,rfl⟩,hat18⟩:=RdN.at (E:=Ad5) h (Dx i)
  refine rI (RdN.shp h) i Z<|Oe (vA #[vS (b[a.toNat]!.1),e,vI (b[a.toNat]!.2.2.1),vI (b[a.toNat]!.2.2.2.1),vI (b[a.toNat]!.2.2.2.2.1),vI (b[a.toNat]!.2.2.2.2.2)]) (vs:=[vS (b[a.toNat]!.1),e,vI (b[a.toNat]!.2.2.1),vI (b[a.toNat]!.2.2.2.1),vI (b[a.toNat]!.2.2.2.2.1),vI (b[a.toNat]!.2.2.2.2.2)]) (a.toNat*6) 0 Z Z (λo w z_=>At.mono z_.ro_cell hat18) Z<|rA Z λn=>rn 1 Z<|r_s (List.flatten [(ZQ n (b[a.toNat]!.1) e (b[a.toNat]!.2.2.1) (b[a.toNat]!.2.2.2.1) (b[a.toNat]!.2.2.2.2.1) (b[a.toNat]!.2.2.2.2.2)),d]) 0 _ _ _ _ _ (#[vS (b[a.toNat]!.1),e,vI (b[a.toNat]!.2.2.1),vI (b[a.toNat]!.2.2.2.1),vI (b[a.toNat]!.2.2.2.2.1),vI (b[a.toNat]!.2.2.2.2.2)]) Z Z Z Z (.ofS Z Z (Ae Z (Ae (Shp.one (Rd.shp j)) (Ae Z (Ae Z (Ae Z (Ae Z BA))))))) Z Z<|Ak<|Ah<|rn 3 Z ?_
  refine rm 1 [0] Z<|kB c λv x c=>gV _ (BO (caps:=[]) Z sd Z) (λo w z_=>TR N (b[a.toNat]!.1) (b[a.toNat]!.2.1) (b[a.toNat]!.2.2.1) (b[a.toNat]!.2.2.2.1) (b[a.toNat]!.2.2.2.2.1) (b[a.toNat]!.2.2.2.2.2) _ x z_.view e (z_.r j))<|kC c λk c=>rI (Sl.shp g) k Z<|RT (Ls:=[(ZQ n (b[a.toNat]!.1) e (b[a.toNat]!.2.2.1) (b[a.toNat]!.2.2.2.1) (b[a.toNat]!.2.2.2.2.1) (b[a.toNat]!.2.2.2.2.2)),d]) 1 (En:=Aa3) (f[a.toNat]!) v (a.toNat) 0 Z Z Z g (Dx k) Z Z Z (Jp Z) Z (λy F=> ?_)
  refine Ak<|u _ _ ?_
  refine Ah<|kC c λz c=>rX z Z<|rz Z<|fg _ (Sub.pick [(ZQ n (b[a.toNat]!.1) e (b[a.toNat]!.2.2.1) (b[a.toNat]!.2.2.2.1) (b[a.toNat]!.2.2.2.2.1) (b[a.toNat]!.2.2.2.2.2)),y] [1] Z) ?_
  exact⟨m+1,by omega,m,(f).set (a.toNat) v,(a+1),c,y,F,Ag Z Z,Z⟩
 refine AG<|D _ _ ?_
 refine AZ Z ?_
 cases c
 refine Bh (λM=>GZ (v0:=C) g (Dy (Sub.pick [d] [0] Z)) Z (FZ Z))
def Rh(_:Nat)(s:W2)(a:W2):Option Int:=ck ((a).length=1) (some (Lib.index s a))
theorem iJ(N s a r)(b:Rh N s a=some r):Gives prog 248 #[vS s,vS a] (vI r):=by
 unfold Rh at b
 refine Aq follows func248 Z 8 Z _ fz2 (λc=> ?_)
 refine AZ Z<|Ad<|rn 2 Z<|kC b λd b=>rc _ (cF mX) (lK s a d)<|rz Z ?_
 cases b
 exact aR eE1
def LG(N:Nat)(s:W2)(a:W2):Option Bool:=(Rh N s a).bind λb=>some (decide (b>=0))
theorem Su(N s a r)(b:LG N s a=some r):Gives prog 219 #[vS s,vS a] (vB r):=by
 unfold LG at b
 refine Aq follows func219 Z 9 Z _ fz2 (λc=> ?_)
 refine AZ Z<|Ad<|rn 2 Z<|kB b λe d b=>rc _ (cF nf) (iJ N s a _ d)<|rz Z ?_
 cases b
 exact aR eE1
def Nv(N:Nat)(s:W2):Option Bool:=(Li N s).bind λb=>if b=true then(LG N s ([46]:W2)).bind λa=>some (!(a))else some false
theorem Yv(N s r)(a:Nv N s=some r):Gives prog 153 #[vS s] (vB r):=by
 unfold Nv at a
 refine Aq follows func153 Z 10 Z _ fz1 (λd=> ?_)
 refine AZ Z<|Aa λh b=>Ah<|rn 1 Z<|kB a λg e a=>rc _ (cF aO) (RV N s _ e)<|rn 1 Z ?_
 rcases c:g with _|_
 ·replace a:=iB c a
  refine rz Z<|b _ _ ?_
  cases a
  exact aR eE1
 replace a:=ifp c a
 refine rn 1 Z<|r_y Z<|kB a λi f a=>rc _ (cF dA) (Su N s ([46]:W2) _ f)<|rz Z<|b _ _ ?_
 cases a
 exact aR eE1
def IH(_:Nat)(i:Int)(a:List (W2×Int)):Option (W2):=ck (0<=i/\i<(a.length:Int)) (some ((a[i.toNat]!).1))
theorem Rx(N i f r)(g:IH N i f=some r)(j)(c:Nat)(a)(b:Rd Ab3 j a f)(d:Blk j c [a]):Does prog 249 #[vI i,vP c 0] j [] (pV (vS r)):=by
 unfold IH at g
 refine Al follows func249 Z 9 Z _ fz2 (λh=> ?_)
 refine AZ Z<|Ad<|HO a (vs:=[a]) (o:=0) Z Z (AT d) Z<|rn 1 Z<|kC g λe g=>rI (Rd.shp b) e Z<|rF (Rd.shp b) (Bf e) Z<|rE (Aw b) e 0 Z<|rz Z ?_
 cases g
 exact aR eV1
def Gq(N:Nat)(b:Int)(d:List (W2×Int)):Nat->List (W2)->Int->Option (List (W2))
  |0,_,_=>none
  |f+1,c,a=>if a<b then(IH N a d).bind λe=>ck (0<=a/\a<(c.length:Int)) (ck (R64 (a+1)) ((Gq N b d f) ((c).set (a.toNat) e) (a+1)))else some c
def Mz(N:Nat)(a:Int)(b:List (W2×Int)):Option (List (W2)):=ck (0<=a/\a<=8796093022208) (Gq N a b N (List.replicate a.toNat ([])) 0)
theorem Xk(N a g r)(c:Mz N a g=some r)(E)(b:Nat)(f)(m:Rd Ab3 E f g)(j:Blk E b [f]):Does prog 224 #[vI a,vF 249 #[] #[vP b 0]] E [] (p1 (λs_=>s_) 9 Aa3 r):=by
 unfold Mz at c
 refine Al follows func224 Z 21 Z _ fz2 (λz=> ?_)
 refine AZ Z<|Ad<|rn 1 Z<|kC c λA c=>cB 8<|Tx (Ls:=[]) 9 Aa3 ([]) a Z Z Z Z Z Z Z Z Z Z 8796093022208 Z A (λ_ _ _ _ _=>Iff.rfl) (λB F G=> ?_)
 refine rz Z<|Aa λJ C=>AZ Z<|Ai<|Bs _ (Sub.pick [F] [0] Z)<|AH (λtt ll nn=> ∃(n:Nat) (h:List (W2)) (d:Int),(Gq N a g n h d=some r)/\ ∃(e:List Bl),Sl 9 Aa3 B h e/\Is [(1,vF 249 #[] #[vP b 0]),(5,B),(9,vI a),(10,vI d)] (List.flatten [e]) tt ll/\nn=n+1) (N+1) ?_ ?_
 ·exact⟨N,(List.replicate a.toNat ([])),0,c,F,G,Ag Z Z,Z⟩
 clear c;rintro t l _ ⟨n,h,d,c,e,i,⟨⟨T,rfl⟩,rfl⟩,rfl⟩
 rcases n with _|n
 ·exact absurd c (by simp [Gq])
 rw [Gq] at c
 refine AZ Z<|Aa λH p=>aD c Z (λq c=> ?_) (λq c=> ?_)
 ·refine Ab<|p _ _ ?_
  refine Aa λI s=>Ai<|AZ Z<|Ah<|rn 4 Z<|kB c λu v c=>gV _ (BO (caps:=[vP b 0]) Z nd Z) (λo w z_=>Rx N d g _ v z_.view b f (z_.r m) (AT j o w z_))<|kC c λk c=>rI (Sl.shp i) k Z<|RT (Ls:=[e]) 0 (En:=Aa3) (h[d.toNat]!) u (d.toNat) 0 Z Z Z i (Dx k) Z Z Z (Jp Z) Z (λx D=> ?_)
  refine Ak<|s _ _ ?_
  refine Ah<|kC c λy c=>rX y Z<|rz Z<|fg _ (Sub.pick [x] [0] Z) ?_
  exact⟨n+1,by omega,n,(h).set (d.toNat) u,(d+1),c,x,D,Ag Z Z,Z⟩
 refine AG<|C _ _ ?_
 refine AZ Z ?_
 cases c
 refine Bh (λK=>GZ (v0:=B) i (Dy (Sub.pick [e] [0] Z)) Z (FZ Z))
def Ka(N:Nat)(a:List (W2×Int)):Option (List (W2)):=(Mz N (a.length:Int) a).bind λb=>some b
theorem Vj(N f r)(c:Ka N f=some r)(h a)(b:Rd Ab3 h a f):Does prog 220 #[a] h [] (p1 (λs_=>s_) 9 Aa3 r):=by
 unfold Ka at c
 refine Al follows func220 Z 7 Z _ fz1 (λd=> ?_)
 refine Ad<|r_a (24, #[a]) Z Z (Od Z (Rd.shp b)) (λe=> ?_) (.inr Z)
 refine rz Z<|Ad<|rm 1 [0] Z<|rL (Rd.shp b) Z<|r_W (vF 249 #[] #[vP e 0]) Z (Jc Z)<|kB c λl g c=>gS (Ls:=[(gJ e a)]) (cF dy) (λo w z_=>Xk N (f.length:Int) f _ g z_.view e a ((Aw b) o w z_) (CN 0 Z Z o w z_)) (λi j k=> ?_)
 refine rz Z ?_
 cases c
 refine Bh (λm=>GZ (v0:=i) k (Dy (Sub.pick [(gJ e a),j] [1] Z)) Z (FZ Z))
def Ks(_:Nat):Option Unit:=some ()
theorem Ts(N r)(c:Ks N=some r)(d:Ro)(a:Nat):Does prog 259 #[vP a 0] d (As a (Value.pointer none) nS) (pO (As a (Value.pointer none) nS) (oE (vT #[]) [(As a (vP a 0) nS)])):=by
 unfold Ks at c
 refine EE follows func259 Z 20 Z _ fz1 (λ_ _ h_ _=>h_) (λb=> ?_)
 refine AY [0] Z<|Nt Z ?_
 refine Ah<|rn 2 Z<|cA 9 (p:=(pUp (λv_ U_=>v_=vP a 0/\U_=(As a (Value.pointer none) nS))))<|jb (Ls:=[(As a (Value.pointer none) nS)]) (vP a 0) 0 Z Z Z Z Z (gh (TB:=357) (cs:= #[Value.pointer none,nS]) Z Z Z Z Z Z Z (List.mem_singleton.2 Z)) (λ_ _ _ _ _=>Iff.rfl)<|cA 10 (p:=(pUp (λv_ U_=>v_=vP a 0/\U_=(As a (Value.pointer none) nS)))) ?_
 refine jb (Ls:=[(As a (Value.pointer none) nS)]) (vP a 0) 0 Z Z Z Z Z (λw_ _=>Zr (args:= #[vP a 0]) (e:=Extern.AbiNoEscape.same) (w':=w_) (aI Z) func267 (by kernel_rfl) (by kernel_rfl) (by kernel_rfl) (by kernel_rfl) Z) (λ_ _ _ _ _=>Iff.rfl)<|cA 11 (p:=(pUp (λv_ U_=>v_=vP a 0/\U_=(As a (Value.pointer none) nS))))<|jb (Ls:=[(As a (Value.pointer none) nS)]) (vP a 0) 0 Z Z Z Z Z (YD (TB:=357) (cs:= #[Value.pointer none,nS]) 2 Z Z Z Z Z (List.mem_singleton.2 Z) Z (by kernel_rfl)) (λ_ _ _ _ _=>Iff.rfl)<|rn 2 Z ?_
 refine ry [0] Z ?_
 cases c
 refine WE (v0:=vT #[]) (O:=[(As a (vP a 0) nS)]) Z (Sub.pick [(As a (vP a 0) nS)] [0] Z) ⟨Z,Z⟩
def Oj(_:Nat)(n:Int):Option (W2):=ck (R64 (0+n)) (ck (0<=(0+n)/\(0+n)<=140737488355328) (some ((([]:W2)).take (([]:W2)).length++(([]:W2)).drop (([]:W2)).length)))
theorem bE(N n r)(d:Oj N n=some r)(l:Ro)(a:Nat):Does prog 260 #[vP a 0,vI n] l (As a (vP a 0) nS) (pO (As a (vP a 0) nS) (oS 5 Ab8 r λs_0=>(oE (vT #[]) [(As a (vP a 0) s_0)]))):=by
 unfold Oj at d
 refine EE follows func260 Z 30 Z _ fz2 (λ_ _ h_ _=>h_) (λe=> ?_)
 refine Aa λm g=>BB [(some 13,false)] (conG prog [(13,λ_ _ v_ L_ U_=>(qC 5 ((0+n)).toNat) v_ L_ U_)]) [] (by decide+kernel) (λo=>AK)<|rm 4 [0] Z<|r_W (vI 0) Z (gW Z Z Z)<|r_X (vI 0) Z (Rv Z (by decide) (by decide)) Z<|rn 1 Z<|kC d λh d=>rX h Z<|kC d λi d=>wu (Ls:=[(As a (vP a 0) nS)]) (ps:= #[3]) (t:=355) 5 (0+n) Z Z Z (aI Z) func268 (by kernel_rfl) (by kernel_rfl) (by kernel_rfl) (by kernel_rfl) Z i (λ_ _ _ _ _=>Iff.rfl) (λb j xs4 _ k=> ?_)
 refine rm 4 [0] Z<|rL (.inl ⟨Z,Z⟩) Z<|r_W (GE b 0 ((((([]:W2)).length:Int)).toNat) 1) Z (Fc (Jb Z Z Z Z (Sl.shp k) (by exact⟨by decide,Int.natCast_nonneg _⟩)))<|rz Z<|g _ _ ?_
 refine Ad<|rm 5 [0] Z<|cA 25 (p:=(pUp (λv_ U_=>v_= .int .i64 ((min (([]:W2)).length (([]:W2)).length:Nat):Int)/\Sl 5 Ab8 (GE b 0 ((((([]:W2)).length:Int)).toNat) 1) ((([]:W2)).take (([]:W2)).length++(([]:W2)).drop (([]:W2)).length) U_/\U_.map (·.1)=j.map (·.1)))) ?_
 refine tO (Ls:=[(As a (vP a 0) nS),j]) 1 (En:=Ab8) (ys:=([]:W2)) Z Z Z Z Z Z (Sl.take00 k) (.inl ⟨Z,Z⟩) (λ_ _ _=> .inl ⟨Z,Z⟩) Z Z Z Z (λ_ _ _ _ _=>Iff.rfl) (λf c=> ?_)
 refine Ak<|Ah<|rn 4 Z<|r_s (List.flatten [(As a (vP a 0) (GE b 0 ((((([]:W2)).length:Int)).toNat) 1)),f]) 0 _ _ _ _ _ (#[vP a 0,GE b 0 ((((([]:W2)).length:Int)).toNat) 1]) Z Z Z (Gs Z (Sl.shp c)) (.ofS Z Z (Ae (Shp.one (Sl.shp c)) BA)) Z Z<|Ak ?_
 cases d
 refine WE (v0:=vT #[]) (O:=[f,(As a (vP a 0) (GE b 0 ((((([]:W2)).length:Int)).toNat) 1))]) Z (Sub.pick [(As a (vP a 0) (GE b 0 ((((([]:W2)).length:Int)).toNat) 1)),f] [1,0] Z) ⟨GE b 0 ((((([]:W2)).length:Int)).toNat) 1,f,_,c,⟨Z,Z⟩,Z⟩
def Nm(N:Nat)(n:Int):Option (W2):=ck ((R64 (0 - ((([]:W2)).length:Int)))) (if((0 - ((([]:W2)).length:Int)):Int)<n then(Oj N n).bind λa=>some a else some ([]:W2))
def MK(N:Nat)(n:Int):Option (W2):=(Ks N).bind λa=>if n<0 then none else Nm N n 
theorem bF(N n r)(b:MK N n=some r)(p:Ro)(a:Nat):Does prog 250 #[vP a 0,vI n] p (As a (Value.pointer none) nS) (pO (As a (Value.pointer none) nS) (oS 5 Ab8 r λs_0=>(oE (vT #[]) [(As a (vP a 0) s_0)]))):=by
 unfold MK at b
 refine EE follows func250 Z 25 Z _ fz2 (λ_ _ h_ _=>h_) (λf=> ?_)
 refine Ad<|rn 1 Z<|kB b λq g b=>gM (Ls:=[(As a (Value.pointer none) nS)]) (FL:=[(As a (Value.pointer none) nS)]) [0] (cF WN) (λo w hn_ z_=>Ts N  _ g _ a) ?_
 rintro _ _ ⟨rfl,rfl⟩
 refine Dv (Ls:=[(As a (vP a 0) nS)]) (Ls':=[(As a (vP a 0) nS)]) [0] Z Z<|Ak<|Cb (λtt ll=>(Nm N n  =some r)/\Is [(0,vP a 0),(1,vI n)] (As a (vP a 0) nS) tt ll) ?_ ?_
 ·refine AZ Z<|aD b Z (λd b=> ?_) (λd b=> ?_)
  ·refine Ah<|rn 1 Z ?_
   cases b
  refine Ab<|fg _ (Sub.of (suK _ suN)) ?_
  exact⟨b,Ag Z Z⟩
 clear b;rintro t l ⟨b,⟨T,rfl⟩,rfl⟩
 unfold Nm at b
 refine Aa λs h=>Ia [] (by decide+kernel) (λu=>AK)<|rm 4 [0] Z<|r_W (vI 0) Z (gW Z Z Z)<|rm 4 [0] Z<|rL (.inl ⟨Z,Z⟩) Z<|kC b λi b=>rX i Z<|rz Z<|h _ _ ?_
 refine aD b Z (λj b=> ?_) (λj b=> ?_)
 ·refine Ah<|rn 2 Z<|kB b λv k b=>gM (Ls:=[(As a (vP a 0) nS)]) (FL:=[(As a (vP a 0) nS)]) [0] (cF mW) (λo w hn_ z_=>bE N n _ k _ a) ?_
  rintro _ _ ⟨e,c,_,m,⟨rfl,rfl⟩,rfl⟩
  refine Dv (Ls:=[c,(As a (vP a 0) e)]) (Ls':=[(As a (vP a 0) e),c]) [1,0] Z Z<|Ak ?_
  cases b
  refine WE (v0:=vT #[]) (O:=[c,(As a (vP a 0) e)]) Z (Sub.pick [(As a (vP a 0) e),c] [1,0] Z) ⟨e,c,_,m,⟨Z,Z⟩,Z⟩
 refine Ab ?_
 cases b
 refine WE (v0:=vT #[]) (O:=[[],(As a (vP a 0) nS)]) Z (Sub.pickE (Ls:=[(As a (vP a 0) nS),[]]) (Ls0:=[(As a (vP a 0) nS)]) Z [1,0] Z) ⟨nS,[],_,Sl.nil,⟨Z,Z⟩,Z⟩
def Ir(N:Nat)(c:Int)(a:Bool):Option Int:=if a=true then some (IntKind.i32.wrap (c+32))else(CD N c 1024 1039).bind λb=>if b=true then some (IntKind.i32.wrap (c+80))else if c=962 then some 963 else some c
def MN(N:Nat)(c:Int):Option Int:=(JE N c).bind λf=>if f=true then(CD N c 65 90).bind λb=>if b=true then Ir N c b else(CD N c 192 222).bind λd=>if d=true then Ir N c d else(CD N c 913 937).bind λa=>if a=true then Ir N c a else(CD N c 1040 1071).bind λe=>Ir N c e else some c
theorem bU(N c r)(a:MN N c=some r):Gives prog 252 #[Value.int .i32 c] (Value.int .i32 r):=by
 unfold MN at a
 refine Aq follows func252 Z 28 Z _ fz1 (λp=> ?_)
 refine AZ Z<|Aa λA q=>Ai<|Ad<|rn 1 Z<|kB a λB s a=>rc _ (cF dB) (RG N c _ s)<|rz Z<|BI _ Z (λb=> ?_) (λb=> ?_)
 ·replace a:=ifn (Bool.eq_false_iff.1 (Dk b)) a
  refine AZ Z ?_
  cases a
  exact aR eE1
 replace a:=ifp (Dl b) a
 refine Cb (λtt ll=> ∃(d:Bool),(Ir N c d=some r)/\Is [(0,Value.int .i32 c),(8,vB d)] [] tt ll) ?_ ?_
 ·refine Ad<|rn 1 Z<|kB a λu e a=>rc _ (cF Ko) (Fr N c 65 90 _ e)<|rz Z<|aB a Z (λf a=> ?_) (λf a=> ?_)
  ·refine Ab<|fg _ (Sub.of suN) ?_
   exact⟨u,a,Ag Z Z⟩
  refine Ad<|rn 1 Z<|kB a λv g a=>rc _ (cF Ko) (Fr N c 192 222 _ g)<|rz Z<|aB a Z (λh a=> ?_) (λh a=> ?_)
  ·refine Ab<|fg _ (Sub.of suN) ?_
   exact⟨v,a,Ag Z Z⟩
  refine Ad<|rn 1 Z<|kB a λw i a=>rc _ (cF Ko) (Fr N c 913 937 _ i)<|rz Z<|aB a Z (λj a=> ?_) (λj a=> ?_)
  ·refine Ab<|fg _ (Sub.of suN) ?_
   exact⟨w,a,Ag Z Z⟩
  refine Ah<|rn 1 Z<|kB a λx k a=>rc _ (cF Ko) (Fr N c 1040 1071 _ k)<|rz Z<|fg _ (Sub.of suN) ?_
  exact⟨x,a,Ag Z Z⟩
 clear a;rintro t l ⟨d,a,⟨T,rfl⟩,rfl⟩
 unfold Ir at a
 refine aB a Z (λy a=> ?_) (λy a=> ?_)
 ·refine AZ Z ?_
  cases a
  exact aR eE1
 refine Ad<|rn 1 Z<|kB a λz m a=>rc _ (cF Ko) (Fr N c 1024 1039 _ m)<|rz Z<|aB a Z (λn a=> ?_) (λn a=> ?_)
 ·refine AZ Z ?_
  cases a
  exact aR eE1
 refine AZ Z<|aE a Z (λo a=> ?_) (λo a=> ?_)
 ·refine AZ Z ?_
  cases a
  exact aR eE1
 refine Ab<|q _ _ ?_
 refine AZ Z ?_
 cases a
 exact aR eE1
def Mm(_:Nat)(b:W2):Option (W2):=some b
theorem Tr(N b r)(g:Mm N b=some r)(h:Ro)(a:Nat)(c:Value)(d:List Bl)(i:Sl 5 Ab8 c b d):Does prog 259 #[vP a 0] h (List.flatten [(As a (Value.pointer none) c),d]) (pO (List.flatten [(As a (Value.pointer none) c),d]) (oI 5 Ab8 c r (oE (vT #[]) [(As a (vP a 0) c)]))):=by
 unfold Mm at g
 refine EE follows func259 Z 20 Z _ fz1 (λ_ _ h_ _=>h_) (λf=> ?_)
 refine AY [0] Z<|Nt Z ?_
 refine Ah<|rn 2 Z<|cA 9 (p:=(pUp (λv_ U_=>v_=vP a 0/\U_=(As a (Value.pointer none) c))))<|jb (Ls:=[(As a (Value.pointer none) c),d]) (vP a 0) 0 Z Z Z Z Z (gh (TB:=357) (cs:= #[Value.pointer none,c]) Z Z Z Z Z Z Z (List.mem_singleton.2 Z)) (λ_ _ _ _ _=>Iff.rfl)<|cA 10 (p:=(pUp (λv_ U_=>v_=vP a 0/\U_=(As a (Value.pointer none) c)))) ?_
 refine jb (Ls:=[(As a (Value.pointer none) c),d]) (vP a 0) 0 Z Z Z Z Z (λw_ _=>Zr (args:= #[vP a 0]) (e:=Extern.AbiNoEscape.same) (w':=w_) (aI Z) func267 (by kernel_rfl) (by kernel_rfl) (by kernel_rfl) (by kernel_rfl) Z) (λ_ _ _ _ _=>Iff.rfl)<|cA 11 (p:=(pUp (λv_ U_=>v_=vP a 0/\U_=(As a (Value.pointer none) c))))<|jb (Ls:=[(As a (Value.pointer none) c),d]) (vP a 0) 0 Z Z Z Z Z (YD (TB:=357) (cs:= #[Value.pointer none,c]) 2 Z Z Z Z Z (List.mem_singleton.2 Z) Z (by kernel_rfl)) (λ_ _ _ _ _=>Iff.rfl)<|rn 2 Z ?_
 refine ry [0] Z ?_
 cases g
 refine WE (v0:=vT #[]) (O:=[d,(As a (vP a 0) c)]) Z (Sub.pick [(As a (vP a 0) c),d] [1,0] Z) ⟨d,_,i,⟨Z,Z⟩,Z⟩
def jT(p:W2)(a:Int)(b:Bool):Option (W2):=if b=true then ck ((0:Int)<=((18#64).toNat:Int)) (ck ((0:Int)<=((12#64).toNat:Int)) (ck ((0:Int)<=((6#64).toNat:Int)) (ck ((p).length+([((240:UInt8)|||(Bv (Fu a 18))),((128:UInt8)|||((Bv (Fu a 12))&&&(63:UInt8))),((128:UInt8)|||((Bv (Fu a 6))&&&(63:UInt8))),((128:UInt8)|||((Bv a)&&&(63:UInt8)))]).length<=140737488355328) (some ((p++([((240:UInt8)|||(Bv (Fu a 18))),((128:UInt8)|||((Bv (Fu a 12))&&&(63:UInt8))),((128:UInt8)|||((Bv (Fu a 6))&&&(63:UInt8))),((128:UInt8)|||((Bv a)&&&(63:UInt8)))])))))))else ck ((p).length+([(239:UInt8),(191:UInt8),(189:UInt8)]).length<=140737488355328) (some (p++([(239:UInt8),(191:UInt8),(189:UInt8)])))
def bn(p:W2)(a:Int)(b:Bool):Option (W2):=if b=true then ck ((0:Int)<=((12#64).toNat:Int)) (ck ((0:Int)<=((6#64).toNat:Int)) (ck ((p).length+([((224:UInt8)|||(Bv (Fu a 12))),((128:UInt8)|||((Bv (Fu a 6))&&&(63:UInt8))),((128:UInt8)|||((Bv a)&&&(63:UInt8)))]).length<=140737488355328) (some ((p++([((224:UInt8)|||(Bv (Fu a 12))),((128:UInt8)|||((Bv (Fu a 6))&&&(63:UInt8))),((128:UInt8)|||((Bv a)&&&(63:UInt8)))]))))))else if((((Ln a).toNat:Nat):Int):Int)>65535 then jT p a (decide (((((Ln a).toNat:Nat):Int):Int)<=1114111))else jT p a false
def uNm(_:Nat)(p:W2)(a:Int):Option (W2):=if((((Ln a).toNat:Nat):Int):Int)<=2047 then ck ((0:Int)<=((6#64).toNat:Int)) (ck ((p).length+([((192:UInt8)|||(Bv (Fu a 6))),((128:UInt8)|||((Bv a)&&&(63:UInt8)))]).length<=140737488355328) (some ((p++([((192:UInt8)|||(Bv (Fu a 6))),((128:UInt8)|||((Bv a)&&&(63:UInt8)))])))))else if((((Ln a).toNat:Nat):Int):Int)<55296 then bn p a (decide (((((Ln a).toNat:Nat):Int):Int)<55296))else if(57343:Int)<(((Ln a).toNat:Nat):Int)then bn p a (decide (((((Ln a).toNat:Nat):Int):Int)<=65535))else bn p a false
theorem uNg(N p a r)(b:uNm N p a=some r)(ro:Ro)(I:Value)(c:List Bl)(J:Sl 5 Ab8 I p c):Does prog 269 #[I,Value.int .i32 a] ro (List.flatten [c]) (pO (List.flatten [c]) (oS 5 Ab8 r λs_0=>(oE s_0 []))):=by
 unfold uNm at b
 refine EE follows func269 Z 78 Z _ fz2 (λ_ _ h_ _=>h_) (λH=> ?_)
 refine AZ Z<|Ad<|rn 1 Z<|r_w (Value.int .u32 (((Ln a).toNat:Nat):Int)) Z Z (ek a) (λ_=>Z)<|rz Z<|Ai<|AZ Z<|aD b Z (λK b=> ?_) (λK b=> ?_)
 ·refine Ad<|rn 2 Z<|kC b λad b=>r_W (Value.int .i32 (Fu a 6)) Z (Rq (x:=a) 6 Z Z)<|r_w (Value.int .u8 ((((Bv (Fu a 6)).toNat:Nat):Int))) Z Z (Mx (Fu a 6)) (λ_=>Z)<|r_X (Value.int .u8 (((((192:UInt8)|||(Bv (Fu a 6))).toNat:Nat):Int))) Z (bj (192:UInt8) (Bv (Fu a 6))) Z<|rn 1 Z<|r_w (Value.int .u8 (((Bv a).toNat:Nat):Int)) Z Z (Mx a) (λ_=>Z)<|r_X (Value.int .u8 (((((Bv a)&&&(63:UInt8)).toNat:Nat):Int))) Z (Zn (Bv a) (63:UInt8)) Z ?_
  refine r_X (Value.int .u8 (((((128:UInt8)|||((Bv a)&&&(63:UInt8))).toNat:Nat):Int))) Z (bj (128:UInt8) ((Bv a)&&&(63:UInt8))) Z<|gB (Ls:=[c]) 5 encY [((192:UInt8)|||(Bv (Fu a 6))),((128:UInt8)|||((Bv a)&&&(63:UInt8)))] (λs7 L H9=> ?_)
  refine kC b λf b=>cC 24<|LK (cs0:=[]) (Ls:=[c,L]) 0 (En:=Ab8) Z Z Z Z Z J Z (λo w z_=>Pk ((Ax H9 (Aj (Ls:=[c,L]) (k:=1) Z Z)) o w z_)) Z Z Z Z Z (Mf f Z) (Me f Z) Z (λA j M=> ?_)
  refine rz Z ?_
  cases b
  refine Bh (λP=>KV (v0:=A) (O:=[j]) (FZ Z) (Sub.pick [j,L] [0] Z) ⟨A,j,_,M,⟨Z,Z⟩,Z⟩)
 refine Cb (λtt ll=> ∃(m:Bool),(bn p a m=some r)/\Is [(0,I),(1,Value.int .i32 a),(5,Value.int .u32 (((Ln a).toNat:Nat):Int)),(25,vB m)] (List.flatten [c]) tt ll) ?_ ?_
 ·refine AZ Z<|aD b Z (λB b=> ?_) (λB b=> ?_)
  ·refine Ab<|fg _ (Sub.pick [c] [0] Z) ?_
   exact⟨decide (((((Ln a).toNat:Nat):Int):Int)<55296),b,Ag Z Z⟩
  refine Ah<|rn 3 Z ?_
  rcases d:(decide ((57343:Int)<(((Ln a).toNat:Nat):Int)))with _|_
  ·replace b:=iF d b
   refine rz Z<|fg _ (Sub.pick [c] [0] Z) ?_
   exact⟨false,b,Ag (by first|rfl|(simp only [d];done)|(simp only [d];rfl)|(simp only [Br];rfl)) Z⟩
  replace b:=iD d b
  refine rz Z<|fg _ (Sub.pick [c] [0] Z) ?_
  exact⟨decide (((((Ln a).toNat:Nat):Int):Int)<=65535),b,Ag (by first|rfl|(simp only [d];done)|(simp only [d];rfl)|(simp only [Br];rfl)) Z⟩
 clear b;rintro t l ⟨m,b,⟨T,rfl⟩,rfl⟩
 unfold bn at b
 refine aB b Z (λC b=> ?_) (λC b=> ?_)
 ·refine Ad<|rn 2 Z<|kC b λX b=>r_W (Value.int .i32 (Fu a 12)) Z (Rq (x:=a) 12 Z Z)<|r_w (Value.int .u8 ((((Bv (Fu a 12)).toNat:Nat):Int))) Z Z (Mx (Fu a 12)) (λ_=>Z)<|r_X (Value.int .u8 (((((224:UInt8)|||(Bv (Fu a 12))).toNat:Nat):Int))) Z (bj (224:UInt8) (Bv (Fu a 12))) Z<|rn 1 Z<|kC b λY b=>r_W (Value.int .i32 (Fu a 6)) Z (Rq (x:=a) 6 Z Z)<|r_w (Value.int .u8 ((((Bv (Fu a 6)).toNat:Nat):Int))) Z Z (Mx (Fu a 6)) (λ_=>Z)<|r_X (Value.int .u8 (((((Bv (Fu a 6))&&&(63:UInt8)).toNat:Nat):Int))) Z (Zn (Bv (Fu a 6)) (63:UInt8)) Z<|r_X (Value.int .u8 (((((128:UInt8)|||((Bv (Fu a 6))&&&(63:UInt8))).toNat:Nat):Int))) Z (bj (128:UInt8) ((Bv (Fu a 6))&&&(63:UInt8))) Z<|rn 1 Z<|r_w (Value.int .u8 (((Bv a).toNat:Nat):Int)) Z Z (Mx a) (λ_=>Z) ?_
  refine r_X (Value.int .u8 (((((Bv a)&&&(63:UInt8)).toNat:Nat):Int))) Z (Zn (Bv a) (63:UInt8)) Z<|r_X (Value.int .u8 (((((128:UInt8)|||((Bv a)&&&(63:UInt8))).toNat:Nat):Int))) Z (bj (128:UInt8) ((Bv a)&&&(63:UInt8))) Z<|cD 48 ?_
  refine Ke (cs0:=[]) (Ls:=[c]) 5 encY [((224:UInt8)|||(Bv (Fu a 12))),((128:UInt8)|||((Bv (Fu a 6))&&&(63:UInt8))),((128:UInt8)|||((Bv a)&&&(63:UInt8)))] [Value.int .u8 (((((224:UInt8)|||(Bv (Fu a 12))).toNat:Nat):Int)),Value.int .u8 (((((128:UInt8)|||((Bv (Fu a 6))&&&(63:UInt8))).toNat:Nat):Int)),Value.int .u8 (((((128:UInt8)|||((Bv a)&&&(63:UInt8))).toNat:Nat):Int))] [Value.int .u8 0,Value.int .u8 0,Value.int .u8 0] Z Z Z Z Z Z Z (by kernel_rfl) (by kernel_rfl) Z Z Z (λaf n Q=> ?_)
  refine kC b λg b=>cC 49<|LK (cs0:=[]) (Ls:=[c,n]) 0 (En:=Ab8) Z Z Z Z Z J Z (λo w z_=>Pk ((Ax Q (Aj (Ls:=[c,n]) (k:=1) Z Z)) o w z_)) Z Z Z Z Z (Mf g Z) (Me g Z) Z (λD q R=> ?_)
  refine rz Z ?_
  cases b
  refine Bh (λP=>KV (v0:=D) (O:=[q]) (FZ Z) (Sub.pick [q,n] [0] Z) ⟨D,q,_,R,⟨Z,Z⟩,Z⟩)
 refine Cb (λtt ll=> ∃(s:Bool),(jT p a s=some r)/\Is [(0,I),(1,Value.int .i32 a),(50,vB s)] (List.flatten [c]) tt ll) ?_ ?_
 ·refine Ah<|rn 3 Z ?_
  rcases e:(decide (((((Ln a).toNat:Nat):Int):Int)>65535))with _|_
  ·replace b:=iF e b
   refine rz Z<|fg _ (Sub.pick [c] [0] Z) ?_
   exact⟨false,b,Ag (by first|rfl|(simp only [e];done)|(simp only [e];rfl)|(simp only [Br];rfl)) Z⟩
  replace b:=iD e b
  refine rz Z<|fg _ (Sub.pick [c] [0] Z) ?_
  exact⟨decide (((((Ln a).toNat:Nat):Int):Int)<=1114111),b,Ag (by first|rfl|(simp only [e];done)|(simp only [e];rfl)|(simp only [Br];rfl)) Z⟩
 clear b;rintro t l ⟨s,b,⟨T,rfl⟩,rfl⟩
 unfold jT at b
 refine aB b Z (λE b=> ?_) (λE b=> ?_)
 ·refine Ad<|rn 2 Z<|kC b λaa b=>r_W (Value.int .i32 (Fu a 18)) Z (Rq (x:=a) 18 Z Z)<|r_w (Value.int .u8 ((((Bv (Fu a 18)).toNat:Nat):Int))) Z Z (Mx (Fu a 18)) (λ_=>Z)<|r_X (Value.int .u8 (((((240:UInt8)|||(Bv (Fu a 18))).toNat:Nat):Int))) Z (bj (240:UInt8) (Bv (Fu a 18))) Z<|rn 1 Z<|kC b λab b=>r_W (Value.int .i32 (Fu a 12)) Z (Rq (x:=a) 12 Z Z)<|r_w (Value.int .u8 ((((Bv (Fu a 12)).toNat:Nat):Int))) Z Z (Mx (Fu a 12)) (λ_=>Z)<|r_X (Value.int .u8 (((((Bv (Fu a 12))&&&(63:UInt8)).toNat:Nat):Int))) Z (Zn (Bv (Fu a 12)) (63:UInt8)) Z<|r_X (Value.int .u8 (((((128:UInt8)|||((Bv (Fu a 12))&&&(63:UInt8))).toNat:Nat):Int))) Z (bj (128:UInt8) ((Bv (Fu a 12))&&&(63:UInt8))) Z<|rn 1 Z<|kC b λac b=>r_W (Value.int .i32 (Fu a 6)) Z (Rq (x:=a) 6 Z Z)<|r_w (Value.int .u8 ((((Bv (Fu a 6)).toNat:Nat):Int))) Z Z (Mx (Fu a 6)) (λ_=>Z)<|r_X (Value.int .u8 (((((Bv (Fu a 6))&&&(63:UInt8)).toNat:Nat):Int))) Z (Zn (Bv (Fu a 6)) (63:UInt8)) Z<|r_X (Value.int .u8 (((((128:UInt8)|||((Bv (Fu a 6))&&&(63:UInt8))).toNat:Nat):Int))) Z (bj (128:UInt8) ((Bv (Fu a 6))&&&(63:UInt8))) Z<|rn 1 Z<|r_w (Value.int .u8 (((Bv a).toNat:Nat):Int)) Z Z (Mx a) (λ_=>Z) ?_
  refine r_X (Value.int .u8 (((((Bv a)&&&(63:UInt8)).toNat:Nat):Int))) Z (Zn (Bv a) (63:UInt8)) Z<|r_X (Value.int .u8 (((((128:UInt8)|||((Bv a)&&&(63:UInt8))).toNat:Nat):Int))) Z (bj (128:UInt8) ((Bv a)&&&(63:UInt8))) Z<|cD 76 ?_
  refine Ke (cs0:=[]) (Ls:=[c]) 5 encY [((240:UInt8)|||(Bv (Fu a 18))),((128:UInt8)|||((Bv (Fu a 12))&&&(63:UInt8))),((128:UInt8)|||((Bv (Fu a 6))&&&(63:UInt8))),((128:UInt8)|||((Bv a)&&&(63:UInt8)))] [Value.int .u8 (((((240:UInt8)|||(Bv (Fu a 18))).toNat:Nat):Int)),Value.int .u8 (((((128:UInt8)|||((Bv (Fu a 12))&&&(63:UInt8))).toNat:Nat):Int)),Value.int .u8 (((((128:UInt8)|||((Bv (Fu a 6))&&&(63:UInt8))).toNat:Nat):Int)),Value.int .u8 (((((128:UInt8)|||((Bv a)&&&(63:UInt8))).toNat:Nat):Int))] [Value.int .u8 0,Value.int .u8 0,Value.int .u8 0,Value.int .u8 0] Z Z Z Z Z Z Z (by kernel_rfl) (by kernel_rfl) Z Z Z (λag u S=> ?_)
  refine kC b λh b=>cC 77<|LK (cs0:=[]) (Ls:=[c,u]) 0 (En:=Ab8) Z Z Z Z Z J Z (λo w z_=>Pk ((Ax S (Aj (Ls:=[c,u]) (k:=1) Z Z)) o w z_)) Z Z Z Z Z (Mf h Z) (Me h Z) Z (λF v U=> ?_)
  refine rz Z ?_
  cases b
  refine Bh (λP=>KV (v0:=F) (O:=[v]) (FZ Z) (Sub.pick [v,u] [0] Z) ⟨F,v,_,U,⟨Z,Z⟩,Z⟩)
 refine Ad<|rn 1 Z<|gB (Ls:=[c]) 5 encY [(239:UInt8),(191:UInt8),(189:UInt8)] (λah y V=> ?_)
 refine kC b λi b=>cC 10<|LK (cs0:=[]) (Ls:=[c,y]) 0 (En:=Ab8) Z Z Z Z Z J Z (λo w z_=>Pk ((Ax V (Aj (Ls:=[c,y]) (k:=1) Z Z)) o w z_)) Z Z Z Z Z (Mf i Z) (Me i Z) Z (λG z W=> ?_)
 refine rz Z ?_
 cases b
 refine Bh (λP=>KV (v0:=G) (O:=[z]) (FZ Z) (Sub.pick [z,y] [0] Z) ⟨G,z,_,W,⟨Z,Z⟩,Z⟩)
def Tl(N:Nat)(p:W2)(a:Int):Option (W2):=if((((Ln a).toNat:Nat):Int):Int)<=127 then ck ((p).length+([(Bv a)]).length<=140737488355328) (some (p++([(Bv a)])))else(uNm N p a).bind λb=>some b
theorem jU(N p d r)(b:Tl N p d=some r)(z:Ro)(t:Value)(c:List Bl)(u:Sl 5 Ab8 t p c):Does prog 261 #[t,Value.int .i32 d] z (List.flatten [c]) (pO (List.flatten [c]) (oS 5 Ab8 r λs_0=>(oE s_0 []))):=by
 unfold Tl at b
 refine EE follows func261 Z 16 Z _ fz2 (λ_ _ h_ _=>h_) (λj=> ?_)
 refine AZ Z<|Aa λA l=>Ad<|rn 1 Z<|r_w (Value.int .u32 (((Ln d).toNat:Nat):Int)) Z Z (ek d) (λ_=>Z)<|rz Z<|aD b Z (λm b=> ?_) (λm b=> ?_)
 ·refine Ad<|rn 2 Z<|r_w (Value.int .u8 (((Bv d).toNat:Nat):Int)) Z Z (Mx d) (λ_=>Z)<|gB (Ls:=[c]) 5 encY [(Bv d)] (λB n v=> ?_)
  refine kC b λf b=>cC 12<|LK (cs0:=[]) (Ls:=[c,n]) 0 (En:=Ab8) Z Z Z Z Z u Z (λo w z_=>Pk ((Ax v (Aj (Ls:=[c,n]) (k:=1) Z Z)) o w z_)) Z Z Z Z Z (Mf f Z) (Me f Z) Z (λg e q=> ?_)
  refine rz Z ?_
  cases b
  refine Bh (λx=>KV (v0:=g) (O:=[e]) (FZ Z) (Sub.pick [e,n] [0] Z) ⟨g,e,_,q,⟨Z,Z⟩,Z⟩)
 refine Ab<|l _ _ ?_
 refine Ad<|rn 2 Z<|kB b λy h b=>gM (Ls:=[c]) (FL:=[c]) [0] (cF mU) (λo w hn_ z_=>uNg N p d _ h _ t c u) ?_
 rintro i _ ⟨_,a,_,s,⟨rfl,rfl⟩,rfl⟩
 refine Dv (Ls:=[a]) (Ls':=[a]) [0] Z Z<|rz Z ?_
 cases b
 refine Bh (λx=>KV (v0:=i) (O:=[a]) (FZ Z) (Sub.pick [a] [0] Z) ⟨i,a,_,s,⟨Z,Z⟩,Z⟩)
def Pj(N:Nat)(b:W2)(d:Int):Option (Int×(W2)):=(Mm N b).bind λc=>ck ((c).length=(b).length) ((Tl N c d).bind λa=>ck ((R64 ((a.length:Int) - (c.length:Int)))) (some (((a.length:Int) - (c.length:Int)),a)))
theorem Tu(N b q r)(f:Pj N b q=some r)(u:Ro)(a:Nat)(d:Value)(h:List Bl)(v:Sl 5 Ab8 d b h):Does prog 251 #[vP a 0,Value.int .i32 q] u (List.flatten [(As a (Value.pointer none) d),h]) (pO (List.flatten [(As a (Value.pointer none) d),h]) (oS 5 Ab8 r.2 λs_0=>(oE (vT #[vI r.1,Value.nilIface]) [(As a (vP a 0) s_0)]))):=by
 unfold Pj at f
 refine EE follows func251 Z 30 Z _ fz2 (λ_ _ h_ _=>h_) (λm=> ?_)
 refine AZ Z<|Ad<|rn 1 Z<|kB f λn p f=>kC f λt f=>gM (Ls:=[(As a (Value.pointer none) d),h]) (FL:=[(As a (Value.pointer none) d),h]) [0,1] (cF WN) (λo w hn_ z_=>Tr N b _ p _ a d h v) ?_
 rintro _ _ ⟨i,_,s,⟨rfl,rfl⟩,rfl⟩
 refine Dv (Ls:=[i,(As a (vP a 0) d)]) (Ls':=[(As a (vP a 0) d),i]) [1,0] Z Z<|Ak<|Ad<|rm 4 [0] Z<|rL (Sl.shp s) Z<|rz Z<|Ad<|rm 6 [0] Z<|kB f λj k f=>gM (Ls:=[(As a (vP a 0) d),i]) (FL:=[i]) [1] (cF dq) (λo w hn_ z_=>jU N n q _ k _ d i s) ?_
 rintro e _ ⟨_,c,_,g,⟨rfl,rfl⟩,rfl⟩
 refine Dv (Ls:=[(As a (vP a 0) d),c]) (Ls':=[(As a (vP a 0) d),c]) [0,1] Z Z<|rn 2 Z<|r_s (List.flatten [(As a (vP a 0) e),c]) 0 _ _ _ _ _ (#[vP a 0,e]) Z Z Z (Gs Z (Sl.shp g)) (.ofS Z Z (Ae (Shp.one (Sl.shp g)) BA)) Z Z<|Ak<|Ad<|rm 4 [0] Z<|rL (Sl.shp g) Z<|rn 1 Z<|kC f λl f=>rX l Z<|rz Z<|GS [(4,vI ((j.length:Int) - (n.length:Int))),(5,Value.nilIface)] Z (λT=> ?_)
 cases f
 refine Bh (λx=>KV (v0:=vT #[vI ((j.length:Int) - (n.length:Int)),Value.nilIface]) (O:=[c,(As a (vP a 0) e)]) (LI Z Z) (Sub.pick [(As a (vP a 0) e),c] [1,0] Z) ⟨e,c,_,g,⟨Z,Z⟩,Z⟩)
def Kr(_:Nat)(b:W2):Option (W2):=some b
theorem Tq(N b r)(f:Kr N b=some r)(g:Ro)(a:Nat)(c:Value)(d:List Bl)(h:Sl 5 Ab8 c b d):Does prog 259 #[vP a 0] g (List.flatten [(As a (vP a 0) c),d]) (pO (List.flatten [(As a (vP a 0) c),d]) (oI 5 Ab8 c r (oE (vT #[]) [(As a (vP a 0) c)]))):=by
 unfold Kr at f
 refine EE follows func259 Z 20 Z _ fz1 (λ_ _ h_ _=>h_) (λe=> ?_)
 refine AY [0] Z<|Co Z ?_
 refine Ad<|rm 5 [0] Z<|r_W (vB false) Z (rK Z Z Z Z Z)<|Ak<|Co Z ?_
 refine Ab ?_
 cases f
 refine WE (v0:=vT #[]) (O:=[d,(As a (vP a 0) c)]) Z (Sub.pick [(As a (vP a 0) c),d] [1,0] Z) ⟨d,_,h,⟨Z,Z⟩,Z⟩
def Kt(N:Nat)(b:W2)(d:Int):Option (Int×(W2)):=(Kr N b).bind λc=>ck ((c).length=(b).length) ((Tl N c d).bind λa=>ck ((R64 ((a.length:Int) - (c.length:Int)))) (some (((a.length:Int) - (c.length:Int)),a)))
theorem Tt(N b q r)(f:Kt N b q=some r)(u:Ro)(a:Nat)(d:Value)(h:List Bl)(v:Sl 5 Ab8 d b h):Does prog 251 #[vP a 0,Value.int .i32 q] u (List.flatten [(As a (vP a 0) d),h]) (pO (List.flatten [(As a (vP a 0) d),h]) (oS 5 Ab8 r.2 λs_0=>(oE (vT #[vI r.1,Value.nilIface]) [(As a (vP a 0) s_0)]))):=by
 unfold Kt at f
 refine EE follows func251 Z 30 Z _ fz2 (λ_ _ h_ _=>h_) (λm=> ?_)
 refine AZ Z<|Ad<|rn 1 Z<|kB f λn p f=>kC f λt f=>gM (Ls:=[(As a (vP a 0) d),h]) (FL:=[(As a (vP a 0) d),h]) [0,1] (cF WN) (λo w hn_ z_=>Tq N b _ p _ a d h v) ?_
 rintro _ _ ⟨i,_,s,⟨rfl,rfl⟩,rfl⟩
 refine Dv (Ls:=[i,(As a (vP a 0) d)]) (Ls':=[(As a (vP a 0) d),i]) [1,0] Z Z<|Ak<|Ad<|rm 4 [0] Z<|rL (Sl.shp s) Z<|rz Z<|Ad<|rm 6 [0] Z<|kB f λj k f=>gM (Ls:=[(As a (vP a 0) d),i]) (FL:=[i]) [1] (cF dq) (λo w hn_ z_=>jU N n q _ k _ d i s) ?_
 rintro e _ ⟨_,c,_,g,⟨rfl,rfl⟩,rfl⟩
 refine Dv (Ls:=[(As a (vP a 0) d),c]) (Ls':=[(As a (vP a 0) d),c]) [0,1] Z Z<|rn 2 Z<|r_s (List.flatten [(As a (vP a 0) e),c]) 0 _ _ _ _ _ (#[vP a 0,e]) Z Z Z (Gs Z (Sl.shp g)) (.ofS Z Z (Ae (Shp.one (Sl.shp g)) BA)) Z Z<|Ak<|Ad<|rm 4 [0] Z<|rL (Sl.shp g) Z<|rn 1 Z<|kC f λl f=>rX l Z<|rz Z<|GS [(4,vI ((j.length:Int) - (n.length:Int))),(5,Value.nilIface)] Z (λT=> ?_)
 cases f
 refine Bh (λx=>KV (v0:=vT #[vI ((j.length:Int) - (n.length:Int)),Value.nilIface]) (O:=[c,(As a (vP a 0) e)]) (LI Z Z) (Sub.pick [(As a (vP a 0) e),c] [1,0] Z) ⟨e,c,_,g,⟨Z,Z⟩,Z⟩)
def JO(N:Nat)(b:W2)(a:Int):Option (Int×(W2)):=Kt N b a
set_option maxRecDepth 100000 in
theorem Sw(N b g r)(j:JO N b g=some r)(h:Ro)(a:Value)(c:List Bl)(i:Bd 357 5 a b c):Does prog 251 #[a,Value.int .i32 g] h (List.flatten [c]) (pO (List.flatten [c]) (oIB 357 5 a r.2 (oE (vT #[vI r.1,Value.nilIface]) []))):=by
 rw [cO]
 obtain⟨b_,f_,s_,d,rfl,e,rfl⟩:=i
 cases f_
 ·exact xq (f:=true) (Tu N b g r j h b_ s_ d e)
 exact xq (f:=true) (Tt N b g r j h b_ s_ d e)
def RD(_:Nat)(b:W2):Option (W2):=ck ((b).length<=140737488355328) (some b)
theorem Xo(N b r)(e:RD N b=some r)(l:Ro)(c:Nat)(a:Value)(d:List Bl)(j:Sl 5 Ab8 a b d):Does prog 253 #[vP c 0] l (List.flatten [(As c (Value.pointer none) a),d]) (pO (List.flatten [(As c (Value.pointer none) a),d]) (oE (vS r) [])):=by
 unfold RD at e
 refine EE follows func253 Z 14 Z _ fz1 (λ_ _ h_ _=>h_) (λf=> ?_)
 refine AZ Z<|Aa λm g=>BB [(some 7,false),(some 13,true)] (conG prog [(7,λ_ _ v_ L_ U_=>(λv_ L_ U_=>ep a v_/\L_=[]/\U_=[]) v_ L_ U_),(13,λ_ _ v_ L_ U_=>(pUp (λv_ U_=>v_= .string ⟨(b).toArray⟩/\U_=OH d)) v_ L_ U_)]) [] (by decide+kernel) (λk=>AK)<|rm 4 [0] Z<|tN (Ls:=[(As c (Value.pointer none) a),d]) 1 Z Z Z Z Z j Z Z (λ_ _ _ _ _=>Iff.rfl) (λn h=> ?_)
 refine rm 4 [0] Z<|rL (Sl.shp j) Z<|kC e λi e=>kE (Ls:=[(As c (Value.pointer none) a),d]) 1 (xs:=b) Z Z Z Z Z Z j h Z (by kernel_rfl) Z i (λ_ _ _ _ _=>Iff.rfl)<|Dv (Ls:=[(As c (Value.pointer none) a),OH d]) (Ls':=[(As c (Value.pointer none) a)]) [0] Z Z<|rz Z<|g _ _ ?_
 cases e
 refine Bh (λk=>KV (v0:=vS b) (O:=[]) (FZ Z) (Sub.nil _) ⟨Z,Z⟩)
def MA(_:Nat)(b:W2):Option (W2):=ck ((b).length<=140737488355328) (some b)
theorem Xn(N b r)(e:MA N b=some r)(l:Ro)(a:Nat)(c:Value)(d:List Bl)(j:Sl 5 Ab8 c b d):Does prog 253 #[vP a 0] l (List.flatten [(As a (vP a 0) c),d]) (pO (List.flatten [(As a (vP a 0) c),d]) (oE (vS r) [])):=by
 unfold MA at e
 refine EE follows func253 Z 14 Z _ fz1 (λ_ _ h_ _=>h_) (λf=> ?_)
 refine AZ Z<|Aa λm g=>BB [(some 7,false),(some 13,true)] (conG prog [(7,λ_ _ v_ L_ U_=>(λv_ L_ U_=>ep c v_/\L_=[]/\U_=[]) v_ L_ U_),(13,λ_ _ v_ L_ U_=>(pUp (λv_ U_=>v_= .string ⟨(b).toArray⟩/\U_=OH d)) v_ L_ U_)]) [] (by decide+kernel) (λk=>AK)<|rm 4 [0] Z<|tN (Ls:=[(As a (vP a 0) c),d]) 1 Z Z Z Z Z j Z Z (λ_ _ _ _ _=>Iff.rfl) (λn h=> ?_)
 refine rm 4 [0] Z<|rL (Sl.shp j) Z<|kC e λi e=>kE (Ls:=[(As a (vP a 0) c),d]) 1 (xs:=b) Z Z Z Z Z Z j h Z (by kernel_rfl) Z i (λ_ _ _ _ _=>Iff.rfl)<|Dv (Ls:=[(As a (vP a 0) c),OH d]) (Ls':=[(As a (vP a 0) c)]) [0] Z Z<|rz Z<|g _ _ ?_
 cases e
 refine Bh (λk=>KV (v0:=vS b) (O:=[]) (FZ Z) (Sub.nil _) ⟨Z,Z⟩)
def NE(N:Nat)(b:W2):Option (W2):=MA N b
set_option maxRecDepth 100000 in
theorem Vk(N b r)(h:NE N b=some r)(f:Ro)(e:Value)(a:List Bl)(g:Bd 357 5 e b a):Does prog 253 #[e] f (List.flatten [a]) (pO (List.flatten [a]) (oE (vS r) [])):=by
 rw [cO]
 obtain⟨b_,f_,s_,c,rfl,d,rfl⟩:=g
 cases f_
 ·exact Xo N b r h f b_ s_ c d 
 exact Xn N b r h f b_ s_ c d 
def Kh(N:Nat)(s:W2):Nat->W2->Nat->Option (W2)
  |0,_,_=>none
  |f+1,a,b=>if b<(s).length then ck (b<(s).length) ((MN N ((runeAt s b:Nat):Int)).bind λd=>(JO N a d).bind λe=>(Kh N s f) e.2 (IP s b))else(NE N a).bind λc=>some c
def Mn(N:Nat)(s:W2):Option (W2):=(MK N (s.length:Int)).bind λa=>Kh N s N a 0
theorem VE(N s r)(g:Mn N s=some r):Gives prog 221 #[vS s] (vS r):=by
 unfold Mn at g
 refine Aq follows func221 Z 18 Z _ fz1 (λA=> ?_)
 refine AZ Z<|Ad<|rA Z λe=>Ak<|Ad<|rn 1 Z<|r_W (vI (s.length:Int)) Z (Ns Z Z Z)<|kB g λG B g=>gM (Ls:=[(As e (Value.pointer none) nS)]) (FL:=[(As e (Value.pointer none) nS)]) [0] (cF nc) (λo w hn_ z_=>bF N (s.length:Int) _ B _ e) ?_
 rintro _ _ ⟨k,m,_,H,⟨rfl,rfl⟩,rfl⟩
 refine Dv (Ls:=[m,(As e (vP e 0) k)]) (Ls':=[(As e (vP e 0) k),m]) [1,0] Z Z<|Dv (Ls:=[(As e (vP e 0) k),m]) (Ls':=[(As e (vP e 0) k),m]) [0,1] Z Z<|tT (Ls:=[(As e (vP e 0) k),m]) (Ls':=[(List.flatten [(As e (vP e 0) k),m])]) (by simp only [List.flatten_cons,List.flatten_nil,List.append_nil,zu])<|ZJ (Ls:=[(List.flatten [(As e (vP e 0) k),m])]) (p:=λS_=>Bd 357 5 (vP e 0) G S_) 0 Z ⟨e,true,_,_,Z,H,Z⟩ (λi C=> ?_)
 refine Ak<|Aa λI n=>Ad<|rn 1 Z<|cB 10 (p:=(pIt s))<|gn s Z Z Z Z Z (λ_ _ _ _ _=>Iff.rfl) (λd=> ?_)
 refine re (Ls:=[i])<|Dv (Ls:=[i,[(d,(itT s 0), #[])]]) (Ls':=[[(d,(itT s 0), #[])],i]) [1,0] Z Z<|Ak<|Ai<|Bs _ (Sub.pick [[(d,(itT s 0), #[])],i] [0,1] Z)<|AH (λtt ll nn=> ∃(h:Nat) (b:W2) (c:Nat),(Kh N s h b c=some r)/\ ∃(a:List Bl),Bd 357 5 (vP e 0) b a/\Is [(3,vP e 0),(10,vP d 0)] (List.flatten [[(d,(itT s c), #[])],a]) tt ll/\nn=h+1) (N+1) ?_ ?_
 ·exact⟨N,G,0,g,i,C,Ag Z Z,Z⟩
 clear g;rintro t l _ ⟨h,b,c,g,a,f,⟨⟨T,rfl⟩,rfl⟩,rfl⟩
 rcases h with _|h
 ·exact absurd g (by simp [Kh])
 rw [Kh] at g
 refine Ad<|cA 11 (p:=(pNx d s c))<|kF (lN:=(List.flatten [[(d,(itT s (IP s c)), #[])],a])) 0 d s c Z Z Z Z Z Z (λ_ _ _ _ _=>Iff.rfl) Z<|r_W (vB (decide (c<(s).length))) Z (Fc (cR s c))<|Ak<|Aa λJ q=>aD g Z (λu g=> ?_) (λu g=> ?_)
 ·refine Ab<|q _ _ ?_
  refine Ai<|Ad<|kC g λv g=>r_W (Value.int .i32 ((runeAt s c:Nat):Int)) Z (Fc (cQ v))<|rz Z<|Ah<|rn 1 Z<|kB g λD x g=>rc _ (cF na) (bU N ((runeAt s c:Nat):Int) _ x)<|kB g λE y g=>gM (Ls:=[[(d,(itT s (IP s c)), #[])],a]) (FL:=[a]) [1] (cF nb) (λo w hn_ z_=>Sw N b D _ y _ (vP e 0) a f) ?_
  rintro _ _ ⟨j,_,F,⟨rfl,rfl⟩,rfl⟩
  refine Dv (Ls:=[[(d,(itT s (IP s c)), #[])],j]) (Ls':=[[(d,(itT s (IP s c)), #[])],j]) [0,1] Z Z<|Ak<|fg _ (Sub.pick [[(d,(itT s (IP s c)), #[])],j] [0,1] Z) ?_
  exact⟨h+1,by omega,h,E.2,IP s c,g,j,F,Ag Z Z,Z⟩
 refine AG<|n _ _ ?_
 refine Ad<|kB g λK z g=>gM (Ls:=[[(d,(itT s (IP s c)), #[])],a]) (FL:=[a]) [1] (cF mZ) (λo w hn_ z_=>Vk N b _ z _ (vP e 0) a f) ?_
 rintro _ _ ⟨rfl,rfl⟩
 refine Dv (Ls:=[[(d,(itT s (IP s c)), #[])]]) (Ls':=[[(d,(itT s (IP s c)), #[])]]) [0] Z Z<|rz Z ?_
 cases g
 exact aR eE1
def JP(N:Nat)(a:W2)(b:W2):Option Bool:=(Mn N a).bind λc=>some (c==b)
theorem SF(N a b r)(e:JP N a b=some r)(i:Ro)(c:Nat)(d:Blk i c [vS b]):Does prog 223 #[vS a,vP c 0] i [] (pV (vB r)):=by
 unfold JP at e
 refine Al follows func223 Z 8 Z _ fz2 (λf=> ?_)
 refine AZ Z<|Aa λk g=>Ia [] (by decide+kernel) (λl=>AK)<|rn 1 Z<|kB e λj h e=>rc _ (cF dz) (VE N a _ h)<|HO (vS b) (vs:=[vS b]) (o:=0) Z Z (AT d) Z<|r_W (vB (j==b)) Z (Cr Z Z)<|rz Z<|g _ _ ?_
 cases e
 exact aR eV1
def bw(N:Nat)(s:List (W2))(b:W2):Nat->Int->Option Int
  |0,_=>none
  |d+1,a=>if a<(s.length:Int)then ck (0<=a/\a<(s.length:Int)) ((JP N (s[a.toNat]!) b).bind λc=>if c=true then some a else ck (R64 (a+1)) ((bw N s b d) (a+1)))else some (-1)
def sfm(N:Nat)(s:List (W2))(a:W2):Option Int:=bw N s a N 0
theorem sfg(N s d r)(a:sfm N s d=some r)(u v)(x:Rd Aa3 u v s)(b:Nat)(f:Blk u b [vS d]):Does prog 222 #[v,vF 223 #[] #[vP b 0]] u [] (pV (vI r)):=by
 unfold sfm at a
 refine Al follows func222 Z 19 Z _ fz2 (λk=> ?_)
 refine AZ Z<|Aa λz m=>Ad<|rn 1 Z<|rL (Rd.shp x) Z<|rz Z<|Ai<|AH (λtt ll nn=> ∃(g:Nat) (c:Int),(bw N s d g c=some r)/\Is [(0,v),(1,vF 223 #[] #[vP b 0]),(7,vI (s.length:Int)),(8,vI c)] [] tt ll/\nn=g+1) (N+1) ?_ ?_
 ·exact⟨N,0,a,Ag Z Z,Z⟩
 clear a;rintro t l _ ⟨g,c,a,⟨⟨T,rfl⟩,rfl⟩,rfl⟩
 rcases g with _|g
 ·exact absurd a (by simp [bw])
 rw [bw] at a
 refine AZ Z<|Aa λA n=>aD a Z (λp a=> ?_) (λp a=> ?_)
 ·refine Ab<|n _ _ ?_
  refine Aa λB q=>Ai<|AZ Z<|Ad<|rn 3 Z<|kC a λe a=>rI (Rd.shp x) e Z<|rE (Aw x) e 0 Z<|kB a λy h a=>gV _ (BO (caps:=[vP b 0]) Z nF Z) (λo w z_=>SF N (s[c.toNat]!) d _ h z_.view b (AT f o w z_))<|Ak<|aB a Z (λi a=> ?_) (λi a=> ?_)
  ·refine AZ Z ?_
   cases a
   exact aR eV1
  refine Ab<|q _ _ ?_
  refine Ah<|kC a λj a=>rX j Z<|rz Z<|fg _ (Sub.of suN) ?_
  exact⟨g+1,by omega,g,(c+1),a,Ag Z Z,Z⟩
 refine AG<|m _ _ ?_
 refine AZ Z ?_
 cases a
 exact aR eV1
def Iq(N:Nat)(b:List (W2))(s:W2):Option Int:=(Mn N s).bind λa=>(sfm N b a).bind λc=>some c
theorem SE(N f s r)(b:Iq N f s=some r)(i a)(g:Rd Aa3 i a f):Does prog 157 #[a,vS s] i [] (pV (vI r)):=by
 unfold Iq at b
 refine Al follows func157 Z 11 Z _ fz2 (λc=> ?_)
 refine AZ Z<|Ad<|rn 1 Z<|kB b λj d b=>rc _ (cF dz) (VE N s _ d)<|rA Z λh=>ry [0] Z<|Ad<|rn 1 Z<|r_W (vF 223 #[] #[vP h 0]) Z (Jc Z)<|kB b λk e b=>gV _ (cF nG) (λo w z_=>sfg N f j _ e z_.view a ((Aw g) o w z_) h (CN 0 Z Z o w z_))<|rz Z ?_
 cases b
 exact aR eV1
end Go.Proofs.YtjlomkippigejaaGreatDoor
