import Derived.Test.YtjnanfkpdhmnpaaGreatDoorBf
namespace Go.Proofs.YtjnanfkpdhmnpaaGreatDoor
open Go Go.RowKit Go.Eng _root_.Go.Proofs.Tryz
set_option linter.unusedSimpArgs false
set_option linter.unusedVariables false
set_option maxRecDepth 100000
set_option maxHeartbeats 80000000
abbrev Tk(b:Nat)(x0:W2)(x1:Y2)(x2 x3 x4 x5:Int):Y0 Bl:=[(b,97, #[vS x0,x1,vI x2,vI x3,vI x4,vI x5])]
abbrev RN(b:Nat)(x0:Y2):Y0 Bl:=[(b,69, #[x0])]
abbrev Ug(b:Nat)(x0:Int):Y0 Bl:=[(b,3, #[vI x0])]
abbrev Tl(b:Nat)(x0 x1:W4):Y0 Bl:=[(b,300, #[U x0,U x1])]
abbrev Tm(b:Nat)(x0:Int)(x1 x2:W4)(x3:Int)(x4 x5:W4)(x6:Int):Y0 Bl:=[(b,202, #[vI x0,U x1,U x2,vI x3,U x4,U x5,vI x6])]
abbrev cP(b:Nat)(x0 x1 x2:Int):Y0 Bl:=[(b,184, #[vI x0,vI x1,vI x2])]
abbrev cQ(b:Nat)(x0:Int):Y0 Bl:=[(b,182, #[vI x0])]
abbrev LD(b:Nat)(x0:W2)(x1 x2 x3:Y2)(x4:Int):Y0 Bl:=[(b,72, #[vS x0,x1,x2,x3,vI x4])]
abbrev Ws(b:Nat)(x0:Y2):Y0 Bl:=[(b,160, #[x0])]
abbrev cR(b:Nat)(x0:Y2):Y0 Bl:=[(b,101, #[x0])]
abbrev Uh(b:Nat)(x0:W2)(x1 x2:Y2):Y0 Bl:=[(b,120, #[vS x0,x1,x2])]
abbrev Zi(b:Nat)(x0 x1:Int):Y0 Bl:=[(b,368, #[vI x0,vI x1])]
abbrev ke(b:Nat)(x0 x1 x2 x3:Int)(x4 x5:W4):Y0 Bl:=[(b,209, #[vI x0,vI x1,vI x2,vI x3,U x4,U x5])]
def Mt(N:Nat)(a:Y0 (W2×Int))(i:Int):Y1 Y3:=ck ((R64 ((a.length:Int) - 1))) ((AG N i 0 ((a.length:Int) - 1)).bind λb=>some b)
theorem WB(N g i r)(a:Mt N g i=some r)(h b)(f:Rd Ab3 h b g):Does prog 227 #[b,vI i] h [] (pV (vB r)):=by
 unfold Mt at a
 refine Ak follows func227 Z 10 Z _ fz2 (λc=> ?_)
 refine AZ Z<|Ad<|rn 2 Z<|rL (W8 f) Z<|kC a λd a=>rX d Z<|kB a λj e a=>rc _ (cF FK) (Ba N i 0 _ _ e)<|rz Z ?_
 cases a
 exact aR eV1
def MW(f:Int)(a:(W2)×(Y0 (W2×Int))×Int×Int×Int×Int×Y3):Y1 (Int×Y3):=ck (0<=f/\f<(a.2.1.length:Int)) (some (((a.2.1)[f.toNat]!).2,true))
def Ht(N:Nat)(m:Ao)(b f:Int):Y1 (Int×Y3):=(KC N m b).bind λa=>if a.2.2.2.2.2.2=true then(Mt N a.2.1 f).bind λc=>if c=true then MW f a  else some (0,false)else some (0,false)
theorem Qx(N m e f r)(b:Ht N m e f=some r)(y)(j:AC)(B:Aa2 y j m):Does prog 171 #[vA (Ab m j),vI e,vI f] y [] (pV (vT #[vI r.1,vB r.2])):=by
 unfold Ht at b
 refine Ak follows func171 Z 31 Z _ fz3 (λu=> ?_)
 refine Ad<|rA Z λv=>rz Z<|Ad<|rm 2 [0] Z<|kB b λa x b=>gS (Ls:=[[(v,35,(Ab m j))]]) (cF bC) (λo w z_=>Rr N m e _ x z_.view j (Aa2.mono z_.ro_cell B)) (λi p q=> ?_)
 refine rn 3 Z<|rA Z λn=>r_s (V2 [(Tk n a.1 i a.2.2.1 a.2.2.2.1 a.2.2.2.2.1 a.2.2.2.2.2.1),[(v,35,(Ab m j))],p]) 0 _ _ _ _ _ (#[vS a.1,i,vI a.2.2.1,vI a.2.2.2.1,vI a.2.2.2.2.1,vI a.2.2.2.2.2.1]) Z Z Z Z (.ofS Z Z (Ae Z (sS q (Ae Z (Ae Z (Ae Z (Ae Z AD))))))) Z Z<|rz Z<|Cs (λtt ll=>(MW f a  =some r)/\Is [(2,vI f),(8,vP n 0)] (V2 [(Tk n a.1 i a.2.2.1 a.2.2.2.1 a.2.2.2.2.1 a.2.2.2.2.2.1),p]) tt ll) ?_ ?_
 ·refine Aa λz g=>Ah<|rn 3 Z ?_
  rcases h:(!(a.2.2.2.2.2.2))with _|_
  ·replace b:=ifp (DH h) b
   refine rn 1 Z<|r_y Z<|rm 2 [0] Z<|r_y Z<|kB b λA s b=>gV _ (cF pd) (λo w z_=>WB N a.2.1 f _ s z_.view i ((AB q (Al (Ls:=[(Tk n a.1 i a.2.2.1 a.2.2.2.1 a.2.2.2.2.1 a.2.2.2.2.2.1),[(v,35,(Ab m j))],p]) (k:=2) Z Z)) o w z_))<|rz Z<|g _ _ ?_
   refine BS _ Z (λc=> ?_) (λc=> ?_)
   ·replace b:=ifn (Bool.eq_false_iff.1 (DG c)) b
    refine AZ Z ?_
    cases b
    exact aR eV2
   replace b:=ifp (DH c) b
   refine Ac<|fg _ (W5 [(Tk n a.1 i a.2.2.1 a.2.2.2.1 a.2.2.2.2.1 a.2.2.2.2.2.1),[(v,35,(Ab m j))],p] [0,2] Z) ?_
   exact⟨b,Ag Z Z⟩
  replace b:=ifn (Bool.eq_false_iff.1 (DG h)) b
  refine rz Z<|g _ _ ?_
  refine JO Z ?_
  refine AZ Z ?_
  cases b
  exact aR eV2
 clear b;rintro t l ⟨b,⟨T,rfl⟩,rfl⟩
 unfold MW at b
 refine Ad<|rm 3 [0] Z<|kC b λd b=>rI (W7 q) d Z<|rF (W7 q) (Bp d) Z<|rE (AB q (Al (Ls:=[(Tk n a.1 i a.2.2.1 a.2.2.2.1 a.2.2.2.2.1 a.2.2.2.2.2.1),p]) (k:=1) Z Z)) d 1 Z<|rz Z ?_
 cases b
 exact aR eV2
def IN(N:Nat)(m:Ao)(i:Int):Y1 (Int×Y3):=(AG N i 0 7).bind λb=>if b=true then ck (0<=i/\i<8) (some ((FE[i.toNat]!),true))else ck ((R64 (8+(m.2.2.2.1.length:Int)))) (ck ((R64 ((8+(m.2.2.2.1.length:Int)) - 1))) ((AG N i 8 ((8+(m.2.2.2.1.length:Int)) - 1)).bind λa=>if a=true then ck (R64 (i - 8)) (ck (0<=(i - 8)/\(i - 8)<(m.2.2.2.1.length:Int)) (some (((m.2.2.2.1)[((i - 8)).toNat]!).2,true)))else some (0,false)))
theorem UG(N m i r)(a:IN N m i=some r)(w)(x:AC)(p:Aa2 w x m):DoesI prog 244 #[vA (Ab m x),vI i] Gt w [] (pV (vT #[vI r.1,vB r.2])):=by
 unfold IN at a
 refine Bq follows func244 Z 27 Z _ fz2 Bm (λo=> ?_)
 refine Ad<|rA Z λz=>rz Z<|Aa λA q=>Ai<|Ad<|rn 1 Z<|kB a λB s a=>rc _ (cF FK) (Ba N i 0 7 _ s)<|rz Z<|aB a Z (λu a=> ?_) (λu a=> ?_)
 ·refine Ad<|rn 1 Z<|kC a λv a=> ?_
  have e:=λc=>GV (Tw (P:=prog) (c:=c) (t:=362) (b:=0) (off:=0) (k:= .i64) Z Z Z v)
  simp only [q7] at e
  have f:i.toNat<8:=by omega
  refine r_W (V7 (some ⟨0,i.toNat,none⟩)) Z (e _)<|cB 11<|xD (vI (FE[i.toNat]!)) Z Z Z Z Z (λ_ h_=>RZ h_ _ f) (λ_ _ _ _ _=>Iff.rfl)<|rz Z ?_
  cases a
  exact aR eV2
 refine Ad<|rm 3 [0] Z<|rL (W8 p.2.2.1) Z<|kC a λg a=>rX g Z<|kC a λh a=>rX h Z<|kB a λy j a=>rc _ (cF FK) (Ba N i 8 _ _ j)<|rz Z<|aB a Z (λl a=> ?_) (λl a=> ?_)
 ·refine Ad<|rm 3 [0] Z<|kC a λn a=>rX n Z<|kC a λd a=>rI (W8 p.2.2.1) d Z<|rF (W8 p.2.2.1) (Bp d) Z<|rE (Ay p.2.2.1) d 1 Z<|rz Z ?_
  cases a
  exact aR eV2
 refine Ac<|q _ _ ?_
 refine AZ Z ?_
 cases a
 exact aR eV2
def HZ(N:Nat)(m:Ao)(a c d:Int):Y1 (Int×Y3):=if a=0 then(Ht N m c d).bind λe=>some (e.1,e.2)else if a=1 then(IN N m c).bind λb=>some (b.1,b.2)else if a=2 then some (d,true)else some (0,false)
theorem PS(N m h b c r)(a:HZ N m h b c=some r)(n)(j:AC)(p:Aa2 n j m):DoesI prog 242 #[vA (Ab m j),vA #[vI h,vI b,vI c]] Gt n [] (pV (vT #[vI r.1,vB r.2])):=by
 unfold HZ at a
 refine Bq follows func242 Z 30 Z _ fz2 Bm (λi=> ?_)
 refine Ad<|rA Z λs=>rA Z λt=>rz Z<|Aa λu k=>AY [0] Z<|Ai<|AZ Z<|aE a Z (λl a=> ?_) (λl a=> ?_)
 ·refine Ad<|rm 5 [1,0,0] Z<|kB a λv d a=>gV _ (cF Xq) (λo w z_=>(V3 (Qx N m b c _ d z_.view j (Aa2.mono z_.ro_cell p)) _))<|rz Z ?_
  cases a
  exact aR eV2
 refine AZ Z<|aE a Z (λe a=> ?_) (λe a=> ?_)
 ·refine Ad<|rm 3 [1,0] Z<|kB a λq f a=>gV _ (cF dW) (λo w z_=>UG N m b _ f z_.view j (Aa2.mono z_.ro_cell p))<|rz Z ?_
  cases a
  exact aR eV2
 refine AZ Z<|aE a Z (λg a=> ?_) (λg a=> ?_)
 ·refine AY [0] Z ?_
  cases a
  exact aR eV2
 refine Ac<|k _ _ ?_
 refine AZ Z ?_
 cases a
 exact aR eV2
def Jy(N:Nat)(m:Ao)(d:Y0 (Int×Int×Int)):Nat->Int->Int->Y1 (Int×Y3)
  |0,_,_=>none
  |f+1,a,b=>if b<(d.length:Int)then ck (0<=b/\b<(d.length:Int)) ((HZ N m ((d[b.toNat]!).1) ((d[b.toNat]!).2.1) ((d[b.toNat]!).2.2)).bind λc=>if c.2=true then ck (R64 (128 - a)) ((AG N c.1 1 (128 - a)).bind λe=>if e=true then ck (R64 (a+c.1)) (ck (R64 (b+1)) ((Jy N m d f) (a+c.1) (b+1)))else some (0,false))else some (0,false))else some (a,true)
def Oj(N:Nat)(m:Ao)(a:Y0 (Int×Int×Int)):Y1 (Int×Y3):=Jy N m a N 0 0
theorem Ww(N m z r)(a:Oj N m z=some r)(E)(A:AC)(L:Aa2 E A m)(j)(k:Rd Ac9 E j z):DoesI prog 206 #[vA (Ab m A),j] Gt E [] (pV (vT #[vI r.1,vB r.2])):=by
 unfold Oj at a
 refine Bq follows func206 Z 37 Z _ fz2 Bm (λy=> ?_)
 refine Ad<|rA Z λF=>rz Z<|AZ Z<|Aa λM B=>Ad<|rn 1 Z<|rL (W8 k) Z<|rz Z<|Ai<|AL (λtt ll nn=> ∃(h:Nat) (b:Int) (e:Int),(Jy N m z h b e=some r)/\Is [(2,vP F 0),(6,vI b),(11,j),(12,vI (z.length:Int)),(13,vI e)] [(F,35,(Ab m A))] tt ll/\nn=h+1) (N+1) ?_ ?_
 ·exact⟨N,0,0,a,Ag Z Z,Z⟩
 clear a;rintro t l _ ⟨h,b,e,a,⟨⟨T,rfl⟩,rfl⟩,rfl⟩
 rcases h with _|h
 ·exact absurd a (by simp [Jy])
 rw [Jy] at a
 refine AZ Z<|Aa λO C=>aD a Z (λD a=> ?_) (λD a=> ?_)
 ·refine Ac<|C _ _ ?_
  refine Aa λG n=>Ai<|Ad<|kC a λf a=>rI (W8 k) f Z<|rE (Ay k) f 0 Z<|rA Z λH=>ry [0] Z<|Ad<|rm 2 [1,0] Z<|kB a λi p a=>gV _ (cF dY) (λo w z_=>PS N m _ _ _ _ p z_.view A (Aa2.mono z_.ro_cell L))<|rz Z<|Aa λI q=>Aa λJ g=>Ah<|rn 3 Z ?_
  rcases c:(!(i.2))with _|_
  ·replace a:=ifp (DH c) a
   refine rn 2 Z<|r_y Z<|kC a λs a=>rX s Z<|r_y Z<|kB a λK u a=>rc _ (cF FK) (Ba N i.1 1 _ _ u)<|rz Z<|g _ _ ?_
   refine BS _ Z (λd=> ?_) (λd=> ?_)
   ·replace a:=ifn (Bool.eq_false_iff.1 (DG d)) a
    refine AZ Z<|CJ [(4,vI 0),(5,vB false)] Z (λT=> ?_)
    cases a
    exact aR eV2
   replace a:=ifp (DH d) a
   refine Ac<|q _ _ ?_
   refine Ah<|rn 2 Z<|kC a λv a=>rX v Z<|rz Z<|n _ _ ?_
   refine Ah<|kC a λx a=>rX x Z<|rz Z<|fg _ (Sub.of (suC _ (suK _ suN))) ?_
   exact⟨h+1,by omega,h,(b+i.1),(e+1),a,Ag (by first|rfl|(simp only [c];done)|(simp only [c];rfl)|(simp only [BB];rfl)) Z,Z⟩
  replace a:=ifn (Bool.eq_false_iff.1 (DG c)) a
  refine rz Z<|g _ _ ?_
  refine JO Z ?_
  refine AZ Z<|CJ [(4,vI 0),(5,vB false)] Z (λT=> ?_)
  cases a
  exact aR eV2
 refine AM<|B _ _ ?_
 refine AZ Z ?_
 cases a
 exact aR eV2
def IX(N:Nat)(c:Ao)(a:Y0 (Int×Int×Int)):Y1 Int:=(Oj N c a).bind λb=>some b.1
theorem YI(N c d r)(i:IX N c d=some r)(l)(e:AC)(n:Aa2 l e c)(a)(b:Rd Ac9 l a d):DoesI prog 146 #[vA (Ab c e),a] Gt l [] (pO [] (oB 69 #[a] λb_0=>(oB 3 #[vI r] λb_1=>(oB 75 (Ab c e) λb_2=>(oE (vF 207 #[] #[vP b_0 0,vP b_1 0,vP b_2 0]) []))))):=by
 unfold IX at i
 refine BZ follows func146 Z 15 Z _ fz2 Bm (λj=> ?_)
 refine Ad<|rA Z λf=>r_a (69, #[a]) Z Z (Oz Z (W8 b)) (λg=> ?_) (.inr Z)
 refine rz Z<|Ad<|rm 3 [1,0] Z<|kB i λm k i=>gV _ (cF ed) (λo w z_=>Ww N c d _ k z_.view e (Aa2.mono z_.ro_cell n) a (z_.r b))<|rn 3 Z<|rA Z λh=>ry [0] Z<|Ad<|r_W (vF 207 #[] #[vP g 0,vP h 0,vP f 0]) Z (Jt Z)<|rz Z ?_
 cases i
 refine AU (λp=>CI (v0:=vF 207 #[] #[vP g 0,vP h 0,vP f 0]) (O:=[(RN g a),(Ug h m.1),[(f,75,(Ab c e))]]) (Gl Z) (W5 [(Ug h m.1),(RN g a),[(f,75,(Ab c e))]] [1,0,2] Z) ⟨g,_,⟨h,_,⟨f,_,⟨Z,Z⟩,Z⟩,Z⟩,Z⟩)
def Kp(_:Nat)(_:Int)(a:W3):Y1 (W3):=some a
theorem Sn(N b a r)(d:Kp N b a=some r):Gives prog 209 #[vA #[vI b,U (hi a),U (lo a)]] (vA #[U (hi r),U (lo r)]):=by
 unfold Kp at d
 refine Au follows func209 Z 8 Z _ fz1 (λc=> ?_)
 refine Ad<|rA Z λe=>rA Z λg=>Aj<|Ad<|r_V (vP e 1) Z<|rl (U (hi a)) 1<|r_V (vP e 2) Z<|rl (U (lo a)) 1<|r_W (vA #[U (hi a),U (lo a)]) Z (Ar Z Z Z Z)<|ry [0] Z ?_
 cases d
 refine AU (λf=>EH (v0:=vA #[U (hi a),U (lo a)]) Z (Gl (Bf f 0 Z Z Z)))
def Qd(_:Nat)(a:W3):Y1 (W3):=some ((~~~(hi a))++(~~~(lo a)))
theorem fd(N a r)(c:Qd N a=some r):Gives prog 210 #[vA #[U (hi a),U (lo a)]] (vA #[U (hi r),U (lo r)]):=by
 unfold Qd at c
 refine Au follows func210 Z 10 Z _ fz1 (λb=> ?_)
 refine Ad<|rA Z λe=>rA Z λf=>Aj<|Ad<|rm 2 [1] Z<|r_X (U (~~~(hi a))) Z (vp (hi a)) Z<|rm 2 [1] Z<|r_X (U (~~~(lo a))) Z (vp (lo a)) Z<|r_W (vA #[U (~~~(hi a)),U (~~~(lo a))]) Z (Ar Z Z Z Z)<|ry [0] Z ?_
 cases c
 refine AU (λd=>EH (v0:=vA #[U (~~~(hi a)),U (~~~(lo a))]) (by first|rfl|(simp only [BB];done)|simp only [BB]) (Gl (Bf d 0 Z Z Z)))
def Qe(_:Nat)(a b:W3):Y1 (W3):=some ((hi a&&&hi b)++(lo a&&&lo b))
theorem fe(N a b r)(d:Qe N a b=some r):Gives prog 208 #[vA #[U (hi a),U (lo a)],vA #[U (hi b),U (lo b)]] (vA #[U (hi r),U (lo r)]):=by
 unfold Qe at d
 refine Au follows func208 Z 16 Z _ fz2 (λc=> ?_)
 refine Ad<|rA Z λf=>rA Z λg=>rA Z λh=>Aj<|Ad<|rm 4 [2,1] Z<|r_X (U (hi a&&&hi b)) Z (XB (hi a) (hi b)) Z<|rm 4 [2,1] Z<|r_X (U (lo a&&&lo b)) Z (XB (lo a) (lo b)) Z<|r_W (vA #[U (hi a&&&hi b),U (lo a&&&lo b)]) Z (Ar Z Z Z Z) ?_
 refine ry [0] Z ?_
 cases d
 refine AU (λe=>EH (v0:=vA #[U (hi a&&&hi b),U (lo a&&&lo b)]) (by first|rfl|(simp only [BB];done)|simp only [BB]) (Gl (Bf e 0 Z Z Z)))
def Ko(_:Nat)(a:Int):Y1 Y3:=if a>=1 then some (decide (a<=128))else some false
theorem VB(N e r)(a:Ko N e=some r):Gives prog 261 #[vI e] (vB r):=by
 unfold Ko at a
 refine Au follows func261 Z 9 Z _ fz1 (λd=> ?_)
 refine AZ Z<|Aa λf b=>Ah<|rn 3 Z ?_
 rcases c:(decide (e>=1))with _|_
 ·replace a:=iF c a
  refine rz Z<|b _ _ ?_
  cases a
  exact aR eE1
 replace a:=iD c a
 refine rz Z<|b _ _ ?_
 cases a
 exact aR eE1
def NO(N:Nat)(a:Int)(b:W3):Y1 Y3:=(Ko N a).bind λc=>if c=true then(Kp N a b).bind λd=>some (decide ((((len128 d:Nat):Int):Int)<=a))else some false
theorem YO(N b c r)(a:NO N b c=some r):Gives prog 243 #[vA #[vI b,U (hi c),U (lo c)]] (vB r):=by
 unfold NO at a
 refine Au follows func243 Z 14 Z _ fz1 (λf=> ?_)
 refine Ad<|rA Z λk=>rz Z<|Aa λl d=>HS [] (by decide+kernel) (λm=>AN)<|rm 2 [0] Z<|kB a λi g a=>rc _ (cF ot) (VB N b _ g)<|rn 1 Z ?_
 rcases e:i with _|_
 ·replace a:=iB e a
  refine rz Z<|d _ _ ?_
  cases a
  exact aR eE1
 replace a:=ifp e a
 refine r_y Z<|rm 1 [0] Z<|r_y Z<|kB a λj h a=>rc _ (cF Xm) (Sn N b c _ h)<|r_y Z<|rc _ (cF oq) (yd j)<|rn 1 Z<|r_y Z<|ry [0] Z<|d _ _ ?_
 cases a
 exact aR eE1
def Gu(N:Nat)(a:Int)(b:W3)(d:Int):Y1 Y3:=if a=d then(NO N a b).bind λc=>some c else some false
theorem Ph(N b c h r)(a:Gu N b c h=some r):Gives prog 211 #[vA #[vI b,U (hi c),U (lo c)],vI h] (vB r):=by
 unfold Gu at a
 refine Au follows func211 Z 13 Z _ fz2 (λf=> ?_)
 refine Ad<|rA Z λi=>rz Z<|Aa λj d=>Ah<|rm 5 [0] Z ?_
 rcases e:(b==h)with _|_
 ·replace a:=iG e a
  refine rz Z<|d _ _ ?_
  cases a
  exact aR eE1
 replace a:=iE e a
 refine r_y Z<|rm 1 [0] Z<|r_y Z<|kB a λk g a=>rc _ (cF dX) (YO N b c _ g)<|rz Z<|d _ _ ?_
 cases a
 exact aR eE1
def Mr(N:Nat)(a:Y0 ((W2)×(Y0 (Int×Int))×(Y0 (Int×Int×Int))×(Y0 (Int×W3×Int×W3×Int))×Int))(i:Int):Y1 Y3:=ck ((R64 ((a.length:Int) - 1))) ((AG N i 0 ((a.length:Int) - 1)).bind λb=>some b)
theorem Wz(N g i r)(a:Mr N g i=some r)(h b)(f:RdN Ad8 h b g):Does prog 216 #[b,vI i] h [] (pV (vB r)):=by
 unfold Mr at a
 refine Ak follows func216 Z 10 Z _ fz2 (λc=> ?_)
 refine AZ Z<|Ad<|rn 2 Z<|rL (W9 f) Z<|kC a λd a=>rX d Z<|kB a λj e a=>rc _ (cF FK) (Ba N i 0 _ _ e)<|rz Z ?_
 cases a
 exact aR eV1
def GT(N:Nat)(c:Ao)(n:Int):Y1 Int:=(Mr N c.2.2.2.2.1 n).bind λd=>if d=true then(Ap N true 5).bind λa=>some a else if n= -1 then(Ap N true 5).bind λb=>some b else(Ap N (n== -2) 5).bind λe=>some e
theorem Rv(N c n r)(a:GT N c n=some r)(l)(k:AC)(s:Aa2 l k c):Does prog 148 #[vA (Ab c k),vI n] l [] (pV (vI r)):=by
 unfold GT at a
 refine Ak follows func148 Z 19 Z _ fz2 (λh=> ?_)
 refine Ad<|rA Z λt=>rz Z<|Aa λu b=>Ah<|rm 4 [0] Z<|kB a λm i a=>gV _ (cF po) (λo w z_=>Wz N _ n _ i z_.view k.2.2.2.1 (V1 z_.ro_cell s.2.2.2.1))<|rn 1 Z ?_
 rcases d:m with _|_
 ·replace a:=iB d a
  refine rn 4 Z ?_
  rcases e:(n== -1)with _|_
  ·replace a:=iG e a
   refine rn 3 Z<|kB a λv j a=>rc _ (cF Bw) (AE N _ 5 _ j)<|rz Z<|b _ _ ?_
   cases a
   exact aR eV1
  replace a:=iE e a
  refine rn 3 Z<|kB a λp f a=>rc _ (cF Bw) (AE N true 5 _ f)<|rz Z<|b _ _ ?_
  cases a
  exact aR eV1
 replace a:=ifp d a
 refine rn 7 Z<|kB a λq g a=>rc _ (cF Bw) (AE N true 5 _ g)<|rz Z<|b _ _ ?_
 cases a
 exact aR eV1
def IC(N:Nat)(_ h:Int)(b:W3)(c:Int)(e:W3)(f:Int)(r:Y0 (Int×Int×Int))(i:Int)(d:Ao):Y1 Int:=(Kp N h b).bind λv=>(Kp N c e).bind λu=>(Qd N u).bind λw=>(Qe N v w).bind λa=>(Ap N (decide ((r.length:Int)>0)) 4).bind λg=>(Gu N h b i).bind λm=>if m=true then(Gu N c e i).bind λt=>(Ap N t 9).bind λo=>(Ap N (a==((0#64)++(0#64))) 14).bind λl=>(GT N d f).bind λk=>(AO N ([g,o,l,k])).bind λj=>some j else(Ap N false 9).bind λq=>(Ap N (a==((0#64)++(0#64))) 14).bind λs=>(GT N d f).bind λn=>(AO N ([g,q,s,n])).bind λp=>some p
theorem Vf(N x n e p f i O j h r)(b:IC N x n e p f i O j h=some r)(ro)(Q:Nat)(u)(ab:Rd Ac9 ro u O)(X:Blk ro Q [u])(R:Nat)(F:Blk ro R [vI j])(S:Nat)(g:AC)(V:Aa2 ro g h)(G:Blk ro S (Hr h g)):Does prog 207 #[vI x,vA #[vI n,U (hi e),U (lo e),vI p,U (hi f),U (lo f),vI i],vP Q 0,vP R 0,vP S 0] ro [] (pV (vI r)):=by
 unfold IC at b
 refine Ak follows func207 Z 42 Z _ fz5 (λal=> ?_)
 refine Ad<|rA Z λb2=>rz Z<|Aa λK3 am=>HS [] (by decide+kernel) (λhn=>AN)<|rm 2 [0] Z<|kB b λr4 an b=>rc _ (cF Xm) (Sn N n e _ an)<|rm 2 [0] Z<|kB b λr6 ao b=>rc _ (cF Xm) (Sn N p f _ ao)<|kB b λr8 ap b=>rc _ (cF px) (fd N r6 _ ap)<|kB b λa ad b=>rc _ (cF py) (fe N r4 r8 _ ad)<|rA Z λH=>ZX [(H,300, #[U (hi a),U (lo a)]),(b2,202, #[vI n,U (hi e),U (lo e),vI p,U (hi f),U (lo f),vI i])] 0 _ _ _ (#[U (0#64),U (0#64)]) (#[U (hi a),U (lo a)]) (#[U (hi a),U (lo a)]) Z Z Z Z Z (.of Z Z) Z Z<|Aj<|am _ _ ?_
 refine Aa λbf W=> ?_
 refine BO [(some 39,false),(some 40,false),(some 41,false)] (conG prog [(39,cV (GT N h i) λt=>vI t),(41,λ_ _ v_ L_ U_=>(∀t,Ap N (decide ((O.length:Int)>0)) 4=some t-> ∀I,Gu N n e j=some I->(if I=true then(1:Nat)else 0)=0-> ∀J,Ap N false 9=some J-> ∀K,Ap N (a==((0#64)++(0#64))) 14=some K-> ∀L,GT N h i=some L-> ∀M,AO N ([t,J,K,L])=some M->(pV (vI M)) v_ L_ U_)/\(∀t,Ap N (decide ((O.length:Int)>0)) 4=some t-> ∀I,Gu N n e j=some I->(if I=true then(1:Nat)else 0)=1-> ∀J,Gu N p f j=some J-> ∀K,Ap N J 9=some K-> ∀L,Ap N (a==((0#64)++(0#64))) 14=some L-> ∀M,GT N h i=some M-> ∀ae,AO N ([t,K,L,M])=some ae->(pV (vI ae)) v_ L_ U_))]) [] (by decide+kernel) (λhn=>AN) ?_
 refine Ii u (vs:=[u]) (o:=0) Z Z (Bg X) Z<|rL (W8 ab) Z<|rn 1 Z<|kB b λP l b=>rc _ (cF Bw) (AE N _ 4 _ l)<|rm 2 [1] Z<|Ii (vI j) (vs:=[vI j]) (o:=0) Z Z (Bg F) Z<|kB b λY m b=>rc _ (cF Xl) (Ph N n e j _ m)<|rn 1 Z ?_
 rcases v:Y with _|_
 ·replace b:=iB v b
  have d:(if Y=true then(1:Nat)else 0)=0:=(V9 (Bool.eq_false_iff.1 v))
  refine rn 5 Z<|kB b λaf y b=>rc _ (cF Bw) (AE N false 9 _ y)<|rl (vA #[U (hi a),U (lo a)]) 0<|r_W (vA #[U (0#64),U (0#64)]) Z (Ar Z Z Z Z)<|r_W (vB (a==((0#64)++(0#64)))) Z (WY Z Z nB (by have h_:=λc=>WZ (c:=c) a ((0#64)++(0#64));simp only [BB] at h_;exact h_ _))<|kB b λag z b=>rc _ (cF Bw) (AE N _ 14 _ z)<|Ii (vA (Ab h g)) (vs:=(Hr h g)) (o:=0) Z Z (Bg G) Z<|rm 2 [1] Z<|kB b λah q b=>rg _ (cF Xt) (λo w z_=>Rv N h i _ q z_.view g (Aa2.mono z_.ro_cell V)) (Hq q) ?_
  refine KP (Ls:=[(Tl H (hi a) (lo a)),(Tm b2 n (hi e) (lo e) p (hi f) (lo f) i)]) 51 Ca [P,af,ag,ah] [vI P,vI af,vI ag,vI ah] [vI 0,vI 0,vI 0,vI 0] Z Z Z Z Z Z Z (by kernel_rfl) (by kernel_rfl) Z Z Z (λaq ar au=> ?_)
  refine kB b λav A b=>rg _ (cF Fo) (λo w z_=>Co N _ _ A z_.view aq ((AB au (Al (Ls:=[(Tl H (hi a) (lo a)),(Tm b2 n (hi e) (lo e) p (hi f) (lo f) i),ar]) (k:=2) Z Z)) o w z_)) (λ_ _ v_ L_ U_=>⟨λh_=>h_.1 _ l _ m d _ y _ z _ q _ A,λh_=>⟨by intro _ e_;cases q3 (e_.symm.trans l);intro _ e_;cases q3 (e_.symm.trans m);intro e_;first|(cases(e_.symm.trans d);done)|(cases(e_.symm.trans d);intro _ e_;cases q3 (e_.symm.trans y);intro _ e_;cases q3 (e_.symm.trans z);intro _ e_;cases q3 (e_.symm.trans q);intro _ e_;cases q3 (e_.symm.trans A);exact h_),by intro _ e_;cases q3 (e_.symm.trans l);intro _ e_;cases q3 (e_.symm.trans m);intro e_;first|(cases(e_.symm.trans d);done)|(cases(e_.symm.trans d);intro _ e_;cases q3 (e_.symm.trans B);intro _ e_;cases q3 (e_.symm.trans C);intro _ e_;cases q3 (e_.symm.trans D);intro _ e_;cases q3 (e_.symm.trans s);intro _ e_;cases q3 (e_.symm.trans E);exact h_)⟩⟩) ?_
  refine rz Z<|W _ _ ?_
  refine CJ [(7,vI av)] Z (λT=> ?_)
  cases b
  exact aR eV1
 replace b:=ifp v b
 have d:(if Y=true then(1:Nat)else 0)=1:=(V8 v)
 refine rn 1 Z<|r_y Z<|rm 1 [1] Z<|r_y Z<|Ii (vI j) (vs:=[vI j]) (o:=0) Z Z (Bg F) Z<|r_y Z<|kB b λaw B b=>rc _ (cF Xl) (Ph N p f j _ B)<|rn 1 Z<|kB b λai C b=>rc _ (cF Bw) (AE N aw 9 _ C)<|rl (vA #[U (hi a),U (lo a)]) 0<|r_W (vA #[U (0#64),U (0#64)]) Z (Ar Z Z Z Z)<|r_W (vB (a==((0#64)++(0#64)))) Z (WY Z Z nB (by have h_:=λc=>WZ (c:=c) a ((0#64)++(0#64));simp only [BB] at h_;exact h_ _))<|kB b λaj D b=>rc _ (cF Bw) (AE N _ 14 _ D)<|Ii (vA (Ab h g)) (vs:=(Hr h g)) (o:=0) Z Z (Bg G) Z<|rm 2 [1] Z<|kB b λak s b=>rg _ (cF Xt) (λo w z_=>Rv N h i _ s z_.view g (Aa2.mono z_.ro_cell V)) (Hq s) ?_
 refine KP (Ls:=[(Tl H (hi a) (lo a)),(Tm b2 n (hi e) (lo e) p (hi f) (lo f) i)]) 51 Ca [P,ai,aj,ak] [vI P,vI ai,vI aj,vI ak] [vI 0,vI 0,vI 0,vI 0] Z Z Z Z Z Z Z (by kernel_rfl) (by kernel_rfl) Z Z Z (λax ay az=> ?_)
 refine kB b λba E b=>rg _ (cF Fo) (λo w z_=>Co N _ _ E z_.view ax ((AB az (Al (Ls:=[(Tl H (hi a) (lo a)),(Tm b2 n (hi e) (lo e) p (hi f) (lo f) i),ay]) (k:=2) Z Z)) o w z_)) (λ_ _ v_ L_ U_=>⟨λh_=>h_.2 _ l _ m d _ B _ C _ D _ s _ E,λh_=>⟨by intro _ e_;cases q3 (e_.symm.trans l);intro _ e_;cases q3 (e_.symm.trans m);intro e_;first|(cases(e_.symm.trans d);done)|(cases(e_.symm.trans d);intro _ e_;cases q3 (e_.symm.trans y);intro _ e_;cases q3 (e_.symm.trans z);intro _ e_;cases q3 (e_.symm.trans q);intro _ e_;cases q3 (e_.symm.trans A);exact h_),by intro _ e_;cases q3 (e_.symm.trans l);intro _ e_;cases q3 (e_.symm.trans m);intro e_;first|(cases(e_.symm.trans d);done)|(cases(e_.symm.trans d);intro _ e_;cases q3 (e_.symm.trans B);intro _ e_;cases q3 (e_.symm.trans C);intro _ e_;cases q3 (e_.symm.trans D);intro _ e_;cases q3 (e_.symm.trans s);intro _ e_;cases q3 (e_.symm.trans E);exact h_)⟩⟩) ?_
 refine rz Z<|W _ _ ?_
 refine CJ [(7,vI ba)] Z (λT=> ?_)
 cases b
 exact aR eV1
def JZ(N:Nat)(b:Y0 (Int×W3×Int×W3×Int))(d:Y0 (Int×Int×Int))(e:Int)(c:Ao):Nat->Int->Y1 (Int×Int)
  |0,_=>none
  |g+1,a=>if a<(b.length:Int)then ck (0<=a/\a<(b.length:Int)) ((IC N a ((b[a.toNat]!).1) ((b[a.toNat]!).2.1) ((b[a.toNat]!).2.2.1) ((b[a.toNat]!).2.2.2.1) ((b[a.toNat]!).2.2.2.2) d e c).bind λf=>if(f:Int)≠0 then some (a,f)else ck (R64 (a+1)) ((JZ N b d e c g) (a+1)))else some (0,0)
def Mw(N:Nat)(e:Y0 (Int×W3×Int×W3×Int))(d:Int)(b:Y0 (Int×Int×Int))(c:Int)(a:Ao):Y1 (Int×Int):=if(e.length:Int)>d then some (0,2)else JZ N e b c a N 0
theorem aQ(N H v f g e r)(d:Mw N H v f g e=some r)(y z)(s:Rd Af1 y z H)(a:Nat)(h)(p:Rd Ac9 y h f)(j:Blk y a [h])(b:Nat)(k:Blk y b [vI g])(c:Nat)(i:AC)(q:Aa2 y i e)(m:Blk y c (Hr e i)):Does prog 145 #[z,vI v,vF 207 #[] #[vP a 0,vP b 0,vP c 0]] y [] (pV (vT #[vI r.1,vI r.2])):=by
 unfold Mw at d
 refine Ak follows func145 Z 31 Z _ fz3 (λG=> ?_)
 refine AZ Z<|Aa λQ I=>Ad<|rn 1 Z<|rL (W8 s) Z<|rz Z<|aD d Z (λJ d=> ?_) (λJ d=> ?_)
 ·refine AZ Z ?_
  cases d
  exact aR eV2
 refine Ac<|I _ _ ?_
 refine Aa λR K=>Ad<|rn 1 Z<|rL (W8 s) Z<|rz Z<|Ai<|AL (λtt ll nn=> ∃(x:Nat) (n:Int),(JZ N H f g e x n=some r)/\Is [(2,vF 207 #[] #[vP a 0,vP b 0,vP c 0]),(15,z),(16,vI (H.length:Int)),(17,vI n)] [] tt ll/\nn=x+1) (N+1) ?_ ?_
 ·exact⟨N,0,d,Ag Z Z,Z⟩
 clear d;rintro t l _ ⟨x,n,d,⟨⟨T,rfl⟩,rfl⟩,rfl⟩
 rcases x with _|x
 ·exact absurd d (by simp [JZ])
 rw [JZ] at d
 refine AZ Z<|Aa λL A=>aD d Z (λB d=> ?_) (λB d=> ?_)
 ·refine Ac<|A _ _ ?_
  refine Aa λM C=>Ai<|Ad<|rn 1 Z<|kC d λu d=>rI (W8 s) u Z<|rE (Ay s) u 0 Z<|rA Z λO=>ry [0] Z<|Ad ?_
  refine rm 3 [0] Z<|kB d λP D d=>gV _ (Cc (caps:=[vP a 0,vP b 0,vP c 0]) Z pz Z) (λo w z_=>Vf N n _ _ _ _ _ f g e _ D z_.view a h (z_.r p) (Bg j o w z_) b (Bg k o w z_) c i (Aa2.mono z_.ro_cell q) (Bg m o w z_))<|rz Z<|AZ Z ?_
  refine aN d Z (λE d=> ?_) (λE d=> ?_)
  ·refine AZ Z ?_
   cases d
   exact aR eV2
  refine Ac<|C _ _ ?_
  refine Ah<|kC d λF d=>rX F Z<|rz Z<|fg _ (Sub.of (suC _ suN)) ?_
  exact⟨x+1,by omega,x,(n+1),d,Ag Z Z,Z⟩
 refine AM<|K _ _ ?_
 refine AZ Z ?_
 cases d
 exact aR eV2
def Gp(_:Nat)(n a b:Int):Y1 Y3:=if n>=a then some (decide (n<=b))else some false
theorem PR(N n a b r)(c:Gp N n a b=some r):Gives prog 214 #[vI n,vI a,vI b] (vB r):=by
 unfold Gp at c
 refine Au follows func214 Z 15 Z _ fz3 (λf=> ?_)
 refine AZ Z<|Aa λg d=>Ah<|rn 4 Z ?_
 rcases e:(decide (n>=a))with _|_
 ·replace c:=iF e c
  refine rz Z<|d _ _ ?_
  cases c
  exact aR eE1
 replace c:=iD e c
 refine rz Z<|d _ _ ?_
 cases c
 exact aR eE1
def GU(N:Nat)(e:Int×Y3)(a:Y3):Y1 Int:=(Ap N e.2 5).bind λd=>(Ap N a 7).bind λb=>(AO N ([d,b])).bind λc=>some c
def Im(N:Nat)(c:Ao)(b e a:Int):Y1 Int:=(HZ N c b e a).bind λd=>if b=1 then GU N d (a==0)else if b=2 then(AG N e 0 1024).bind λg=>if g=true then(AG N a 1 64).bind λf=>GU N d f else GU N d false else GU N d true
theorem WK(N c g f e r)(a:Im N c g f e=some r)(E)(D:AC)(H:Aa2 E D c):DoesI prog 215 #[vA (Ab c D),vA #[vI g,vI f,vI e]] Gt E [] (pV (vI r)):=by
 unfold Im at a
 refine Bq follows func215 Z 38 Z _ fz2 Bm (λs=> ?_)
 refine Ad<|rA Z λI=>rA Z λJ=>rz Z<|Ad<|rm 3 [1,0] Z<|kB a λu v a=>gV _ (cF dY) (λo w z_=>PS N c g f e _ v z_.view D (Aa2.mono z_.ro_cell H))<|rz Z<|AZ Z<|Cs (λtt ll=> ∃(b:Y3),(GU N u b=some r)/\Is [(6,vB u.2),(7,vB b)] [] tt ll) ?_ ?_
 ·refine AY [0] Z<|Ai<|AZ Z<|aE a Z (λh a=> ?_) (λh a=> ?_)
  ·refine Ah<|ry [0] Z<|fg _ (Sub.of (suC _ (suC _ suN))) ?_
   exact⟨(e==0),a,Ag Z Z⟩
  refine AZ Z<|aE a Z (λi a=> ?_) (λi a=> ?_)
  ·refine Ah<|rm 2 [0] Z<|kB a λx j a=>rc _ (cF FK) (Ba N f 0 1024 _ j)<|rn 1 Z ?_
   rcases d:x with _|_
   ·replace a:=iB d a
    refine rz Z<|fg _ (Sub.of (suC _ (suC _ suN))) ?_
    exact⟨false,a,Ag (by first|rfl|(simp only [d];done)|(simp only [d];rfl)|(simp only [BB];rfl)) Z⟩
   replace a:=ifp d a
   refine rn 1 Z<|r_y Z<|rm 1 [0] Z<|r_y Z<|kB a λy m a=>rc _ (cF FK) (Ba N e 1 64 _ m)<|rz Z<|fg _ (Sub.of (suC _ (suC _ suN))) ?_
   exact⟨y,a,Ag (by first|rfl|(simp only [d];done)|(simp only [d];rfl)|(simp only [BB];rfl)) Z⟩
  refine Ac<|fg _ (Sub.of (suC _ (suC _ suN))) ?_
  exact⟨true,a,Ag Z Z⟩
 clear a;rintro t l ⟨b,a,⟨T,rfl⟩,rfl⟩
 unfold GU at a
 refine Ad<|rn 1 Z<|kB a λF n a=>rc _ (cF Bw) (AE N u.2 5 _ n)<|rn 1 Z<|kB a λz p a=>rc _ (cF Bw) (AE N _ 7 _ p)<|gB (Ls:=[]) 51 Ca [F,z] (λA B C=> ?_)
 refine kB a λG q a=>gV _ (cF Fo) (λo w z_=>(V3 (Co N _ _ q z_.view A ((AB C (Al (Ls:=[B]) (k:=0) Z Z)) o w z_)) _))<|rz Z ?_
 cases a
 exact aR eV1
def Lg(N:Nat)(_ a d e b:Int)(f:Ao):Y1 Int:=ck (R64 (b - 1)) ((Gp N a 0 (b - 1)).bind λh=>(Ap N h 10).bind λi=>(Im N f a d e).bind λg=>(AO N ([i,g])).bind λc=>some c)
theorem aY(N x a d e h b r)(g:Lg N x a d e h b=some r)(A)(l:Nat)(n:Blk A l [vI h])(m:Nat)(c:AC)(t:Aa2 A c b)(p:Blk A m (Hr b c)):DoesI prog 213 #[vI x,vA #[vI a,vI d,vI e],vP l 0,vP m 0] Gt A [] (pV (vI r)):=by
 unfold Lg at g
 refine Bq follows func213 Z 18 Z _ fz4 Bm (λz=> ?_)
 refine Ad<|rA Z λG=>rz Z<|Aa λL B=>BO [(some 15,false),(some 16,false),(some 17,false)] (conG prog [(15,cV (Im N b a d e) λj=>vI j),(17,λ_ _ v_ L_ U_=> ∀j,Gp N a 0 (h - 1)=some j-> ∀u,Ap N j 10=some u-> ∀v,Im N b a d e=some v-> ∀y,AO N ([u,v])=some y->(pV (vI y)) v_ L_ U_)]) [] (by decide+kernel) (λM=>AN)<|rm 2 [0] Z ?_
 refine Ii (vI h) (vs:=[vI h]) (o:=0) Z Z (Bg n) Z<|kC g λC g=>rX C Z<|kB g λJ q g=>rc _ (cF pr) (PR N a 0 _ _ q)<|kB g λH s g=>rc _ (cF Bw) (AE N J 10 _ s)<|Ii (vA (Ab b c)) (vs:=(Hr b c)) (o:=0) Z Z (Bg p) Z<|rm 1 [0] Z<|kB g λI f g=>rg _ (cF pp) (λo w z_=>WK N b a d e _ f z_.view c (Aa2.mono z_.ro_cell t)) (Hq f) ?_
 refine KP (Ls:=[(cP G a d e)]) 51 Ca [H,I] [vI H,vI I] [vI 0,vI 0] Z Z Z Z Z Z Z (by kernel_rfl) (by kernel_rfl) Z Z Z (λD E F=> ?_)
 refine kB g λK i g=>rg _ (cF Fo) (λo w z_=>(V3 (Co N _ _ i z_.view D ((AB F (Al (Ls:=[(cP G a d e),E]) (k:=1) Z Z)) o w z_)) _)) (λ_ _ v_ L_ U_=>⟨λh_=>h_ _ q _ s _ f _ i,λh_=>by intro _ e_;cases q3 (e_.symm.trans q);intro _ e_;cases q3 (e_.symm.trans s);intro _ e_;cases q3 (e_.symm.trans f);intro _ e_;cases q3 (e_.symm.trans i);exact h_⟩) ?_
 refine rz Z<|B _ _ ?_
 cases g
 exact aR eV1
def La(N:Nat)(d:Y0 (Int×Int×Int))(b:Int)(c:Ao):Nat->Int->Y1 (Int×Int)
  |0,_=>none
  |f+1,a=>if a<(d.length:Int)then ck (0<=a/\a<(d.length:Int)) ((Lg N a ((d[a.toNat]!).1) ((d[a.toNat]!).2.1) ((d[a.toNat]!).2.2) b c).bind λe=>if(e:Int)≠0 then some (a,e)else ck (R64 (a+1)) ((La N d b c f) (a+1)))else some (0,0)
def OY(N:Nat)(d:Y0 (Int×Int×Int))(c a:Int)(b:Ao):Y1 (Int×Int):=if(d.length:Int)>c then some (0,2)else La N d a b N 0
theorem di(N C n e d r)(c:OY N C n e d=some r)(A q)(k:Rd Ac9 A q C)(a:Nat)(g:Blk A a [vI e])(b:Nat)(f:AC)(j:Aa2 A f d)(h:Blk A b (Hr d f)):DoesI prog 212 #[q,vI n,vF 213 #[] #[vP a 0,vP b 0]] Gt A [] (pV (vT #[vI r.1,vI r.2])):=by
 unfold OY at c
 refine Bq follows func212 Z 31 Z _ fz3 Bm (λB=> ?_)
 refine AZ Z<|Aa λK D=>Ad<|rn 1 Z<|rL (W8 k) Z<|rz Z<|aD c Z (λE c=> ?_) (λE c=> ?_)
 ·refine AZ Z ?_
  cases c
  exact aR eV2
 refine Ac<|D _ _ ?_
 refine Aa λL F=>Ad<|rn 1 Z<|rL (W8 k) Z<|rz Z<|Ai<|AL (λtt ll nn=> ∃(p:Nat) (i:Int),(La N C e d p i=some r)/\Is [(2,vF 213 #[] #[vP a 0,vP b 0]),(15,q),(16,vI (C.length:Int)),(17,vI i)] [] tt ll/\nn=p+1) (N+1) ?_ ?_
 ·exact⟨N,0,c,Ag Z Z,Z⟩
 clear c;rintro t l _ ⟨p,i,c,⟨⟨T,rfl⟩,rfl⟩,rfl⟩
 rcases p with _|p
 ·exact absurd c (by simp [La])
 rw [La] at c
 refine AZ Z<|Aa λG s=>aD c Z (λu c=> ?_) (λu c=> ?_)
 ·refine Ac<|s _ _ ?_
  refine Aa λH v=>Ai<|Ad<|rn 1 Z<|kC c λm c=>rI (W8 k) m Z<|rE (Ay k) m 0 Z<|rA Z λI=>ry [0] Z<|Ad<|rm 3 [0] Z<|kB c λJ x c=>gV _ (Cc (caps:=[vP a 0,vP b 0]) Z pu Z) (λo w z_=>aY N i _ _ _ e d _ x z_.view a (Bg g o w z_) b f (Aa2.mono z_.ro_cell j) (Bg h o w z_))<|rz Z<|AZ Z<|aN c Z (λy c=> ?_) (λy c=> ?_)
  ·refine AZ Z ?_
   cases c
   exact aR eV2
  refine Ac<|v _ _ ?_
  refine Ah<|kC c λz c=>rX z Z<|rz Z<|fg _ (Sub.of (suC _ suN)) ?_
  exact⟨p+1,by omega,p,(i+1),c,Ag Z Z,Z⟩
 refine AM<|F _ _ ?_
 refine AZ Z ?_
 cases c
 exact aR eV2
def IU(N:Nat)(c:Ao)(b:Y0 (Int×Int×Int))(a:Int):Y1 Int:=(OY N b 4 a c).bind λg=>(Oj N c b).bind λf=>(Ap N f.2 9).bind λd=>(AO N ([g.2,d])).bind λe=>some e
theorem WJ(N c m a r)(b:IU N c m a=some r)(x)(e:AC)(y:Aa2 x e c)(d)(h:Rd Ac9 x d m):DoesI prog 147 #[vA (Ab c e),d,vI a] Gt x [] (pV (vI r)):=by
 unfold IU at b
 refine Bq follows func147 Z 29 Z _ fz3 Bm (λi=> ?_)
 refine Ad<|rA Z λj=>rA Z λl=>rz Z<|Ad<|rn 1 Z<|r_W (vF 213 #[] #[vP l 0,vP j 0]) Z (Jt Z)<|kB b λz n b=>gV _ (cF pw) (λo w z_=>di N m 4 a c _ n z_.view d ((Ay h) o w z_) l (Da 0 Z Z o w z_) j e (Aa2.mono z_.ro_cell y) (Da 1 Z Z o w z_))<|rz Z<|Ad<|rm 3 [1] Z<|kB b λA p b=>gV _ (cF ed) (λo w z_=>Ww N c m _ p z_.view e (Aa2.mono z_.ro_cell y) d ((Ay h) o w z_))<|rz Z<|Ad<|rn 2 Z<|kB b λq f b=>rc _ (cF Bw) (AE N A.2 9 _ f)<|gB (Ls:=[(cQ l a),[(j,75,(Ab c e))]]) 51 Ca [z.2,q] (λs t u=> ?_)
 refine kB b λv g b=>gV _ (cF Fo) (λo w z_=>(V3 (Co N _ _ g z_.view s ((AB u (Al (Ls:=[(cQ l a),[(j,75,(Ab c e))],t]) (k:=2) Z Z)) o w z_)) _))<|rz Z<|CJ [(6,vI v)] Z (λT=> ?_)
 cases b
 exact aR eV1
def JH(N:Nat)(c:Ao)(_:W2)(h:Y0 (Int×Int))(a:Y0 (Int×Int×Int))(d:Y0 (Int×W3×Int×W3×Int))(b:Int):Y1 Int:=(OZ N h 4 c).bind λk=>(IX N c a).bind λj=>(Mw N d 8 a j c).bind λi=>(IU N c a 3).bind λe=>(GT N c b).bind λg=>(AO N ([k.2,e,i.2,g])).bind λf=>some f
theorem aT(N c h E j C f r)(l:JH N c h E j C f=some r)(K)(g:AC)(L:Aa2 K g c)(d)(M:Rd Af0 K d E)(a)(z:Rd Ac9 K a j)(b)(O:Rd Af1 K b C):DoesI prog 82 #[vA (Ab c g),vA #[vS h,d,a,b,vI f]] Gt K [] (pV (vI r)):=by
 unfold JH at l
 refine Bq follows func82 Z 39 Z _ fz2 Bm (λP=> ?_)
 refine Ad<|rA Z λA=>rA Z λs=>rz Z<|Ad<|rm 3 [0,1] Z<|r_W (vF 144 #[vA (Ab c g)] #[]) Z (JL Z Z)<|kB l λQ S l=>gV _ (cF qt) (λo w z_=>(V3 (dj N E 4 c _ S z_.view d (z_.r M) g (Aa2.mono z_.ro_cell L)) _))<|rz Z<|Aa λK7 U=> ?_
 refine VA (Ls:=[(LD s h d a b f),[(A,75,(Ab c g))]]) [(some 23,true),(some 24,false),(some 1000000024,true)] [(23,λ_ _ v_ L_ U_=>(pH ((V2 ([]:Y0 (Y0 Bl))).map (·.1)) (λv_ L_ U_=> ∀e,IX N c j=some e->(pO (V2 []) (oB 69 #[a] λb_0=>(oB 3 #[vI e] λb_1=>(oB 75 (Ab c g) λb_2=>(oE (vF 207 #[] #[vP b_0 0,vP b_1 0,vP b_2 0]) []))))) v_ L_ U_) v_ L_ U_)),(24,λ_ _ v_ L_ U_=> ∀e,IX N c j=some e-> ∀p,Mw N C 8 j e c=some p->(pV (vT #[vI p.1,vI p.2])) v_ L_ U_)] [] [0,1] [] (by decide+kernel) (λhn=>AN) (by decide+kernel) Z (⟨.inr (λ_ _ _ _ _ h_=>lT (cq (Ls:=[(LD s h d a b f),[(A,75,(Ab c g))]]) (is:=[]) (js:=[]) Z) h_),⟨.inl Z,trivial⟩⟩) (λhnb_=> ?_)
 refine rn 1 Z<|cg b 0 _ _ _ _ Z Z Z Z Z (hnb_ s (List.mem_of_getElem? (i:=0) Z))<|cg (vA (Ab c g)) 1 _ _ _ _ Z Z Z Z Z (hnb_ A (List.mem_of_getElem? (i:=1) Z))<|rn 1 Z<|cg a 0 _ _ _ _ Z Z Z Z Z (hnb_ s (List.mem_of_getElem? (i:=0) Z))<|kB l λF B l=>ci (Ls:=[(LD s h d a b f),[(A,75,(Ab c g))]]) (FL:=[]) [] _ (some 23) 146 _ Z Z Z Z Z (cF qq) (λo w hn_ z_=>YI N c j _ B _ g (Aa2.mono (Fw (Ls:=[(LD s h d a b f),[(A,75,(Ab c g))]]) (is:=[]) Z z_) L) a (V0 (Fw (Ls:=[(LD s h d a b f),[(A,75,(Ab c g))]]) (is:=[]) Z z_) z)) (λa_ c_ v_ L_ U_=>lS (q:=λv_ L_ U_=> ∀e,IX N c j=some e->(pO (V2 []) (oB 69 #[a] λb_0=>(oB 3 #[vI e] λb_1=>(oB 75 (Ab c g) λb_2=>(oE (vF 207 #[] #[vP b_0 0,vP b_1 0,vP b_2 0]) []))))) v_ L_ U_) ((Hq B) a_ c_ v_ L_ U_)) (λ_=>(Ac2.sub (R:=[]) (Td λb_0=>(Td λb_1=>(Td λb_2=>(Oe Z)))) (W5 [] [] Z))) ?_
 rintro _ _ ⟨t,_,⟨u,_,⟨v,_,⟨rfl,rfl⟩,rfl⟩,rfl⟩,rfl⟩
 refine AK (Ls:=[(LD s h d a b f),[(A,75,(Ab c g))],(RN t a),(Ug u F),[(v,75,(Ab c g))]]) (Ls':=[(LD s h d a b f),[(A,75,(Ab c g))],(RN t a),(Ug u F),[(v,75,(Ab c g))]]) [0,1,2,3,4] Z Z<|kB l λD x l=>rg _ (cF qr) (λo w z_=>(V3 (aQ N C 8 j F c _ x z_.view b (z_.r O) t a (z_.r z) (Da 2 Z Z o w z_) u (Da 3 Z Z o w z_) v g (Aa2.mono z_.ro_cell L) (Da 4 Z Z o w z_)) _)) (λ_ _ v_ L_ U_=>⟨λh_=>h_ _ B _ x,λh_=>by intro _ e_;cases q3 (e_.symm.trans B);intro _ e_;cases q3 (e_.symm.trans x);exact h_⟩) ?_
 refine rz Z<|U _ _ ?_
 refine Aa λab G=>BO [(some 31,false),(some 36,false),(some 37,false),(some 38,false)] (conG prog [(31,cV (IU N c j 3) λe=>vI e),(36,cV (GT N c f) λe=>vI e),(38,λ_ _ v_ L_ U_=> ∀e,IU N c j 3=some e-> ∀p,GT N c f=some p-> ∀H,AO N ([Q.2,e,D.2,p])=some H->(pV (vI H)) v_ L_ U_)]) [] (by decide+kernel) (λhn=>AN)<|rm 2 [1] Z ?_
 refine rm 2 [0] Z<|kB l λI m l=>rg _ (cF eC) (λo w z_=>WJ N c j 3 _ m z_.view g (Aa2.mono z_.ro_cell L) a (z_.r z)) (Hq m)<|rm 4 [1,0] Z<|kB l λJ n l=>rg _ (cF Xt) (λo w z_=>(V3 (Rv N c f _ n z_.view g (Aa2.mono z_.ro_cell L)) _)) (Hq n) ?_
 refine KP (Ls:=[(LD s h d a b f),[(A,75,(Ab c g))],(RN t a),(Ug u F),[(v,75,(Ab c g))]]) 51 Ca [Q.2,I,D.2,J] [vI Q.2,vI I,vI D.2,vI J] [vI 0,vI 0,vI 0,vI 0] Z Z Z Z Z Z Z (by kernel_rfl) (by kernel_rfl) Z Z Z (λV W X=> ?_)
 refine kB l λY y l=>rg _ (cF Fo) (λo w z_=>(V3 (Co N _ _ y z_.view V ((AB X (Al (Ls:=[(LD s h d a b f),[(A,75,(Ab c g))],(RN t a),(Ug u F),[(v,75,(Ab c g))],W]) (k:=5) Z Z)) o w z_)) _)) (λ_ _ v_ L_ U_=>⟨λh_=>h_ _ m _ n _ y,λh_=>by intro _ e_;cases q3 (e_.symm.trans m);intro _ e_;cases q3 (e_.symm.trans n);intro _ e_;cases q3 (e_.symm.trans y);exact h_⟩) ?_
 refine rz Z<|G _ _ ?_
 refine CJ [(4,vI Y)] Z (λT=> ?_)
 cases l
 exact aR eV1
def LG(N:Nat)(i:Int)(f:W2)(e:Y0 (Int×Int))(j:Y0 (Int×Int×Int))(g:Y0 (Int×W3×Int×W3×Int))(c:Int)(b:Y0 (W2))(a:Ao):Y1 Int:=ck (0<=i/\i<(b.length:Int)) ((Fl N (b[i.toNat]!)).bind λl=>(Ap N l 4).bind λm=>(Bk N b i).bind λk=>(JH N a f e j g c).bind λd=>(AO N ([m,k,d])).bind λh=>some h)
theorem US(N i g v x y h p a r)(l:LG N i g v x y h p a=some r)(B d)(L:Rd Af0 B d v)(e)(M:Rd Ac9 B e x)(f)(O:Rd Af1 B f y)(z:Nat)(c)(s:Rd Aa4 B c p)(t:Blk B z [c])(A:Nat)(b:AC)(j:Aa2 B b a)(C:Blk B A [vF 82 #[vA (Ab a b)] #[]]):DoesI prog 142 #[vI i,vA #[vS g,d,e,f,vI h],vP z 0,vP A 0] Gt B [] (pV (vI r)):=by
 unfold LG at l
 refine Bq follows func142 Z 21 Z _ fz4 Bm (λP=> ?_)
 refine Ad<|rA Z λU=>rz Z<|Aa λK3 Q=> ?_
 refine BO [(some 15,false),(some 18,false),(some 19,false),(some 20,false)] (conG prog [(15,cV (Bk N p i) λq=>vI q),(18,cV (JH N a g v x y h) λq=>vI q),(20,λ_ _ v_ L_ U_=> ∀q,Fl N (p[i.toNat]!)=some q-> ∀F,Ap N q 4=some F-> ∀G,Bk N p i=some G-> ∀H,JH N a g v x y h=some H-> ∀I,AO N ([F,G,H])=some I->(pV (vI I)) v_ L_ U_)]) [] (by decide+kernel) (λhn=>AN) ?_
 refine Ii c (vs:=[c]) (o:=0) Z Z (Bg t) Z<|rn 1 Z<|kC l λJ l=>rI (W8 s) J Z<|rE (Ay s) J 0 Z<|kB l λX D l=>rc _ (cF Oy) (MH N _ _ D)<|kB l λV E l=>rc _ (cF Bw) (AE N X 4 _ E)<|Ii c (vs:=[c]) (o:=0) Z Z (Bg t) Z<|rn 1 Z<|kB l λW m l=>rg _ (cF Pc) (λo w z_=>(V3 (IL N p i _ m z_.view c (z_.r s)) _)) (Hq m)<|Ii (vF 82 #[vA (Ab a b)] #[]) (vs:=[vF 82 #[vA (Ab a b)] #[]]) (o:=0) Z Z (Bg C) Z<|rm 1 [0] Z<|kB l λK n l=>rg _ (RB (bd:=[vA (Ab a b)]) (caps:=[]) Z tI Z) (λo w z_=>aT N _ g v x y h _ n z_.view b (Aa2.mono z_.ro_cell j) d (z_.r L) e (z_.r M) f (z_.r O)) (Hq n) ?_
 refine KP (Ls:=[(LD U g d e f h)]) 51 Ca [V,W,K] [vI V,vI W,vI K] [vI 0,vI 0,vI 0] Z Z Z Z Z Z Z (by kernel_rfl) (by kernel_rfl) Z Z Z (λR S T=> ?_)
 refine kB l λY u l=>rg _ (cF Fo) (λo w z_=>(V3 (Co N _ _ u z_.view R ((AB T (Al (Ls:=[(LD U g d e f h),S]) (k:=1) Z Z)) o w z_)) _)) (λ_ _ v_ L_ U_=>⟨λh_=>h_ _ D _ E _ m _ n _ u,λh_=>by intro _ e_;cases q3 (e_.symm.trans D);intro _ e_;cases q3 (e_.symm.trans E);intro _ e_;cases q3 (e_.symm.trans m);intro _ e_;cases q3 (e_.symm.trans n);intro _ e_;cases q3 (e_.symm.trans u);exact h_⟩) ?_
 refine rz Z<|Q _ _ ?_
 cases l
 exact aR eV1
def Jn(N:Nat)(c:Y0 ((W2)×(Y0 (Int×Int))×(Y0 (Int×Int×Int))×(Y0 (Int×W3×Int×W3×Int))×Int))(d:Y0 (W2))(b:Ao):Nat->Int->Y1 (Int×Int)
  |0,_=>none
  |f+1,a=>if a<(c.length:Int)then ck (0<=a/\a<(c.length:Int)) ((LG N a (c[a.toNat]!.1) (c[a.toNat]!.2.1) (c[a.toNat]!.2.2.1) (c[a.toNat]!.2.2.2.1) (c[a.toNat]!.2.2.2.2) d b).bind λe=>if(e:Int)≠0 then some (a,e)else ck (R64 (a+1)) ((Jn N c d b f) (a+1)))else some (0,0)
def MZ(N:Nat)(d:Y0 ((W2)×(Y0 (Int×Int))×(Y0 (Int×Int×Int))×(Y0 (Int×W3×Int×W3×Int))×Int))(c:Int)(b:Y0 (W2))(a:Ao):Y1 (Int×Int):=if(d.length:Int)>c then some (0,2)else Jn N d b a N 0
theorem Yy(N j A g a r)(f:MZ N j A g a=some r)(D C)(u:RdN Ad8 D C j)(c:Nat)(h)(s:Rd Aa4 D h g)(k:Blk D c [h])(d:Nat)(b:AC)(i:Aa2 D b a)(m:Blk D d [vF 82 #[vA (Ab a b)] #[]]):DoesI prog 141 #[C,vI A,vF 142 #[] #[vP c 0,vP d 0]] Gt D [] (pV (vT #[vI r.1,vI r.2])):=by
 unfold MZ at f
 refine Bq follows func141 Z 31 Z _ fz3 Bm (λL=> ?_)
 refine AZ Z<|Aa λV M=>Ad<|rn 1 Z<|rL (W9 u) Z<|rz Z<|aD f Z (λO f=> ?_) (λO f=> ?_)
 ·refine AZ Z ?_
  cases f
  exact aR eV2
 refine Ac<|M _ _ ?_
 refine Aa λW P=>Ad<|rn 1 Z<|rL (W9 u) Z<|rz Z<|Ai<|AL (λtt ll nn=> ∃(B:Nat) (e:Int),(Jn N j g a B e=some r)/\Is [(2,vF 142 #[] #[vP c 0,vP d 0]),(15,C),(16,vI (j.length:Int)),(17,vI e)] [] tt ll/\nn=B+1) (N+1) ?_ ?_
 ·exact⟨N,0,f,Ag Z Z,Z⟩
 clear f;rintro t l _ ⟨B,e,f,⟨⟨T,rfl⟩,rfl⟩,rfl⟩
 rcases B with _|B
 ·exact absurd f (by simp [Jn])
 rw [Jn] at f
 refine AZ Z<|Aa λR F=>aD f Z (λG f=> ?_) (λG f=> ?_)
 ·refine Ac<|F _ _ ?_
  refine Aa λS H=>Ai<|Ad<|rn 1 Z<|kC f λv f=> ?_
  obtain⟨_,⟨n,p,q,x,y,z,rfl⟩,hat21⟩:=RdN.at (E:=Ad8) u (Cp v)
  refine rI (W9 u) v Z<|Mk (vA #[vS (j[e.toNat]!.1),n,p,q,vI (j[e.toNat]!.2.2.2.2)]) (vs:=[vS (j[e.toNat]!.1),n,p,q,vI (j[e.toNat]!.2.2.2.2)]) (e.toNat*5) 0 Z Z (λo w z_=>At.mono z_.ro_cell hat21) Z<|rA Z λQ=>rn 1 Z<|r_s (LD Q (j[e.toNat]!.1) n p q (j[e.toNat]!.2.2.2.2)) 0 _ _ _ _ _ (#[vS (j[e.toNat]!.1),n,p,q,vI (j[e.toNat]!.2.2.2.2)]) Z Z Z Z (.ofS Z Z (Ae Z (sR x (sR y (sR z (Ae Z AD)))))) Z Z<|Aj<|Ad<|rm 3 [0] Z<|kB f λU I f=>gV _ (Cc (caps:=[vP c 0,vP d 0]) Z qu Z) (λo w z_=>US N e _ _ _ _ _ g _ _ I z_.view n (z_.r x) p (z_.r y) q (z_.r z) c h (z_.r s) (Bg k o w z_) d b (Aa2.mono z_.ro_cell i) (Bg m o w z_))<|rz Z<|Ad ?_
  refine rz Z<|aN f Z (λJ f=> ?_) (λJ f=> ?_)
  ·refine AZ Z ?_
   cases f
   exact aR eV2
  refine Ac<|H _ _ ?_
  refine Ah<|kC f λK f=>rX K Z<|rz Z<|fg _ (Sub.of (suC _ suN)) ?_
  exact⟨B+1,by omega,B,(e+1),f,Ag Z Z,Z⟩
 refine AM<|P _ _ ?_
 refine AZ Z ?_
 cases f
 exact aR eV2
def Pj(N:Nat)(d:Y0 ((W2)×(Y0 (Int×Int))×(Y0 (Int×Int×Int))×(Y0 (Int×W3×Int×W3×Int))×Int))(c:Int)(a:Ao):Y1 (Int×Int):=(Po N d).bind λe=>(MZ N d c e a).bind λb=>some (b.1,b.2)
theorem Yp(N n c b r)(f:Pj N n c b=some r)(s e)(i:RdN Ad8 s e n)(a:AC)(d:Aa2 s a b):DoesI prog 80 #[e,vI c,vF 81 #[] #[],vF 82 #[vA (Ab b a)] #[]] Gt s [] (pV (vT #[vI r.1,vI r.2])):=by
 unfold Pj at f
 refine Bq follows func80 Z 20 Z _ fz4 Bm (λj=> ?_)
 refine Ad<|rA Z λg=>rz Z<|Ad<|rn 2 Z<|kB f λu p f=>gS (Ls:=[(Ws g (vF 82 #[vA (Ab b a)] #[]))]) (cF qw) (λo w z_=>(V3 (Yu N n _ p z_.view e (V1 z_.ro_cell i)) _)) (λl t q=> ?_)
 refine rA Z λm=>r_s (V2 [(cR m l),(Ws g (vF 82 #[vA (Ab b a)] #[])),t]) 0 _ _ _ _ _ (#[l]) Z Z Z (CR Z (W7 q)) (.ofS Z Z (sS q AD)) Z Z<|Aj<|Ad<|rn 2 Z<|r_W (vF 142 #[] #[vP m 0,vP g 0]) Z (Jt Z)<|kB f λv h f=>gV _ (cF qv) (λo w z_=>Yy N n c u b _ h z_.view e (V1 z_.ro_cell i) m l ((AB q (Al (Ls:=[(cR m l),(Ws g (vF 82 #[vA (Ab b a)] #[])),t]) (k:=2) Z Z)) o w z_) (Da 0 Z Z o w z_) g a (Aa2.mono z_.ro_cell d) (Da 1 Z Z o w z_))<|rz Z ?_
 cases f
 exact aR eV2
def IT(N:Nat)(c:Ao):Y1 (Int×Int):=if(c.2.2.2.2.1.length:Int)=0 then some (0,5)else(Pj N c.2.2.2.2.1 16 c).bind λa=>some (a.1,a.2)
theorem YD(N c r)(a:IT N c=some r)(i)(b:AC)(h:Aa2 i b c):DoesI prog 34 #[vA (Ab c b)] Gt i [] (pV (vT #[vI r.1,vI r.2])):=by
 unfold IT at a
 refine Bq follows func34 Z 17 Z _ fz1 Bm (λd=> ?_)
 refine Ad<|rA Z λj=>rz Z<|Aa λk e=>Ad<|rm 3 [0] Z<|rL (W9 h.2.2.2.1) Z<|rz Z<|aE a Z (λf a=> ?_) (λf a=> ?_)
 ·refine AZ Z ?_
  cases a
  exact aR eV2
 refine Ac<|e _ _ ?_
 refine Ad<|rm 4 [0,0] Z<|r_W (vF 82 #[vA (Ab c b)] #[]) Z (JL Z Z)<|kB a λl g a=>gV _ (cF tK) (λo w z_=>Yp N _ 16 c _ g z_.view b.2.2.2.1 (V1 z_.ro_cell h.2.2.2.1) b (Aa2.mono z_.ro_cell h))<|rz Z ?_
 cases a
 exact aR eV2
def ML(_:Nat)(a:W2)(_:Y0 Int)(_:Y0 (W1)):Y1 (W2):=some a
theorem Ur(N c d e r)(h:ML N c d e=some r)(g:Ro)(a:Y2)(_hx_1:Rd Ca g a d)(b:Y2)(_hx_2:Rd Ad5 g b e):Does prog 84 #[vA #[vS c,a,b]] g [] (pV (vS r)):=by
 unfold ML at h
 refine Ak follows func84 Z 5 Z _ fz1 (λf=> ?_)
 refine Ad<|rA Z λi=>rz Z<|AY [0] Z ?_
 cases h
 exact aR eV1
def Iy(N:Nat)(b:Y0 ((W2)×(Y0 Int)×(Y0 (W1)))):Nat->Y0 (W2)->Int->Y1 (Y0 (W2))
  |0,_,_=>none
  |e+1,c,a=>if a<(b.length:Int)then ck (0<=a/\a<(b.length:Int)) ((ML N (b[a.toNat]!.1) (b[a.toNat]!.2.1) (b[a.toNat]!.2.2)).bind λd=>ck (0<=a/\a<(c.length:Int)) (ck (R64 (a+1)) ((Iy N b e) ((c).set (a.toNat) d) (a+1))))else some c
def Ol(N:Nat)(a:Y0 ((W2)×(Y0 Int)×(Y0 (W1)))):Y1 (Y0 (W2)):=ck (0<=(a.length:Int)/\(a.length:Int)<=8796093022208) (Iy N a N ((List.replicate ((a.length:Int)).toNat ([]))) 0)
theorem WE(N f r)(b:Ol N f=some r)(J s)(i:RdN Ac7 J s f):Does prog 149 #[s,vF 84 #[] #[]] J [] (p1 (λs_=>s_) 9 Aa4 r):=by
 unfold Ol at b
 refine Ak follows func149 Z 26 Z _ fz2 (λC=> ?_)
 refine AZ Z<|Ad<|rn 1 Z<|rL (W9 i) Z<|kC b λD b=>cB 10<|Ta (Ls:=[]) 9 Aa4 ([]) (f.length:Int) Z Z Z Z Z Z Z Z Z Z 8796093022208 Z D (λ_ _ _ _ _=>Iff.rfl) (λF I K=> ?_)
 refine rz Z<|Aa λO G=>Ad<|rn 1 Z<|rL (W9 i) Z<|rz Z<|Ai<|BF _ (W5 [I] [0] Z)<|AL (λtt ll nn=> ∃(p:Nat) (g:Y0 (W2)) (a:Int),(Iy N f p g a=some r)/\ ∃(c:Y0 Bl),Sl 9 Aa4 F g c/\Is [(1,vF 84 #[] #[]),(5,F),(11,s),(12,vI (f.length:Int)),(13,vI a)] (V2 [c]) tt ll/\nn=p+1) (N+1) ?_ ?_
 ·exact⟨N,(List.replicate ((f.length:Int)).toNat ([])),0,b,I,K,Ag Z Z,Z⟩
 clear b;rintro t l _ ⟨p,g,a,b,c,h,⟨⟨T,rfl⟩,rfl⟩,rfl⟩
 rcases p with _|p
 ·exact absurd b (by simp [Iy])
 rw [Iy] at b
 refine AZ Z<|Aa λL u=>aD b Z (λv b=> ?_) (λv b=> ?_)
 ·refine Ac<|u _ _ ?_
  refine Aa λM x=>Ai<|Ad<|rn 1 Z<|kC b λj b=> ?_
  obtain⟨_,⟨d,e,k,m,rfl⟩,hat20⟩:=RdN.at (E:=Ac7) i (Cp j)
  refine rI (W9 i) j Z<|Mk (vA #[vS (f[a.toNat]!.1),d,e]) (vs:=[vS (f[a.toNat]!.1),d,e]) (a.toNat*3) 0 Z Z (λo w z_=>At.mono z_.ro_cell hat20) Z<|rA Z λq=>rn 1 Z<|r_s (V2 [(Uh q (f[a.toNat]!.1) d e),c]) 0 _ _ _ _ _ (#[vS (f[a.toNat]!.1),d,e]) Z Z Z Z (.ofS Z Z (Ae Z (sR k (sR m AD)))) Z Z<|Aj<|Ah<|rm 4 [0] Z<|kB b λy z b=>gV _ (Cc (caps:=[]) Z tG Z) (λo w z_=>Ur N _ _ _ _ z z_.view d (z_.r k) e (z_.r m))<|kC b λn b=>rI (W7 h) n Z<|QR (Ls:=[(Uh q (f[a.toNat]!.1) d e),c]) 1 (En:=Aa4) (g[a.toNat]!) y (a.toNat) 0 Z Z Z h (Cp n) Z Z Z (It Z) Z (λA H=> ?_)
  refine Aj<|x _ _ ?_
  refine Ah<|kC b λB b=>rX B Z<|rz Z<|fg _ (W5 [(Uh q (f[a.toNat]!.1) d e),A] [1] Z) ?_
  exact⟨p+1,by omega,p,(g).set (a.toNat) y,(a+1),b,A,H,Ag Z Z,Z⟩
 refine AM<|G _ _ ?_
 refine AZ Z ?_
 cases b
 refine AU (λP=>Iq (v0:=F) h (Fu (W5 [c] [0] Z)) Z (Gl Z))
def NM(N:Nat)(_ b:Int):Y1 Int:=(IM N b).bind λa=>some a
theorem bc(N x d r)(a:NM N x d=some r):Gives prog 152 #[vI x,vI d] (vI r):=by
 unfold NM at a
 refine Au follows func152 Z 7 Z _ fz2 (λb=> ?_)
 refine AZ Z<|Ad<|rn 1 Z<|kB a λe c a=>rc _ (cF bw) (Qw N d _ c)<|rz Z ?_
 cases a
 exact aR eE1
def KT(N:Nat)(b:Y0 Int):Nat->Int->Y1 (Int×Int)
  |0,_=>none
  |d+1,a=>if a<(b.length:Int)then ck (0<=a/\a<(b.length:Int)) ((NM N a (b[a.toNat]!)).bind λc=>if(c:Int)≠0 then some (a,c)else ck (R64 (a+1)) ((KT N b d) (a+1)))else some (0,0)
def OQ(N:Nat)(b:Y0 Int)(a:Int):Y1 (Int×Int):=if(b.length:Int)>a then some (0,2)else KT N b N 0
theorem da(N p e r)(a:OQ N p e=some r)(v g)(c:Rd Ca v g p):Does prog 90 #[g,vI e,vF 152 #[] #[]] v [] (pV (vT #[vI r.1,vI r.2])):=by
 unfold OQ at a
 refine Ak follows func90 Z 31 Z _ fz3 (λo=> ?_)
 refine AZ Z<|Aa λz q=>Ad<|rn 1 Z<|rL (W8 c) Z<|rz Z<|aD a Z (λs a=> ?_) (λs a=> ?_)
 ·refine AZ Z ?_
  cases a
  exact aR eV2
 refine Ac<|q _ _ ?_
 refine Aa λA u=>Ad<|rn 1 Z<|rL (W8 c) Z<|rz Z<|Ai<|AL (λtt ll nn=> ∃(f:Nat) (b:Int),(KT N p f b=some r)/\Is [(2,vF 152 #[] #[]),(15,g),(16,vI (p.length:Int)),(17,vI b)] [] tt ll/\nn=f+1) (N+1) ?_ ?_
 ·exact⟨N,0,a,Ag Z Z,Z⟩
 clear a;rintro t l _ ⟨f,b,a,⟨⟨T,rfl⟩,rfl⟩,rfl⟩
 rcases f with _|f
 ·exact absurd a (by simp [KT])
 rw [KT] at a
 refine AZ Z<|Aa λw h=>aD a Z (λi a=> ?_) (λi a=> ?_)
 ·refine Ac<|h _ _ ?_
  refine Aa λx j=>Ai<|Ad<|rn 1 Z<|kC a λd a=>rI (W8 c) d Z<|rE (Ay c) d 0 Z<|rz Z<|Ad<|rn 3 Z<|kB a λy k a=>rc _ (Cc (caps:=[]) Z qm Z) (bc N b _ _ k)<|rz Z<|AZ Z<|aN a Z (λm a=> ?_) (λm a=> ?_)
  ·refine AZ Z ?_
   cases a
   exact aR eV2
  refine Ac<|j _ _ ?_
  refine Ah<|kC a λn a=>rX n Z<|rz Z<|fg _ (Sub.of suN) ?_
  exact⟨f+1,by omega,f,(b+1),a,Ag Z Z,Z⟩
 refine AM<|u _ _ ?_
 refine AZ Z ?_
 cases a
 exact aR eV2
def Jv(_:Nat)(n:Int):Y1 (Int×Int):=ck (R64 (n - 1)) (some (0,(n - 1)))
theorem Lj(N n r)(a:Jv N n=some r):Gives prog 278 #[vI n] (vA #[vI r.1,vI r.2]):=by
 unfold Jv at a
 refine Au follows func278 Z 6 Z _ fz1 (λb=> ?_)
 refine Ad<|rA Z λe=>Aj<|Ad<|rn 1 Z<|kC a λc a=>rX c Z<|r_W (vA #[vI 0,vI (n - 1)]) Z (Ar Z Z Z Z)<|ry [0] Z ?_
 cases a
 refine AU (λd=>EH (v0:=vA #[vI 0,vI (n - 1)]) Z (Gl (Bf d 0 Z Z Z)))
def Ov(N:Nat)(c:Int)(b:Y3):Y1 (Int×Int×Int×Int):=if b=true then some (0,64,0,0)else if c=33 then(Jv N 32).bind λa=>some (a.1,a.2,0,64)else some (0,0,0,0)
def Ow(N:Nat)(a:Int)(c:Y3):Y1 (Int×Int×Int×Int):=if c=true then(Jv N 16).bind λb=>some (b.1,b.2,1,4)else if a=31 then Ov N a (a==31)else Ov N a (a==32)
def Ox(N:Nat)(a d:Int)(c:Y3):Y1 (Int×Int×Int×Int):=if c=true then some (0,128,0,0)else if a=10 then(Jv N 128).bind λb=>some (b.1,b.2,0,d)else if a=11 then some (1,128,0,0)else if a=27 then Ow N a (a==27)else Ow N a (a==28)
def MO(N:Nat)(a b:Int)(d:Y3):Y1 (Int×Int×Int×Int):=if d=true then(Jv N 8).bind λc=>some (c.1,c.2,0,0)else if a=8 then Ox N a b (a==8)else Ox N a b (a==9)
def NW(N:Nat)(a b:Int)(d:Y3):Y1 (Int×Int×Int×Int):=if d=true then(Jv N 32).bind λc=>some (c.1,c.2,0,0)else if a=5 then MO N a b (a==5)else if a=24 then MO N a b (a==24)else if a=29 then MO N a b (a==29)else MO N a b (a==30)
def PY(N:Nat)(a b:Int)(e:Y3):Y1 (Int×Int×Int×Int):=if e=true then(Jv N 24).bind λc=>some (c.1,c.2,0,0)else if a=3 then(Jv N 8).bind λd=>some (d.1,d.2,0,0)else if a=4 then NW N a b (a==4)else if a=25 then NW N a b (a==25)else NW N a b (a==26)
def PZ(N:Nat)(a c:Int)(e:Y3):Y1 (Int×Int×Int×Int):=if e=true then(Jv N 32).bind λd=>(Jv N 16).bind λb=>some (d.1,d.2,b.1,b.2)else if a=2 then PY N a c (a==2)else PY N a c (a==23)
def Ou(N:Nat)(a b _ _:Int)(_:W3):Y1 (Int×Int×Int×Int):=if a=1 then PZ N a b (a==1)else PZ N a b (a==22)
theorem nM(N b c g h d r)(a:Ou N b c g h d=some r):Gives prog 266 #[vA #[vI b,vI c,vI g,vI h,U (hi d),U (lo d)]] (vT #[vA #[vI r.1,vI r.2.1],vA #[vI r.2.2.1,vI r.2.2.2]]):=by
 unfold Ou at a
 refine Au follows func266 Z 64 Z _ fz1 (λal=> ?_)
 refine Ad<|rA Z λm=>rA Z λj=>rA Z λk=>Aj<|Aa λK5 am=>AY [2] Z<|Ai<|Cs (λtt ll=> ∃(p:Y3),(PZ N b c p=some r)/\Is [(1,vP m 0),(2,vP j 0),(3,vP k 0),(5,vI b),(6,vB p)] [(k,368, #[vI 0,vI 0]),(j,368, #[vI 0,vI 0]),(m,209, #[vI b,vI c,vI g,vI h,U (hi d),U (lo d)])] tt ll) ?_ ?_
 ·refine AZ Z<|aE a Z (λw a=> ?_) (λw a=> ?_)
  ·refine Ac<|fg _ (Sub.of (suK _ (suK _ (suK _ suN)))) ?_
   exact⟨(b==1),a,Ag Z Z⟩
  refine Ah<|rz Z<|fg _ (Sub.of (suK _ (suK _ (suK _ suN)))) ?_
  exact⟨(b==22),a,Ag Z Z⟩
 clear a;rintro t l ⟨p,a,⟨T,rfl⟩,rfl⟩
 unfold PZ at a
 refine aB a Z (λan a=> ?_) (λan a=> ?_)
 ·refine Ad<|kB a λr9 x a=>rc _ (cF Mz) (Lj N 32 _ x)<|kB a λy z a=>rc _ (cF Mz) (Lj N 16 _ z)<|ry [1,0] Z ?_
  cases a
  refine AU (λe=>EH (v0:=vT #[vA #[vI r9.1,vI r9.2],vA #[vI y.1,vI y.2]]) Z (Jg (Bf e 1 Z Z Z) (Bf e 0 Z Z Z)))
 refine Cs (λtt ll=> ∃(q:Y3),(PY N b c q=some r)/\Is [(1,vP m 0),(2,vP j 0),(3,vP k 0),(5,vI b),(11,vB q)] [(k,368, #[vI 0,vI 0]),(j,368, #[vI 0,vI 0]),(m,209, #[vI b,vI c,vI g,vI h,U (hi d),U (lo d)])] tt ll) ?_ ?_
 ·refine AZ Z<|aE a Z (λA a=> ?_) (λA a=> ?_)
  ·refine Ac<|fg _ (Sub.of (suK _ (suK _ (suK _ suN)))) ?_
   exact⟨(b==2),a,Ag Z Z⟩
  refine Ah<|rz Z<|fg _ (Sub.of (suK _ (suK _ (suK _ suN)))) ?_
  exact⟨(b==23),a,Ag Z Z⟩
 clear a;rintro t l ⟨q,a,⟨T,rfl⟩,rfl⟩
 unfold PY at a
 refine aB a Z (λB a=> ?_) (λB a=> ?_)
 ·refine Ad<|kB a λC D a=>rc _ (cF Mz) (Lj N 24 _ D)<|r_W (vA #[vI 0,vI 0]) Z (Ar Z Z Z Z)<|ry [1,0] Z ?_
  cases a
  refine AU (λe=>EH (v0:=vT #[vA #[vI C.1,vI C.2],vA #[vI 0,vI 0]]) Z (Jg (Bf e 1 Z Z Z) (Bf e 0 Z Z Z)))
 refine AZ Z<|aE a Z (λE a=> ?_) (λE a=> ?_)
 ·refine Ad<|kB a λF G a=>rc _ (cF Mz) (Lj N 8 _ G)<|r_W (vA #[vI 0,vI 0]) Z (Ar Z Z Z Z)<|ry [1,0] Z ?_
  cases a
  refine AU (λe=>EH (v0:=vT #[vA #[vI F.1,vI F.2],vA #[vI 0,vI 0]]) Z (Jg (Bf e 1 Z Z Z) (Bf e 0 Z Z Z)))
 refine Cs (λtt ll=> ∃(s:Y3),(NW N b c s=some r)/\Is [(1,vP m 0),(2,vP j 0),(3,vP k 0),(5,vI b),(20,vB s)] [(k,368, #[vI 0,vI 0]),(j,368, #[vI 0,vI 0]),(m,209, #[vI b,vI c,vI g,vI h,U (hi d),U (lo d)])] tt ll) ?_ ?_
 ·refine AZ Z<|aE a Z (λH a=> ?_) (λH a=> ?_)
  ·refine Ac<|fg _ (Sub.of (suK _ (suK _ (suK _ suN)))) ?_
   exact⟨(b==4),a,Ag Z Z⟩
  refine AZ Z<|aE a Z (λI a=> ?_) (λI a=> ?_)
  ·refine Ac<|fg _ (Sub.of (suK _ (suK _ (suK _ suN)))) ?_
   exact⟨(b==25),a,Ag Z Z⟩
  refine Ah<|rz Z<|fg _ (Sub.of (suK _ (suK _ (suK _ suN)))) ?_
  exact⟨(b==26),a,Ag Z Z⟩
 clear a;rintro t l ⟨s,a,⟨T,rfl⟩,rfl⟩
 unfold NW at a
 refine aB a Z (λJ a=> ?_) (λJ a=> ?_)
 ·refine Ad<|kB a λK L a=>rc _ (cF Mz) (Lj N 32 _ L)<|r_W (vA #[vI 0,vI 0]) Z (Ar Z Z Z Z)<|ry [1,0] Z ?_
  cases a
  refine AU (λe=>EH (v0:=vT #[vA #[vI K.1,vI K.2],vA #[vI 0,vI 0]]) Z (Jg (Bf e 1 Z Z Z) (Bf e 0 Z Z Z)))
 refine Cs (λtt ll=> ∃(u:Y3),(MO N b c u=some r)/\Is [(1,vP m 0),(2,vP j 0),(3,vP k 0),(5,vI b),(26,vB u)] [(k,368, #[vI 0,vI 0]),(j,368, #[vI 0,vI 0]),(m,209, #[vI b,vI c,vI g,vI h,U (hi d),U (lo d)])] tt ll) ?_ ?_
 ·refine AZ Z<|aE a Z (λM a=> ?_) (λM a=> ?_)
  ·refine Ac<|fg _ (Sub.of (suK _ (suK _ (suK _ suN)))) ?_
   exact⟨(b==5),a,Ag Z Z⟩
  refine AZ Z<|aE a Z (λO a=> ?_) (λO a=> ?_)
  ·refine Ac<|fg _ (Sub.of (suK _ (suK _ (suK _ suN)))) ?_
   exact⟨(b==24),a,Ag Z Z⟩
  refine AZ Z<|aE a Z (λP a=> ?_) (λP a=> ?_)
  ·refine Ac<|fg _ (Sub.of (suK _ (suK _ (suK _ suN)))) ?_
   exact⟨(b==29),a,Ag Z Z⟩
  refine Ah<|rz Z<|fg _ (Sub.of (suK _ (suK _ (suK _ suN)))) ?_
  exact⟨(b==30),a,Ag Z Z⟩
 clear a;rintro t l ⟨u,a,⟨T,rfl⟩,rfl⟩
 unfold MO at a
 refine aB a Z (λQ a=> ?_) (λQ a=> ?_)
 ·refine Ad<|kB a λR S a=>rc _ (cF Mz) (Lj N 8 _ S)<|r_W (vA #[vI 0,vI 0]) Z (Ar Z Z Z Z)<|ry [1,0] Z ?_
  cases a
  refine AU (λe=>EH (v0:=vT #[vA #[vI R.1,vI R.2],vA #[vI 0,vI 0]]) Z (Jg (Bf e 1 Z Z Z) (Bf e 0 Z Z Z)))
 refine Cs (λtt ll=> ∃(v:Y3),(Ox N b c v=some r)/\Is [(1,vP m 0),(2,vP j 0),(3,vP k 0),(5,vI b),(33,vB v)] [(k,368, #[vI 0,vI 0]),(j,368, #[vI 0,vI 0]),(m,209, #[vI b,vI c,vI g,vI h,U (hi d),U (lo d)])] tt ll) ?_ ?_
 ·refine AZ Z<|aE a Z (λV a=> ?_) (λV a=> ?_)
  ·refine Ac<|fg _ (Sub.of (suK _ (suK _ (suK _ suN)))) ?_
   exact⟨(b==8),a,Ag Z Z⟩
  refine Ah<|rz Z<|fg _ (Sub.of (suK _ (suK _ (suK _ suN)))) ?_
  exact⟨(b==9),a,Ag Z Z⟩
 clear a;rintro t l ⟨v,a,⟨T,rfl⟩,rfl⟩
 unfold Ox at a
 refine aB a Z (λW a=> ?_) (λW a=> ?_)
 ·refine Ad<|r_W (vA #[vI 0,vI 128]) Z (Ar Z Z Z Z)<|r_W (vA #[vI 0,vI 0]) Z (Ar Z Z Z Z)<|ry [1,0] Z ?_
  cases a
  refine AU (λe=>EH (v0:=vT #[vA #[vI 0,vI 128],vA #[vI 0,vI 0]]) Z (Jg (Bf e 1 Z Z Z) (Bf e 0 Z Z Z)))
 refine AZ Z<|aE a Z (λX a=> ?_) (λX a=> ?_)
 ·refine Aa λap Y=>VA (Ls:=[(Zi k 0 0),(Zi j 0 0),(ke m b c g h (hi d) (lo d))]) [(some 1000000000,true)] [] [1,0] [2] [] (by decide+kernel) (λe=>AN) (by decide+kernel) Z trivial (λhnb_=> ?_)
  refine kB a λf aa a=>rc _ (cF Mz) (Lj N 128 _ aa)<|rn 1 Z<|cg (vI c) 2 _ _ _ _ Z Z Z Z Z (hnb_ m (List.mem_of_getElem? (i:=0) Z))<|r_W (vA #[vI 0,vI c]) Z (Ar Z Z Z Z)<|rP [(k,368, #[vI 0,vI 0]),(j,368, #[vI f.1,vI f.2]),(m,209, #[vI b,vI c,vI g,vI h,U (hi d),U (lo d)])] 1 _ _ _ (#[vI 0,vI 0]) (#[vI f.1,vI f.2]) (#[vI f.1,vI f.2]) Z Z Z Z (.of Z Z) Z Z (List.mem_of_getElem? (i:=0) Z) ?_
  refine rP [(k,368, #[vI 0,vI c]),(j,368, #[vI f.1,vI f.2]),(m,209, #[vI b,vI c,vI g,vI h,U (hi d),U (lo d)])] 0 _ _ _ (#[vI 0,vI 0]) (#[vI 0,vI c]) (#[vI 0,vI c]) Z Z Z Z (.of Z Z) Z Z (List.mem_of_getElem? (i:=1) Z)<|Aj<|Y _ _ ?_
  cases a
  refine AU (λe=>EH (v0:=vT #[vA #[vI f.1,vI f.2],vA #[vI 0,vI c]]) Z (Jg (Bf e 1 Z Z Z) (Bf e 0 Z Z Z)))
 refine AZ Z<|aE a Z (λab a=> ?_) (λab a=> ?_)
 ·refine Ad<|r_W (vA #[vI 1,vI 128]) Z (Ar Z Z Z Z)<|r_W (vA #[vI 0,vI 0]) Z (Ar Z Z Z Z)<|ry [1,0] Z ?_
  cases a
  refine AU (λe=>EH (v0:=vT #[vA #[vI 1,vI 128],vA #[vI 0,vI 0]]) Z (Jg (Bf e 1 Z Z Z) (Bf e 0 Z Z Z)))
 refine Cs (λtt ll=> ∃(n:Y3),(Ow N b n=some r)/\Is [(2,vP j 0),(3,vP k 0),(5,vI b),(48,vB n)] [(k,368, #[vI 0,vI 0]),(j,368, #[vI 0,vI 0])] tt ll) ?_ ?_
 ·refine AZ Z<|aE a Z (λac a=> ?_) (λac a=> ?_)
  ·refine Ac<|fg _ (Sub.of (suK _ (suK _ (suC _ suN)))) ?_
   exact⟨(b==27),a,Ag Z Z⟩
  refine Ah<|rz Z<|fg _ (Sub.of (suK _ (suK _ (suC _ suN)))) ?_
  exact⟨(b==28),a,Ag Z Z⟩
 clear a;rintro t l ⟨n,a,⟨T,rfl⟩,rfl⟩
 unfold Ow at a
 refine aB a Z (λad a=> ?_) (λad a=> ?_)
 ·refine Ad<|kB a λae af a=>rc _ (cF Mz) (Lj N 16 _ af)<|r_W (vA #[vI 1,vI 4]) Z (Ar Z Z Z Z)<|ry [1,0] Z ?_
  cases a
  refine AU (λe=>EH (v0:=vT #[vA #[vI ae.1,vI ae.2],vA #[vI 1,vI 4]]) Z (Jg (Bf e 1 Z Z Z) (Bf e 0 Z Z Z)))
 refine Cs (λtt ll=> ∃(o:Y3),(Ov N b o=some r)/\Is [(2,vP j 0),(3,vP k 0),(5,vI b),(53,vB o)] [(k,368, #[vI 0,vI 0]),(j,368, #[vI 0,vI 0])] tt ll) ?_ ?_
 ·refine AZ Z<|aE a Z (λag a=> ?_) (λag a=> ?_)
  ·refine Ac<|fg _ (Sub.of (suK _ (suK _ suN))) ?_
   exact⟨(b==31),a,Ag Z Z⟩
  refine Ah<|rz Z<|fg _ (Sub.of (suK _ (suK _ suN))) ?_
  exact⟨(b==32),a,Ag Z Z⟩
 clear a;rintro t l ⟨o,a,⟨T,rfl⟩,rfl⟩
 unfold Ov at a
 refine aB a Z (λah a=> ?_) (λah a=> ?_)
 ·refine Ad<|r_W (vA #[vI 0,vI 64]) Z (Ar Z Z Z Z)<|r_W (vA #[vI 0,vI 0]) Z (Ar Z Z Z Z)<|ry [1,0] Z ?_
  cases a
  refine AU (λe=>EH (v0:=vT #[vA #[vI 0,vI 64],vA #[vI 0,vI 0]]) Z (Jg (Bf e 1 Z Z Z) (Bf e 0 Z Z Z)))
 refine AZ Z<|aE a Z (λai a=> ?_) (λai a=> ?_)
 ·refine Ad<|kB a λaj ak a=>rc _ (cF Mz) (Lj N 32 _ ak)<|r_W (vA #[vI 0,vI 64]) Z (Ar Z Z Z Z)<|ry [1,0] Z ?_
  cases a
  refine AU (λe=>EH (v0:=vT #[vA #[vI aj.1,vI aj.2],vA #[vI 0,vI 64]]) Z (Jg (Bf e 1 Z Z Z) (Bf e 0 Z Z Z)))
 refine Ac<|am _ _ ?_
 refine Ad<|r_W (vA #[vI 0,vI 0]) Z (Ar Z Z Z Z)<|r_W (vA #[vI 0,vI 0]) Z (Ar Z Z Z Z)<|ry [1,0] Z ?_
 cases a
 refine AU (λe=>EH (v0:=vT #[vA #[vI 0,vI 0],vA #[vI 0,vI 0]]) Z (Jg (Bf e 1 Z Z Z) (Bf e 0 Z Z Z)))
end Go.Proofs.YtjnanfkpdhmnpaaGreatDoor
