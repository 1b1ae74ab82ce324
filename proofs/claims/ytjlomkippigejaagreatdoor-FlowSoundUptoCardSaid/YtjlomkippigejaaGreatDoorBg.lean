import Derived.Test.YtjlomkippigejaaGreatDoorBf
namespace Go.Proofs.YtjlomkippigejaaGreatDoor
open Go Go.RowKit Go.Eng _root_.Go.Proofs.Tryz
set_option linter.unusedSimpArgs false
set_option linter.unusedVariables false
set_option maxRecDepth 100000
set_option maxHeartbeats 80000000
abbrev rk(b:Nat)(x0:Value)(x1:Value)(x2:Int)(x3:Int)(x4:Int)(x5:Int):List Bl:=[(b,94, #[x0,x1,vI x2,vI x3,vI x4,vI x5])]
abbrev PT(b:Nat)(x0:W2)(x1:Value)(x2:Int)(x3:Int)(x4:Int)(x5:Int):List Bl:=[(b,94, #[vS x0,x1,vI x2,vI x3,vI x4,vI x5])]
abbrev Rk(b:Nat)(x0:Value):List Bl:=[(b,98, #[x0])]
abbrev TI(b:Nat)(x0:Int):List Bl:=[(b,3, #[vI x0])]
abbrev SL(b:Nat)(x0:W4)(x1:W4):List Bl:=[(b,335, #[U x0,U x1])]
abbrev SM(b:Nat)(x0:Int)(x1:W4)(x2:W4)(x3:Int)(x4:W4)(x5:W4)(x6:Int):List Bl:=[(b,259, #[vI x0,U x1,U x2,vI x3,U x4,U x5,vI x6])]
abbrev cg(b:Nat)(x0:Int)(x1:Int)(x2:Int):List Bl:=[(b,319, #[vI x0,vI x1,vI x2])]
abbrev ci(b:Nat)(x0:Int):List Bl:=[(b,284, #[vI x0])]
abbrev JA(b:Nat)(x0:W2)(x1:Value)(x2:Value)(x3:Value)(x4:Int):List Bl:=[(b,101, #[vS x0,x1,x2,x3,vI x4])]
abbrev VU(b:Nat)(x0:Value):List Bl:=[(b,205, #[x0])]
abbrev YM(b:Nat)(x0:Value):List Bl:=[(b,134, #[x0])]
abbrev TJ(b:Nat)(x0:W2)(x1:Value)(x2:Value):List Bl:=[(b,185, #[vS x0,x1,x2])]
abbrev YL(b:Nat)(x0:Int)(x1:Int):List Bl:=[(b,235, #[vI x0,vI x1])]
abbrev lG(b:Nat)(x0:Int)(x1:Int)(x2:Int)(x3:Int)(x4:W4)(x5:W4):List Bl:=[(b,53, #[vI x0,vI x1,vI x2,vI x3,U x4,U x5])]
def Lp(N:Nat)(m:Ao)(b:Int):Option ((W2)×(List (W2×Int))×Int×Int×Int×Int×Bool):=(ND N m.2.1 m.2.2.1 b).bind λa=>some (a.1,a.2.1,a.2.2.1,a.2.2.2.1,a.2.2.2.2.1,a.2.2.2.2.2.1,a.2.2.2.2.2.2)
theorem Ul(N m b r)(d:Lp N m b=some r)(l)(c:AB)(n:Aa1 l c m):Does prog 129 #[vA (Ac m c),vI b] l [] (p1 (λs_=>vT #[vA #[vS r.1,s_,vI r.2.2.1,vI r.2.2.2.1,vI r.2.2.2.2.1,vI r.2.2.2.2.2.1],vB r.2.2.2.2.2.2]) 92 Ab3 r.2.1):=by
 unfold Lp at d
 refine Al follows func129 Z 14 Z _ fz2 (λe=> ?_)
 refine Ad<|rA Z λg=>rA Z λh=>rz Z<|Ad<|rm 5 [1,1] Z<|kB d λa i d=>gS (Ls:=[(rk h (Value.string (⟨#[]⟩)) nS 0 0 0 0),[(g,35,(Ac m c))]]) (cF nL) (λo w z_=>eR N m.2.1 m.2.2.1 b _ i z_.view c.1 (RdN.mono z_.ro_cell n.1) c.2.1 ((Aw n.2.1) o w z_)) (λf j k=> ?_)
 refine rn 2 Z<|r_s (List.flatten [(PT h a.1 f a.2.2.1 a.2.2.2.1 a.2.2.2.2.1 a.2.2.2.2.2.1),[(g,35,(Ac m c))],j]) 0 _ _ _ _ _ (#[vS a.1,f,vI a.2.2.1,vI a.2.2.2.1,vI a.2.2.2.2.1,vI a.2.2.2.2.2.1]) Z Z Z Z (.ofS Z Z (Ae Z (Ae (Shp.one (Sl.shp k)) (Ae Z (Ae Z (Ae Z (Ae Z BA))))))) Z Z<|rz Z ?_
 cases d
 refine Bh (λp=>GZ (v0:=vT #[vA #[vS a.1,f,vI a.2.2.1,vI a.2.2.2.1,vI a.2.2.2.2.1,vI a.2.2.2.2.2.1],vB a.2.2.2.2.2.2]) k (Dy (Sub.pick [(PT h a.1 f a.2.2.1 a.2.2.2.1 a.2.2.2.2.1 a.2.2.2.2.2.1),[(g,35,(Ac m c))],j] [2] Z)) Z (LI (AW p 0 Z Z Z) Z))
def LW(N:Nat)(a:List (W2×Int))(i:Int):Option Bool:=ck ((R64 ((a.length:Int) - 1))) ((AA N i 0 ((a.length:Int) - 1)).bind λb=>some b)
theorem We(N f i r)(a:LW N f i=some r)(h b)(g:Rd Ab3 h b f):Does prog 130 #[b,vI i] h [] (pV (vB r)):=by
 unfold LW at a
 refine Al follows func130 Z 10 Z _ fz2 (λc=> ?_)
 refine AZ Z<|Ad<|rn 2 Z<|rL (Rd.shp g) Z<|kC a λd a=>rX d Z<|kB a λj e a=>rc _ (cF Fz) (AR N i 0 ((f.length:Int) - 1) _ e)<|rz Z ?_
 cases a
 exact aR eV1
def MD(f:Int)(a:(W2)×(List (W2×Int))×Int×Int×Int×Int×Bool):Option (Int×Bool):=ck (0<=f/\f<(a.2.1.length:Int)) (some (((a.2.1)[f.toNat]!).2,true))
def Hb(N:Nat)(m:Ao)(b:Int)(f:Int):Option (Int×Bool):=(Lp N m b).bind λa=>if a.2.2.2.2.2.2=true then(LW N a.2.1 f).bind λc=>if c=true then MD f a  else some (0,false)else some (0,false)
theorem PV(N m e f r)(b:Hb N m e f=some r)(y)(j:AB)(B:Aa1 y j m):Does prog 66 #[vA (Ac m j),vI e,vI f] y [] (pV (vT #[vI r.1,vB r.2])):=by
 unfold Hb at b
 refine Al follows func66 Z 31 Z _ fz3 (λu=> ?_)
 refine Ad<|rA Z λv=>rz Z<|Ad<|rm 2 [0] Z<|kB b λa x b=>gS (Ls:=[[(v,35,(Ac m j))]]) (cF dX) (λo w z_=>Ul N m e _ x z_.view j (Aa1.mono z_.ro_cell B)) (λi p q=> ?_)
 refine rn 3 Z<|rA Z λn=>r_s (List.flatten [(PT n a.1 i a.2.2.1 a.2.2.2.1 a.2.2.2.2.1 a.2.2.2.2.2.1),[(v,35,(Ac m j))],p]) 0 _ _ _ _ _ (#[vS a.1,i,vI a.2.2.1,vI a.2.2.2.1,vI a.2.2.2.2.1,vI a.2.2.2.2.2.1]) Z Z Z Z (.ofS Z Z (Ae Z (Ae (Shp.one (Sl.shp q)) (Ae Z (Ae Z (Ae Z (Ae Z BA))))))) Z Z<|rz Z<|Cb (λtt ll=>(MD f a  =some r)/\Is [(2,vI f),(8,vP n 0)] (List.flatten [(PT n a.1 i a.2.2.1 a.2.2.2.1 a.2.2.2.2.1 a.2.2.2.2.2.1),p]) tt ll) ?_ ?_
 ·refine Aa λz g=>Ah<|rn 3 Z ?_
  rcases h:(!(a.2.2.2.2.2.2))with _|_
  ·replace b:=ifp (Dl h) b
   refine rn 1 Z<|r_y Z<|rm 2 [0] Z<|r_y Z<|kB b λA s b=>gV _ (cF pg) (λo w z_=>We N a.2.1 f _ s z_.view i ((Ax q (Aj (Ls:=[(PT n a.1 i a.2.2.1 a.2.2.2.1 a.2.2.2.2.1 a.2.2.2.2.2.1),[(v,35,(Ac m j))],p]) (k:=2) Z Z)) o w z_))<|rz Z<|g _ _ ?_
   refine BI _ Z (λc=> ?_) (λc=> ?_)
   ·replace b:=ifn (Bool.eq_false_iff.1 (Dk c)) b
    refine AZ Z ?_
    cases b
    exact aR eV2
   replace b:=ifp (Dl c) b
   refine Ab<|fg _ (Sub.pick [(PT n a.1 i a.2.2.1 a.2.2.2.1 a.2.2.2.2.1 a.2.2.2.2.2.1),[(v,35,(Ac m j))],p] [0,2] Z) ?_
   exact⟨b,Ag Z Z⟩
  replace b:=ifn (Bool.eq_false_iff.1 (Dk h)) b
  refine rz Z<|g _ _ ?_
  refine Nt Z ?_
  refine AZ Z ?_
  cases b
  exact aR eV2
 clear b;rintro t l ⟨b,⟨T,rfl⟩,rfl⟩
 unfold MD at b
 refine Ad<|rm 3 [0] Z<|kC b λd b=>rI (Sl.shp q) d Z<|rF (Sl.shp q) (Bf d) Z<|rE (Ax q (Aj (Ls:=[(PT n a.1 i a.2.2.1 a.2.2.2.1 a.2.2.2.2.1 a.2.2.2.2.2.1),p]) (k:=1) Z Z)) d 1 Z<|rz Z ?_
 cases b
 exact aR eV2
def Iw(N:Nat)(m:Ao)(i:Int):Option (Int×Bool):=(AA N i 0 7).bind λb=>if b=true then ck (0<=i/\i<8) (some ((GP[i.toNat]!),true))else ck ((R64 (8+(m.2.2.2.1.length:Int)))) (ck ((R64 ((8+(m.2.2.2.1.length:Int)) - 1))) ((AA N i 8 ((8+(m.2.2.2.1.length:Int)) - 1)).bind λa=>if a=true then ck (R64 (i - 8)) (ck (0<=(i - 8)/\(i - 8)<(m.2.2.2.1.length:Int)) (some (((m.2.2.2.1)[((i - 8)).toNat]!).2,true)))else some (0,false)))
theorem Um(N m i r)(a:Iw N m i=some r)(w)(x:AB)(p:Aa1 w x m):DoesI prog 67 #[vA (Ac m x),vI i] Ho w [] (pV (vT #[vI r.1,vB r.2])):=by
 unfold Iw at a
 refine Be follows func67 Z 27 Z _ fz2 Bi (λo=> ?_)
 refine Ad<|rA Z λz=>rz Z<|Aa λA q=>Ai<|Ad<|rn 1 Z<|kB a λB s a=>rc _ (cF Fz) (AR N i 0 7 _ s)<|rz Z<|aB a Z (λu a=> ?_) (λu a=> ?_)
 ·refine Ad<|rn 1 Z<|kC a λv a=> ?_
  have e:=λc=>Fc (IJ (P:=prog) (c:=c) (t:=226) (b:=0) (off:=0) (k:= .i64) Z Z Z v)
  simp only [q6] at e
  have f:i.toNat<8:=by omega
  refine r_W (Value.pointer (some ⟨0,i.toNat,none⟩)) Z (e _)<|cB 11<|wz (vI (GP[i.toNat]!)) Z Z Z Z Z (λ_ h_=>RA h_ _ f) (λ_ _ _ _ _=>Iff.rfl)<|rz Z ?_
  cases a
  exact aR eV2
 refine Ad<|rm 3 [0] Z<|rL (Rd.shp p.2.2.1) Z<|kC a λg a=>rX g Z<|kC a λh a=>rX h Z<|kB a λy j a=>rc _ (cF Fz) (AR N i 8 ((8+(m.2.2.2.1.length:Int)) - 1) _ j)<|rz Z<|aB a Z (λl a=> ?_) (λl a=> ?_)
 ·refine Ad<|rm 3 [0] Z<|kC a λn a=>rX n Z<|kC a λd a=>rI (Rd.shp p.2.2.1) d Z<|rF (Rd.shp p.2.2.1) (Bf d) Z<|rE (Aw p.2.2.1) d 1 Z<|rz Z ?_
  cases a
  exact aR eV2
 refine Ab<|q _ _ ?_
 refine AZ Z ?_
 cases a
 exact aR eV2
def HE(N:Nat)(m:Ao)(a:Int)(d:Int)(c:Int):Option (Int×Bool):=if a=0 then(Hb N m d c).bind λe=>some (e.1,e.2)else if a=1 then(Iw N m d).bind λb=>some (b.1,b.2)else if a=2 then some (c,true)else some (0,false)
theorem Pu(N m h b c r)(a:HE N m h b c=some r)(n)(j:AB)(p:Aa1 n j m):DoesI prog 254 #[vA (Ac m j),vA #[vI h,vI b,vI c]] Ho n [] (pV (vT #[vI r.1,vB r.2])):=by
 unfold HE at a
 refine Be follows func254 Z 30 Z _ fz2 Bi (λi=> ?_)
 refine Ad<|rA Z λs=>rA Z λt=>rz Z<|Aa λu k=>AY [0] Z<|Ai<|AZ Z<|aE a Z (λl a=> ?_) (λl a=> ?_)
 ·refine Ad<|rm 5 [1,0,0] Z<|kB a λv d a=>gV _ (cF aU) (λo w z_=>(Does.inv (PV N m b c _ d z_.view j (Aa1.mono z_.ro_cell p)) _))<|rz Z ?_
  cases a
  exact aR eV2
 refine AZ Z<|aE a Z (λe a=> ?_) (λe a=> ?_)
 ·refine Ad<|rm 3 [1,0] Z<|kB a λq f a=>gV _ (cF ie) (λo w z_=>Um N m b _ f z_.view j (Aa1.mono z_.ro_cell p))<|rz Z ?_
  cases a
  exact aR eV2
 refine AZ Z<|aE a Z (λg a=> ?_) (λg a=> ?_)
 ·refine AY [0] Z ?_
  cases a
  exact aR eV2
 refine Ab<|k _ _ ?_
 refine AZ Z ?_
 cases a
 exact aR eV2
def Jh(N:Nat)(m:Ao)(d:List (Int×Int×Int)):Nat->Int->Int->Option (Int×Bool)
  |0,_,_=>none
  |f+1,a,b=>if b<(d.length:Int)then ck (0<=b/\b<(d.length:Int)) ((HE N m ((d[b.toNat]!).1) ((d[b.toNat]!).2.1) ((d[b.toNat]!).2.2)).bind λc=>if c.2=true then ck (R64 (128 - a)) ((AA N c.1 1 (128 - a)).bind λe=>if e=true then ck (R64 (a+c.1)) (ck (R64 (b+1)) ((Jh N m d f) (a+c.1) (b+1)))else some (0,false))else some (0,false))else some (a,true)
def NO(N:Nat)(m:Ao)(a:List (Int×Int×Int)):Option (Int×Bool):=Jh N m a N 0 0
theorem VZ(N m j r)(b:NO N m j=some r)(E)(A:AB)(L:Aa1 E A m)(k)(n:Rd Ad1 E k j):DoesI prog 226 #[vA (Ac m A),k] Ho E [] (pV (vT #[vI r.1,vB r.2])):=by
 unfold NO at b
 refine Be follows func226 Z 37 Z _ fz2 Bi (λz=> ?_)
 refine Ad<|rA Z λF=>rz Z<|AZ Z<|Aa λM B=>Ad<|rn 1 Z<|rL (Rd.shp n) Z<|rz Z<|Ai<|AH (λtt ll nn=> ∃(h:Nat) (a:Int) (c:Int),(Jh N m j h a c=some r)/\Is [(2,vP F 0),(6,vI a),(11,k),(12,vI (j.length:Int)),(13,vI c)] [(F,35,(Ac m A))] tt ll/\nn=h+1) (N+1) ?_ ?_
 ·exact⟨N,0,0,b,Ag Z Z,Z⟩
 clear b;rintro t l _ ⟨h,a,c,b,⟨⟨T,rfl⟩,rfl⟩,rfl⟩
 rcases h with _|h
 ·exact absurd b (by simp [Jh])
 rw [Jh] at b
 refine AZ Z<|Aa λO C=>aD b Z (λD b=> ?_) (λD b=> ?_)
 ·refine Ab<|C _ _ ?_
  refine Aa λG p=>Ai<|Ad<|kC b λf b=>rI (Rd.shp n) f Z<|rE (Aw n) f 0 Z<|rA Z λH=>ry [0] Z<|Ad<|rm 2 [1,0] Z<|kB b λi q b=>gV _ (cF dv) (λo w z_=>Pu N m ((j[c.toNat]!).1) ((j[c.toNat]!).2.1) ((j[c.toNat]!).2.2) _ q z_.view A (Aa1.mono z_.ro_cell L))<|rz Z<|Aa λI s=>Aa λJ g=>Ah<|rn 3 Z ?_
  rcases d:(!(i.2))with _|_
  ·replace b:=ifp (Dl d) b
   refine rn 2 Z<|r_y Z<|kC b λu b=>rX u Z<|r_y Z<|kB b λK v b=>rc _ (cF Fz) (AR N i.1 1 (128 - a) _ v)<|rz Z<|g _ _ ?_
   refine BI _ Z (λe=> ?_) (λe=> ?_)
   ·replace b:=ifn (Bool.eq_false_iff.1 (Dk e)) b
    refine AZ Z<|GS [(4,vI 0),(5,vB false)] Z (λT=> ?_)
    cases b
    exact aR eV2
   replace b:=ifp (Dl e) b
   refine Ab<|s _ _ ?_
   refine Ah<|rn 2 Z<|kC b λx b=>rX x Z<|rz Z<|p _ _ ?_
   refine Ah<|kC b λy b=>rX y Z<|rz Z<|fg _ (Sub.of (suC _ (suK _ suN))) ?_
   exact⟨h+1,by omega,h,(a+i.1),(c+1),b,Ag (by first|rfl|(simp only [d];done)|(simp only [d];rfl)|(simp only [Br];rfl)) Z,Z⟩
  replace b:=ifn (Bool.eq_false_iff.1 (Dk d)) b
  refine rz Z<|g _ _ ?_
  refine Nt Z ?_
  refine AZ Z<|GS [(4,vI 0),(5,vB false)] Z (λT=> ?_)
  cases b
  exact aR eV2
 refine AG<|B _ _ ?_
 refine AZ Z ?_
 cases b
 exact aR eV2
def IF(N:Nat)(c:Ao)(a:List (Int×Int×Int)):Option Int:=(NO N c a).bind λb=>some b.1
theorem XO(N c d r)(i:IF N c d=some r)(l)(e:AB)(n:Aa1 l e c)(a)(b:Rd Ad1 l a d):DoesI prog 173 #[vA (Ac c e),a] Ho l [] (pO [] (oB 98 #[a] λb_0=>(oB 3 #[vI r] λb_1=>(oB 104 (Ac c e) λb_2=>(oE (vF 227 #[] #[vP b_0 0,vP b_1 0,vP b_2 0]) []))))):=by
 unfold IF at i
 refine EE follows func173 Z 15 Z _ fz2 Bi (λj=> ?_)
 refine Ad<|rA Z λf=>r_a (98, #[a]) Z Z (Od Z (Rd.shp b)) (λg=> ?_) (.inr Z)
 refine rz Z<|Ad<|rm 3 [1,0] Z<|kB i λm k i=>gV _ (cF dw) (λo w z_=>VZ N c d _ k z_.view e (Aa1.mono z_.ro_cell n) a (z_.r b))<|rn 3 Z<|rA Z λh=>ry [0] Z<|Ad<|r_W (vF 227 #[] #[vP g 0,vP h 0,vP f 0]) Z (Jc Z)<|rz Z ?_
 cases i
 refine Bh (λp=>KV (v0:=vF 227 #[] #[vP g 0,vP h 0,vP f 0]) (O:=[(Rk g a),(TI h m.1),[(f,104,(Ac c e))]]) (FZ Z) (Sub.pick [(TI h m.1),(Rk g a),[(f,104,(Ac c e))]] [1,0,2] Z) ⟨g,_,⟨h,_,⟨f,_,⟨Z,Z⟩,Z⟩,Z⟩,Z⟩)
def JU(_:Nat)(_:Int)(a:W3):Option (W3):=some a
theorem RJ(N b a r)(d:JU N b a=some r):Gives prog 229 #[vA #[vI b,U (hi a),U (lo a)]] (vA #[U (hi r),U (lo r)]):=by
 unfold JU at d
 refine Aq follows func229 Z 8 Z _ fz1 (λc=> ?_)
 refine Ad<|rA Z λe=>rA Z λg=>Ak<|Ad<|r_V (vP e 1) Z<|rl (U (hi a)) 1<|r_V (vP e 2) Z<|rl (U (lo a)) 1<|r_W (vA #[U (hi a),U (lo a)]) Z (Ar Z Z Z Z)<|ry [0] Z ?_
 cases d
 refine Bh (λf=>Eu (v0:=vA #[U (hi a),U (lo a)]) Z (FZ (AW f 0 Z Z Z)))
def PC(_:Nat)(a:W3):Option (W3):=some ((~~~(hi a))++(~~~(lo a)))
theorem eC(N a r)(c:PC N a=some r):Gives prog 230 #[vA #[U (hi a),U (lo a)]] (vA #[U (hi r),U (lo r)]):=by
 unfold PC at c
 refine Aq follows func230 Z 10 Z _ fz1 (λb=> ?_)
 refine Ad<|rA Z λe=>rA Z λf=>Ak<|Ad<|rm 2 [1] Z<|r_X (U (~~~(hi a))) Z (ug (hi a)) Z<|rm 2 [1] Z<|r_X (U (~~~(lo a))) Z (ug (lo a)) Z<|r_W (vA #[U (~~~(hi a)),U (~~~(lo a))]) Z (Ar Z Z Z Z)<|ry [0] Z ?_
 cases c
 refine Bh (λd=>Eu (v0:=vA #[U (~~~(hi a)),U (~~~(lo a))]) (by first|rfl|(simp only [Br];done)|simp only [Br]) (FZ (AW d 0 Z Z Z)))
def PD(_:Nat)(a:W3)(b:W3):Option (W3):=some ((hi a&&&hi b)++(lo a&&&lo b))
theorem eD(N a b r)(d:PD N a b=some r):Gives prog 228 #[vA #[U (hi a),U (lo a)],vA #[U (hi b),U (lo b)]] (vA #[U (hi r),U (lo r)]):=by
 unfold PD at d
 refine Aq follows func228 Z 16 Z _ fz2 (λc=> ?_)
 refine Ad<|rA Z λf=>rA Z λg=>rA Z λh=>Ak<|Ad<|rm 4 [2,1] Z<|r_X (U (hi a&&&hi b)) Z (Xb (hi a) (hi b)) Z<|rm 4 [2,1] Z<|r_X (U (lo a&&&lo b)) Z (Xb (lo a) (lo b)) Z<|r_W (vA #[U (hi a&&&hi b),U (lo a&&&lo b)]) Z (Ar Z Z Z Z) ?_
 refine ry [0] Z ?_
 cases d
 refine Bh (λe=>Eu (v0:=vA #[U (hi a&&&hi b),U (lo a&&&lo b)]) (by first|rfl|(simp only [Br];done)|simp only [Br]) (FZ (AW e 0 Z Z Z)))
def JT(_:Nat)(w:Int):Option Bool:=if w>=1 then some (decide (w<=128))else some false
theorem Vd(N w r)(a:JT N w=some r):Gives prog 244 #[vI w] (vB r):=by
 unfold JT at a
 refine Aq follows func244 Z 9 Z _ fz1 (λd=> ?_)
 refine AZ Z<|Aa λe b=>Ah<|rn 3 Z ?_
 rcases c:(decide (w>=1))with _|_
 ·replace a:=iF c a
  refine rz Z<|b _ _ ?_
  cases a
  exact aR eE1
 replace a:=iD c a
 refine rz Z<|b _ _ ?_
 cases a
 exact aR eE1
def Nu(N:Nat)(a:Int)(b:W3):Option Bool:=(JT N a).bind λc=>if c=true then(JU N a b).bind λd=>some (decide ((((len128 d:Nat):Int):Int)<=a))else some false
theorem Yq(N b c r)(a:Nu N b c=some r):Gives prog 208 #[vA #[vI b,U (hi c),U (lo c)]] (vB r):=by
 unfold Nu at a
 refine Aq follows func208 Z 14 Z _ fz1 (λf=> ?_)
 refine Ad<|rA Z λk=>rz Z<|Aa λl d=>Ia [] (by decide+kernel) (λm=>AK)<|rm 2 [0] Z<|kB a λi g a=>rc _ (cF nj) (Vd N b _ g)<|rn 1 Z ?_
 rcases e:i with _|_
 ·replace a:=iB e a
  refine rz Z<|d _ _ ?_
  cases a
  exact aR eE1
 replace a:=ifp e a
 refine r_y Z<|rm 1 [0] Z<|r_y Z<|kB a λj h a=>rc _ (cF WQ) (RJ N b c _ h)<|r_y Z<|rc _ (cF nh) (wY j)<|rn 1 Z<|r_y Z<|ry [0] Z<|d _ _ ?_
 cases a
 exact aR eE1
def Ga(N:Nat)(a:Int)(b:W3)(w:Int):Option Bool:=if a=w then(Nu N a b).bind λc=>some c else some false
theorem ON(N b c w r)(a:Ga N b c w=some r):Gives prog 231 #[vA #[vI b,U (hi c),U (lo c)],vI w] (vB r):=by
 unfold Ga at a
 refine Aq follows func231 Z 13 Z _ fz2 (λf=> ?_)
 refine Ad<|rA Z λh=>rz Z<|Aa λi d=>Ah<|rm 5 [0] Z ?_
 rcases e:(b==w)with _|_
 ·replace a:=iG e a
  refine rz Z<|d _ _ ?_
  cases a
  exact aR eE1
 replace a:=iE e a
 refine r_y Z<|rm 1 [0] Z<|r_y Z<|kB a λj g a=>rc _ (cF dH) (Yq N b c _ g)<|rz Z<|d _ _ ?_
 cases a
 exact aR eE1
def LU(N:Nat)(a:List ((W2)×(List (Int×Int))×(List (Int×Int×Int))×(List (Int×W3×Int×W3×Int))×Int))(i:Int):Option Bool:=ck ((R64 ((a.length:Int) - 1))) ((AA N i 0 ((a.length:Int) - 1)).bind λb=>some b)
theorem Wc(N f i r)(a:LU N f i=some r)(h b)(g:RdN Ae1 h b f):Does prog 236 #[b,vI i] h [] (pV (vB r)):=by
 unfold LU at a
 refine Al follows func236 Z 10 Z _ fz2 (λc=> ?_)
 refine AZ Z<|Ad<|rn 2 Z<|rL (RdN.shp g) Z<|kC a λd a=>rX d Z<|kB a λj e a=>rc _ (cF Fz) (AR N i 0 ((f.length:Int) - 1) _ e)<|rz Z ?_
 cases a
 exact aR eV1
def GB(N:Nat)(c:Ao)(n:Int):Option Int:=(LU N c.2.2.2.2.1 n).bind λd=>if d=true then(Ap N true 5).bind λa=>some a else if n= -1 then(Ap N true 5).bind λb=>some b else(Ap N (n== -2) 5).bind λe=>some e
theorem QQ(N c n r)(a:GB N c n=some r)(l)(k:AB)(s:Aa1 l k c):Does prog 175 #[vA (Ac c k),vI n] l [] (pV (vI r)):=by
 unfold GB at a
 refine Al follows func175 Z 19 Z _ fz2 (λh=> ?_)
 refine Ad<|rA Z λt=>rz Z<|Aa λu b=>Ah<|rm 4 [0] Z<|kB a λm i a=>gV _ (cF nu) (λo w z_=>Wc N c.2.2.2.2.1 n _ i z_.view k.2.2.2.1 (RdN.mono z_.ro_cell s.2.2.2.1))<|rn 1 Z ?_
 rcases d:m with _|_
 ·replace a:=iB d a
  refine rn 4 Z ?_
  rcases e:(n== -1)with _|_
  ·replace a:=iG e a
   refine rn 3 Z<|kB a λv j a=>rc _ (cF Bk) (Az N (n== -2) 5 _ j)<|rz Z<|b _ _ ?_
   cases a
   exact aR eV1
  replace a:=iE e a
  refine rn 3 Z<|kB a λp f a=>rc _ (cF Bk) (Az N true 5 _ f)<|rz Z<|b _ _ ?_
  cases a
  exact aR eV1
 replace a:=ifp d a
 refine rn 7 Z<|kB a λq g a=>rc _ (cF Bk) (Az N true 5 _ g)<|rz Z<|b _ _ ?_
 cases a
 exact aR eV1
def Ij(N:Nat)(_:Int)(f:Int)(c:W3)(g:Int)(h:W3)(i:Int)(n:List (Int×Int×Int))(d:Int)(b:Ao):Option Int:=(JU N f c).bind λv=>(JU N g h).bind λu=>(PC N u).bind λw=>(PD N v w).bind λe=>(Ap N (decide ((n.length:Int)>0)) 4).bind λa=>(Ga N f c d).bind λs=>if s=true then(Ga N g h d).bind λt=>(Ap N t 9).bind λq=>(Ap N (e==((0#64)++(0#64))) 14).bind λr=>(GB N b i).bind λj=>(AI N ([a,q,r,j])).bind λo=>some o else(Ap N false 9).bind λp=>(Ap N (e==((0#64)++(0#64))) 14).bind λm=>(GB N b i).bind λk=>(AI N ([a,p,m,k])).bind λl=>some l
theorem UL(N x n e p f i G j h r)(b:Ij N x n e p f i G j h=some r)(ro)(Q:Nat)(u)(ah:Rd Ad1 ro u G)(X:Blk ro Q [u])(R:Nat)(H:Blk ro R [vI j])(S:Nat)(g:AB)(V:Aa1 ro g h)(I:Blk ro S (GY h g)):Does prog 227 #[vI x,vA #[vI n,U (hi e),U (lo e),vI p,U (hi f),U (lo f),vI i],vP Q 0,vP R 0,vP S 0] ro [] (pV (vI r)):=by
 unfold Ij at b
 refine Al follows func227 Z 42 Z _ fz5 (λal=> ?_)
 refine Ad<|rA Z λb2=>rz Z<|Aa λK3 am=>Ia [] (by decide+kernel) (λhn=>AK)<|rm 2 [0] Z<|kB b λr4 an b=>rc _ (cF WQ) (RJ N n e _ an)<|rm 2 [0] Z<|kB b λr6 ao b=>rc _ (cF WQ) (RJ N p f _ ao)<|kB b λr8 ap b=>rc _ (cF nB) (eC N r6 _ ap)<|kB b λa aj b=>rc _ (cF nC) (eD N r4 r8 _ aj)<|rA Z λJ=>Zz [(J,335, #[U (hi a),U (lo a)]),(b2,259, #[vI n,U (hi e),U (lo e),vI p,U (hi f),U (lo f),vI i])] 0 _ _ _ (#[U (0#64),U (0#64)]) (#[U (hi a),U (lo a)]) (#[U (hi a),U (lo a)]) Z Z Z Z Z (.of Z Z) Z Z<|Ak<|am _ _ ?_
 refine Aa λbf W=> ?_
 refine BB [(some 39,false),(some 40,false),(some 41,false)] (conG prog [(39,cV (GB N h i) λt=>vI t),(41,λ_ _ v_ L_ U_=>(∀t,Ap N (decide ((G.length:Int)>0)) 4=some t-> ∀K,Ga N n e j=some K->(if K=true then(1:Nat)else 0)=0-> ∀L,Ap N false 9=some L-> ∀M,Ap N (a==((0#64)++(0#64))) 14=some M-> ∀O,GB N h i=some O-> ∀P,AI N ([t,L,M,O])=some P->(pV (vI P)) v_ L_ U_)/\(∀t,Ap N (decide ((G.length:Int)>0)) 4=some t-> ∀K,Ga N n e j=some K->(if K=true then(1:Nat)else 0)=1-> ∀L,Ga N p f j=some L-> ∀M,Ap N L 9=some M-> ∀O,Ap N (a==((0#64)++(0#64))) 14=some O-> ∀P,GB N h i=some P-> ∀ak,AI N ([t,M,O,P])=some ak->(pV (vI ak)) v_ L_ U_))]) [] (by decide+kernel) (λhn=>AK) ?_
 refine HO u (vs:=[u]) (o:=0) Z Z (AT X) Z<|rL (Rd.shp ah) Z<|rn 1 Z<|kB b λF l b=>rc _ (cF Bk) (Az N (decide ((G.length:Int)>0)) 4 _ l)<|rm 2 [1] Z<|HO (vI j) (vs:=[vI j]) (o:=0) Z Z (AT H) Z<|kB b λY m b=>rc _ (cF WP) (ON N n e j _ m)<|rn 1 Z ?_
 rcases v:Y with _|_
 ·replace b:=iB v b
  have d:(if Y=true then(1:Nat)else 0)=0:=(if_neg (Bool.eq_false_iff.1 v))
  refine rn 5 Z<|kB b λaa y b=>rc _ (cF Bk) (Az N false 9 _ y)<|rl (vA #[U (hi a),U (lo a)]) 0<|r_W (vA #[U (0#64),U (0#64)]) Z (Ar Z Z Z Z)<|r_W (vB (a==((0#64)++(0#64)))) Z (WC Z Z mn (by have h_:=λc=>WD (c:=c) a ((0#64)++(0#64));simp only [Br] at h_;exact h_ _))<|kB b λab z b=>rc _ (cF Bk) (Az N (a==((0#64)++(0#64))) 14 _ z)<|HO (vA (Ac h g)) (vs:=(GY h g)) (o:=0) Z Z (AT I) Z<|rm 2 [1] Z<|kB b λac q b=>rg _ (cF WT) (λo w z_=>QQ N h i _ q z_.view g (Aa1.mono z_.ro_cell V)) (GQ q) ?_
  refine Ke (Ls:=[(SL J (hi a) (lo a)),(SM b2 n (hi e) (lo e) p (hi f) (lo f) i)]) 43 BE [F,aa,ab,ac] [vI F,vI aa,vI ab,vI ac] [vI 0,vI 0,vI 0,vI 0] Z Z Z Z Z Z Z (by kernel_rfl) (by kernel_rfl) Z Z Z (λaq ar au=> ?_)
  refine kB b λav A b=>rg _ (cF Fb) (λo w z_=>Cc N ([F,aa,ab,ac]) _ A z_.view aq ((Ax au (Aj (Ls:=[(SL J (hi a) (lo a)),(SM b2 n (hi e) (lo e) p (hi f) (lo f) i),ar]) (k:=2) Z Z)) o w z_)) (λ_ _ v_ L_ U_=>⟨λh_=>h_.1 _ l _ m d _ y _ z _ q _ A,λh_=>⟨by intro _ e_;cases q1 (e_.symm.trans l);intro _ e_;cases q1 (e_.symm.trans m);intro e_;first|(cases(e_.symm.trans d);done)|(cases(e_.symm.trans d);intro _ e_;cases q1 (e_.symm.trans y);intro _ e_;cases q1 (e_.symm.trans z);intro _ e_;cases q1 (e_.symm.trans q);intro _ e_;cases q1 (e_.symm.trans A);exact h_),by intro _ e_;cases q1 (e_.symm.trans l);intro _ e_;cases q1 (e_.symm.trans m);intro e_;first|(cases(e_.symm.trans d);done)|(cases(e_.symm.trans d);intro _ e_;cases q1 (e_.symm.trans B);intro _ e_;cases q1 (e_.symm.trans C);intro _ e_;cases q1 (e_.symm.trans D);intro _ e_;cases q1 (e_.symm.trans s);intro _ e_;cases q1 (e_.symm.trans E);exact h_)⟩⟩) ?_
  refine rz Z<|W _ _ ?_
  refine GS [(7,vI av)] Z (λT=> ?_)
  cases b
  exact aR eV1
 replace b:=ifp v b
 have d:(if Y=true then(1:Nat)else 0)=1:=(if_pos v)
 refine rn 1 Z<|r_y Z<|rm 1 [1] Z<|r_y Z<|HO (vI j) (vs:=[vI j]) (o:=0) Z Z (AT H) Z<|r_y Z<|kB b λaw B b=>rc _ (cF WP) (ON N p f j _ B)<|rn 1 Z<|kB b λad C b=>rc _ (cF Bk) (Az N aw 9 _ C)<|rl (vA #[U (hi a),U (lo a)]) 0<|r_W (vA #[U (0#64),U (0#64)]) Z (Ar Z Z Z Z)<|r_W (vB (a==((0#64)++(0#64)))) Z (WC Z Z mn (by have h_:=λc=>WD (c:=c) a ((0#64)++(0#64));simp only [Br] at h_;exact h_ _))<|kB b λae D b=>rc _ (cF Bk) (Az N (a==((0#64)++(0#64))) 14 _ D)<|HO (vA (Ac h g)) (vs:=(GY h g)) (o:=0) Z Z (AT I) Z<|rm 2 [1] Z<|kB b λaf s b=>rg _ (cF WT) (λo w z_=>QQ N h i _ s z_.view g (Aa1.mono z_.ro_cell V)) (GQ s) ?_
 refine Ke (Ls:=[(SL J (hi a) (lo a)),(SM b2 n (hi e) (lo e) p (hi f) (lo f) i)]) 43 BE [F,ad,ae,af] [vI F,vI ad,vI ae,vI af] [vI 0,vI 0,vI 0,vI 0] Z Z Z Z Z Z Z (by kernel_rfl) (by kernel_rfl) Z Z Z (λax ay az=> ?_)
 refine kB b λba E b=>rg _ (cF Fb) (λo w z_=>Cc N ([F,ad,ae,af]) _ E z_.view ax ((Ax az (Aj (Ls:=[(SL J (hi a) (lo a)),(SM b2 n (hi e) (lo e) p (hi f) (lo f) i),ay]) (k:=2) Z Z)) o w z_)) (λ_ _ v_ L_ U_=>⟨λh_=>h_.2 _ l _ m d _ B _ C _ D _ s _ E,λh_=>⟨by intro _ e_;cases q1 (e_.symm.trans l);intro _ e_;cases q1 (e_.symm.trans m);intro e_;first|(cases(e_.symm.trans d);done)|(cases(e_.symm.trans d);intro _ e_;cases q1 (e_.symm.trans y);intro _ e_;cases q1 (e_.symm.trans z);intro _ e_;cases q1 (e_.symm.trans q);intro _ e_;cases q1 (e_.symm.trans A);exact h_),by intro _ e_;cases q1 (e_.symm.trans l);intro _ e_;cases q1 (e_.symm.trans m);intro e_;first|(cases(e_.symm.trans d);done)|(cases(e_.symm.trans d);intro _ e_;cases q1 (e_.symm.trans B);intro _ e_;cases q1 (e_.symm.trans C);intro _ e_;cases q1 (e_.symm.trans D);intro _ e_;cases q1 (e_.symm.trans s);intro _ e_;cases q1 (e_.symm.trans E);exact h_)⟩⟩) ?_
 refine rz Z<|W _ _ ?_
 refine GS [(7,vI ba)] Z (λT=> ?_)
 cases b
 exact aR eV1
def JG(N:Nat)(b:List (Int×W3×Int×W3×Int))(e:List (Int×Int×Int))(d:Int)(c:Ao):Nat->Int->Option (Int×Int)
  |0,_=>none
  |g+1,a=>if a<(b.length:Int)then ck (0<=a/\a<(b.length:Int)) ((Ij N a ((b[a.toNat]!).1) ((b[a.toNat]!).2.1) ((b[a.toNat]!).2.2.1) ((b[a.toNat]!).2.2.2.1) ((b[a.toNat]!).2.2.2.2) e d c).bind λf=>if(f:Int)≠0 then some (a,f)else ck (R64 (a+1)) ((JG N b e d c g) (a+1)))else some (0,0)
def LZ(N:Nat)(e:List (Int×W3×Int×W3×Int))(d:Int)(c:List (Int×Int×Int))(b:Int)(a:Ao):Option (Int×Int):=if(e.length:Int)>d then some (0,2)else JG N e c b a N 0
theorem ZX(N s x g h e r)(d:LZ N s x g h e=some r)(z A)(u:Rd Af4 z A s)(a:Nat)(i)(p:Rd Ad1 z i g)(k:Blk z a [i])(b:Nat)(m:Blk z b [vI h])(c:Nat)(j:AB)(q:Aa1 z j e)(n:Blk z c (GY e j)):Does prog 172 #[A,vI x,vF 227 #[] #[vP a 0,vP b 0,vP c 0]] z [] (pV (vT #[vI r.1,vI r.2])):=by
 unfold LZ at d
 refine Al follows func172 Z 31 Z _ fz3 (λH=> ?_)
 refine AZ Z<|Aa λQ I=>Ad<|rn 1 Z<|rL (Rd.shp u) Z<|rz Z<|aD d Z (λJ d=> ?_) (λJ d=> ?_)
 ·refine AZ Z ?_
  cases d
  exact aR eV2
 refine Ab<|I _ _ ?_
 refine Aa λR K=>Ad<|rn 1 Z<|rL (Rd.shp u) Z<|rz Z<|Ai<|AH (λtt ll nn=> ∃(y:Nat) (f:Int),(JG N s g h e y f=some r)/\Is [(2,vF 227 #[] #[vP a 0,vP b 0,vP c 0]),(15,A),(16,vI (s.length:Int)),(17,vI f)] [] tt ll/\nn=y+1) (N+1) ?_ ?_
 ·exact⟨N,0,d,Ag Z Z,Z⟩
 clear d;rintro t l _ ⟨y,f,d,⟨⟨T,rfl⟩,rfl⟩,rfl⟩
 rcases y with _|y
 ·exact absurd d (by simp [JG])
 rw [JG] at d
 refine AZ Z<|Aa λL B=>aD d Z (λC d=> ?_) (λC d=> ?_)
 ·refine Ab<|B _ _ ?_
  refine Aa λM D=>Ai<|Ad<|rn 1 Z<|kC d λv d=>rI (Rd.shp u) v Z<|rE (Aw u) v 0 Z<|rA Z λO=>ry [0] Z<|Ad ?_
  refine rm 3 [0] Z<|kB d λP E d=>gV _ (BO (caps:=[vP a 0,vP b 0,vP c 0]) Z nD Z) (λo w z_=>UL N f ((s[f.toNat]!).1) ((s[f.toNat]!).2.1) ((s[f.toNat]!).2.2.1) ((s[f.toNat]!).2.2.2.1) ((s[f.toNat]!).2.2.2.2) g h e _ E z_.view a i (z_.r p) (AT k o w z_) b (AT m o w z_) c j (Aa1.mono z_.ro_cell q) (AT n o w z_))<|rz Z<|AZ Z ?_
  refine aN d Z (λF d=> ?_) (λF d=> ?_)
  ·refine AZ Z ?_
   cases d
   exact aR eV2
  refine Ab<|D _ _ ?_
  refine Ah<|kC d λG d=>rX G Z<|rz Z<|fg _ (Sub.of (suC _ suN)) ?_
  exact⟨y+1,by omega,y,(f+1),d,Ag Z Z,Z⟩
 refine AG<|K _ _ ?_
 refine AZ Z ?_
 cases d
 exact aR eV2
def FW(_:Nat)(n:Int)(a:Int)(b:Int):Option Bool:=if n>=a then some (decide (n<=b))else some false
theorem Pt(N n a b r)(c:FW N n a b=some r):Gives prog 234 #[vI n,vI a,vI b] (vB r):=by
 unfold FW at c
 refine Aq follows func234 Z 15 Z _ fz3 (λf=> ?_)
 refine AZ Z<|Aa λg d=>Ah<|rn 4 Z ?_
 rcases e:(decide (n>=a))with _|_
 ·replace c:=iF e c
  refine rz Z<|d _ _ ?_
  cases c
  exact aR eE1
 replace c:=iD e c
 refine rz Z<|d _ _ ?_
 cases c
 exact aR eE1
def GC(N:Nat)(e:Int×Bool)(a:Bool):Option Int:=(Ap N e.2 5).bind λd=>(Ap N a 7).bind λc=>(AI N ([d,c])).bind λb=>some b
def HQ(N:Nat)(c:Ao)(a:Int)(e:Int)(b:Int):Option Int:=(HE N c a e b).bind λd=>if a=1 then GC N d (b==0)else if a=2 then(AA N e 0 1024).bind λf=>if f=true then(AA N b 1 64).bind λg=>GC N d g else GC N d false else GC N d true
theorem Wn(N c g f e r)(b:HQ N c g f e=some r)(F)(D:AB)(H:Aa1 F D c):DoesI prog 235 #[vA (Ac c D),vA #[vI g,vI f,vI e]] Ho F [] (pV (vI r)):=by
 unfold HQ at b
 refine Be follows func235 Z 38 Z _ fz2 Bi (λu=> ?_)
 refine Ad<|rA Z λI=>rA Z λJ=>rz Z<|Ad<|rm 3 [1,0] Z<|kB b λv x b=>gV _ (cF dv) (λo w z_=>Pu N c g f e _ x z_.view D (Aa1.mono z_.ro_cell H))<|rz Z<|AZ Z<|Cb (λtt ll=> ∃(a:Bool),(GC N v a=some r)/\Is [(6,vB v.2),(7,vB a)] [] tt ll) ?_ ?_
 ·refine AY [0] Z<|Ai<|AZ Z<|aE b Z (λh b=> ?_) (λh b=> ?_)
  ·refine Ah<|ry [0] Z<|fg _ (Sub.of (suC _ (suC _ suN))) ?_
   exact⟨(e==0),b,Ag Z Z⟩
  refine AZ Z<|aE b Z (λi b=> ?_) (λi b=> ?_)
  ·refine Ah<|rm 2 [0] Z<|kB b λy j b=>rc _ (cF Fz) (AR N f 0 1024 _ j)<|rn 1 Z ?_
   rcases d:y with _|_
   ·replace b:=iB d b
    refine rz Z<|fg _ (Sub.of (suC _ (suC _ suN))) ?_
    exact⟨false,b,Ag (by first|rfl|(simp only [d];done)|(simp only [d];rfl)|(simp only [Br];rfl)) Z⟩
   replace b:=ifp d b
   refine rn 1 Z<|r_y Z<|rm 1 [0] Z<|r_y Z<|kB b λz m b=>rc _ (cF Fz) (AR N e 1 64 _ m)<|rz Z<|fg _ (Sub.of (suC _ (suC _ suN))) ?_
   exact⟨z,b,Ag (by first|rfl|(simp only [d];done)|(simp only [d];rfl)|(simp only [Br];rfl)) Z⟩
  refine Ab<|fg _ (Sub.of (suC _ (suC _ suN))) ?_
  exact⟨true,b,Ag Z Z⟩
 clear b;rintro t l ⟨a,b,⟨T,rfl⟩,rfl⟩
 unfold GC at b
 refine Ad<|rn 1 Z<|kB b λE n b=>rc _ (cF Bk) (Az N v.2 5 _ n)<|rn 1 Z<|kB b λp q b=>rc _ (cF Bk) (Az N a 7 _ q)<|gB (Ls:=[]) 43 BE [E,p] (λA B C=> ?_)
 refine kB b λG s b=>gV _ (cF Fb) (λo w z_=>(Does.inv (Cc N ([E,p]) _ s z_.view A ((Ax C (Aj (Ls:=[B]) (k:=0) Z Z)) o w z_)) _))<|rz Z ?_
 cases b
 exact aR eV1
def KL(N:Nat)(_:Int)(a:Int)(e:Int)(c:Int)(b:Int)(f:Ao):Option Int:=ck (R64 (b - 1)) ((FW N a 0 (b - 1)).bind λh=>(Ap N h 10).bind λi=>(HQ N f a e c).bind λg=>(AI N ([i,g])).bind λd=>some d)
theorem ag(N x a d e g b r)(h:KL N x a d e g b=some r)(A)(l:Nat)(n:Blk A l [vI g])(m:Nat)(c:AB)(t:Aa1 A c b)(p:Blk A m (GY b c)):DoesI prog 233 #[vI x,vA #[vI a,vI d,vI e],vP l 0,vP m 0] Ho A [] (pV (vI r)):=by
 unfold KL at h
 refine Be follows func233 Z 18 Z _ fz4 Bi (λz=> ?_)
 refine Ad<|rA Z λI=>rz Z<|Aa λL B=>BB [(some 15,false),(some 16,false),(some 17,false)] (conG prog [(15,cV (HQ N b a d e) λj=>vI j),(17,λ_ _ v_ L_ U_=> ∀j,FW N a 0 (g - 1)=some j-> ∀u,Ap N j 10=some u-> ∀v,HQ N b a d e=some v-> ∀y,AI N ([u,v])=some y->(pV (vI y)) v_ L_ U_)]) [] (by decide+kernel) (λM=>AK)<|rm 2 [0] Z ?_
 refine HO (vI g) (vs:=[vI g]) (o:=0) Z Z (AT n) Z<|kC h λC h=>rX C Z<|kB h λJ q h=>rc _ (cF ny) (Pt N a 0 (g - 1) _ q)<|kB h λD s h=>rc _ (cF Bk) (Az N J 10 _ s)<|HO (vA (Ac b c)) (vs:=(GY b c)) (o:=0) Z Z (AT p) Z<|rm 1 [0] Z<|kB h λE f h=>rg _ (cF nv) (λo w z_=>Wn N b a d e _ f z_.view c (Aa1.mono z_.ro_cell t)) (GQ f) ?_
 refine Ke (Ls:=[(cg I a d e)]) 43 BE [D,E] [vI D,vI E] [vI 0,vI 0] Z Z Z Z Z Z Z (by kernel_rfl) (by kernel_rfl) Z Z Z (λF G H=> ?_)
 refine kB h λK i h=>rg _ (cF Fb) (λo w z_=>(Does.inv (Cc N ([D,E]) _ i z_.view F ((Ax H (Aj (Ls:=[(cg I a d e),G]) (k:=1) Z Z)) o w z_)) _)) (λ_ _ v_ L_ U_=>⟨λh_=>h_ _ q _ s _ f _ i,λh_=>by intro _ e_;cases q1 (e_.symm.trans q);intro _ e_;cases q1 (e_.symm.trans s);intro _ e_;cases q1 (e_.symm.trans f);intro _ e_;cases q1 (e_.symm.trans i);exact h_⟩) ?_
 refine rz Z<|B _ _ ?_
 cases h
 exact aR eV1
def KG(N:Nat)(d:List (Int×Int×Int))(c:Int)(b:Ao):Nat->Int->Option (Int×Int)
  |0,_=>none
  |f+1,a=>if a<(d.length:Int)then ck (0<=a/\a<(d.length:Int)) ((KL N a ((d[a.toNat]!).1) ((d[a.toNat]!).2.1) ((d[a.toNat]!).2.2) c b).bind λe=>if(e:Int)≠0 then some (a,e)else ck (R64 (a+1)) ((KG N d c b f) (a+1)))else some (0,0)
def OC(N:Nat)(d:List (Int×Int×Int))(c:Int)(a:Int)(b:Ao):Option (Int×Int):=if(d.length:Int)>c then some (0,2)else KG N d a b N 0
theorem cH(N q n e d r)(c:OC N q n e d=some r)(B s)(k:Rd Ad1 B s q)(a:Nat)(h:Blk B a [vI e])(b:Nat)(f:AB)(j:Aa1 B f d)(i:Blk B b (GY d f)):DoesI prog 232 #[s,vI n,vF 233 #[] #[vP a 0,vP b 0]] Ho B [] (pV (vT #[vI r.1,vI r.2])):=by
 unfold OC at c
 refine Be follows func232 Z 31 Z _ fz3 Bi (λC=> ?_)
 refine AZ Z<|Aa λK D=>Ad<|rn 1 Z<|rL (Rd.shp k) Z<|rz Z<|aD c Z (λE c=> ?_) (λE c=> ?_)
 ·refine AZ Z ?_
  cases c
  exact aR eV2
 refine Ab<|D _ _ ?_
 refine Aa λL F=>Ad<|rn 1 Z<|rL (Rd.shp k) Z<|rz Z<|Ai<|AH (λtt ll nn=> ∃(p:Nat) (g:Int),(KG N q e d p g=some r)/\Is [(2,vF 233 #[] #[vP a 0,vP b 0]),(15,s),(16,vI (q.length:Int)),(17,vI g)] [] tt ll/\nn=p+1) (N+1) ?_ ?_
 ·exact⟨N,0,c,Ag Z Z,Z⟩
 clear c;rintro t l _ ⟨p,g,c,⟨⟨T,rfl⟩,rfl⟩,rfl⟩
 rcases p with _|p
 ·exact absurd c (by simp [KG])
 rw [KG] at c
 refine AZ Z<|Aa λG u=>aD c Z (λv c=> ?_) (λv c=> ?_)
 ·refine Ab<|u _ _ ?_
  refine Aa λH x=>Ai<|Ad<|rn 1 Z<|kC c λm c=>rI (Rd.shp k) m Z<|rE (Aw k) m 0 Z<|rA Z λI=>ry [0] Z<|Ad<|rm 3 [0] Z<|kB c λJ y c=>gV _ (BO (caps:=[vP a 0,vP b 0]) Z nz Z) (λo w z_=>ag N g ((q[g.toNat]!).1) ((q[g.toNat]!).2.1) ((q[g.toNat]!).2.2) e d _ y z_.view a (AT h o w z_) b f (Aa1.mono z_.ro_cell j) (AT i o w z_))<|rz Z<|AZ Z<|aN c Z (λz c=> ?_) (λz c=> ?_)
  ·refine AZ Z ?_
   cases c
   exact aR eV2
  refine Ab<|x _ _ ?_
  refine Ah<|kC c λA c=>rX A Z<|rz Z<|fg _ (Sub.of (suC _ suN)) ?_
  exact⟨p+1,by omega,p,(g+1),c,Ag Z Z,Z⟩
 refine AG<|F _ _ ?_
 refine AZ Z ?_
 cases c
 exact aR eV2
def IC(N:Nat)(c:Ao)(b:List (Int×Int×Int))(a:Int):Option Int:=(OC N b 4 a c).bind λg=>(NO N c b).bind λf=>(Ap N f.2 9).bind λe=>(AI N ([g.2,e])).bind λd=>some d
theorem Wm(N c n a r)(b:IC N c n a=some r)(x)(e:AB)(z:Aa1 x e c)(d)(i:Rd Ad1 x d n):DoesI prog 174 #[vA (Ac c e),d,vI a] Ho x [] (pV (vI r)):=by
 unfold IC at b
 refine Be follows func174 Z 29 Z _ fz3 Bi (λj=> ?_)
 refine Ad<|rA Z λl=>rA Z λm=>rz Z<|Ad<|rn 1 Z<|r_W (vF 233 #[] #[vP m 0,vP l 0]) Z (Jc Z)<|kB b λy p b=>gV _ (cF nA) (λo w z_=>cH N n 4 a c _ p z_.view d ((Aw i) o w z_) m (CN 0 Z Z o w z_) l e (Aa1.mono z_.ro_cell z) (CN 1 Z Z o w z_))<|rz Z<|Ad<|rm 3 [1] Z<|kB b λA q b=>gV _ (cF dw) (λo w z_=>VZ N c n _ q z_.view e (Aa1.mono z_.ro_cell z) d ((Aw i) o w z_))<|rz Z<|Ad<|rn 2 Z<|kB b λf g b=>rc _ (cF Bk) (Az N A.2 9 _ g)<|gB (Ls:=[(ci m a),[(l,104,(Ac c e))]]) 43 BE [y.2,f] (λs t u=> ?_)
 refine kB b λv h b=>gV _ (cF Fb) (λo w z_=>(Does.inv (Cc N ([y.2,f]) _ h z_.view s ((Ax u (Aj (Ls:=[(ci m a),[(l,104,(Ac c e))],t]) (k:=2) Z Z)) o w z_)) _))<|rz Z<|GS [(6,vI v)] Z (λT=> ?_)
 cases b
 exact aR eV1
def Jr(N:Nat)(c:Ao)(_:W2)(i:List (Int×Int))(a:List (Int×Int×Int))(g:List (Int×W3×Int×W3×Int))(f:Int):Option Int:=(OD N i 4 c).bind λk=>(IF N c a).bind λj=>(LZ N g 8 a j c).bind λh=>(IC N c a 3).bind λd=>(GB N c f).bind λe=>(AI N ([k.2,d,h.2,e])).bind λb=>some b
theorem ZZ(N c h G j D f r)(l:Jr N c h G j D f=some r)(K)(g:AB)(L:Aa1 K g c)(d)(M:Rd Af3 K d G)(a)(z:Rd Ad1 K a j)(b)(O:Rd Af4 K b D):DoesI prog 107 #[vA (Ac c g),vA #[vS h,d,a,b,vI f]] Ho K [] (pV (vI r)):=by
 unfold Jr at l
 refine Be follows func107 Z 39 Z _ fz2 Bi (λP=> ?_)
 refine Ad<|rA Z λA=>rA Z λs=>rz Z<|Ad<|rm 3 [0,1] Z<|r_W (vF 171 #[vA (Ac c g)] #[]) Z (Jv Z Z)<|kB l λQ S l=>gV _ (cF oF) (λo w z_=>(Does.inv (cI N G 4 c _ S z_.view d (z_.r M) g (Aa1.mono z_.ro_cell L)) _))<|rz Z<|Aa λK7 U=> ?_
 refine bk (Ls:=[(JA s h d a b f),[(A,104,(Ac c g))]]) [(some 23,true),(some 24,false),(some 1000000024,true)] [(23,λ_ _ v_ L_ U_=>(pH ((List.flatten ([]:List (List Bl))).map (·.1)) (λv_ L_ U_=> ∀e,IF N c j=some e->(pO (List.flatten []) (oB 98 #[a] λb_0=>(oB 3 #[vI e] λb_1=>(oB 104 (Ac c g) λb_2=>(oE (vF 227 #[] #[vP b_0 0,vP b_1 0,vP b_2 0]) []))))) v_ L_ U_) v_ L_ U_)),(24,λ_ _ v_ L_ U_=> ∀e,IF N c j=some e-> ∀p,LZ N D 8 j e c=some p->(pV (vT #[vI p.1,vI p.2])) v_ L_ U_)] [] [0,1] [] (by decide+kernel) (λhn=>AK) (by decide+kernel) Z (⟨.inr (λ_ _ _ _ _ h_=>uK (kJ (Ls:=[(JA s h d a b f),[(A,104,(Ac c g))]]) (is:=[]) (js:=[]) Z) h_),⟨.inl Z,trivial⟩⟩) (λhnb_=> ?_)
 refine rn 1 Z<|bM b 0 _ _ _ _ Z Z Z Z Z (hnb_ s (List.mem_of_getElem? (i:=0) Z))<|bM (vA (Ac c g)) 1 _ _ _ _ Z Z Z Z Z (hnb_ A (List.mem_of_getElem? (i:=1) Z))<|rn 1 Z<|bM a 0 _ _ _ _ Z Z Z Z Z (hnb_ s (List.mem_of_getElem? (i:=0) Z))<|kB l λH B l=>jc (Ls:=[(JA s h d a b f),[(A,104,(Ac c g))]]) (FL:=[]) [] _ (some 23) 173 _ Z Z Z Z Z (cF oA) (λo w hn_ z_=>XO N c j _ B _ g (Aa1.mono (LH (Ls:=[(JA s h d a b f),[(A,104,(Ac c g))]]) (is:=[]) Z z_) L) a (Rd.mono (LH (Ls:=[(JA s h d a b f),[(A,104,(Ac c g))]]) (is:=[]) Z z_) z)) (λa_ c_ v_ L_ U_=>uJ (q:=λv_ L_ U_=> ∀e,IF N c j=some e->(pO (List.flatten []) (oB 98 #[a] λb_0=>(oB 3 #[vI e] λb_1=>(oB 104 (Ac c g) λb_2=>(oE (vF 227 #[] #[vP b_0 0,vP b_1 0,vP b_2 0]) []))))) v_ L_ U_) ((GQ B) a_ c_ v_ L_ U_)) (λ_=>(Ac6.sub (R:=[]) (gv λb_0=>(gv λb_1=>(gv λb_2=>(Uk Z)))) (Sub.pick [] [] Z))) ?_
 rintro _ _ ⟨t,_,⟨u,_,⟨v,_,⟨rfl,rfl⟩,rfl⟩,rfl⟩,rfl⟩
 refine Dv (Ls:=[(JA s h d a b f),[(A,104,(Ac c g))],(Rk t a),(TI u H),[(v,104,(Ac c g))]]) (Ls':=[(JA s h d a b f),[(A,104,(Ac c g))],(Rk t a),(TI u H),[(v,104,(Ac c g))]]) [0,1,2,3,4] Z Z<|kB l λC x l=>rg _ (cF oC) (λo w z_=>(Does.inv (ZX N D 8 j H c _ x z_.view b (z_.r O) t a (z_.r z) (CN 2 Z Z o w z_) u (CN 3 Z Z o w z_) v g (Aa1.mono z_.ro_cell L) (CN 4 Z Z o w z_)) _)) (λ_ _ v_ L_ U_=>⟨λh_=>h_ _ B _ x,λh_=>by intro _ e_;cases q1 (e_.symm.trans B);intro _ e_;cases q1 (e_.symm.trans x);exact h_⟩) ?_
 refine rz Z<|U _ _ ?_
 refine Aa λab I=>BB [(some 31,false),(some 36,false),(some 37,false),(some 38,false)] (conG prog [(31,cV (IC N c j 3) λe=>vI e),(36,cV (GB N c f) λe=>vI e),(38,λ_ _ v_ L_ U_=> ∀e,IC N c j 3=some e-> ∀p,GB N c f=some p-> ∀J,AI N ([Q.2,e,C.2,p])=some J->(pV (vI J)) v_ L_ U_)]) [] (by decide+kernel) (λhn=>AK)<|rm 2 [1] Z ?_
 refine rm 2 [0] Z<|kB l λE m l=>rg _ (cF dJ) (λo w z_=>Wm N c j 3 _ m z_.view g (Aa1.mono z_.ro_cell L) a (z_.r z)) (GQ m)<|rm 4 [1,0] Z<|kB l λF n l=>rg _ (cF WT) (λo w z_=>(Does.inv (QQ N c f _ n z_.view g (Aa1.mono z_.ro_cell L)) _)) (GQ n) ?_
 refine Ke (Ls:=[(JA s h d a b f),[(A,104,(Ac c g))],(Rk t a),(TI u H),[(v,104,(Ac c g))]]) 43 BE [Q.2,E,C.2,F] [vI Q.2,vI E,vI C.2,vI F] [vI 0,vI 0,vI 0,vI 0] Z Z Z Z Z Z Z (by kernel_rfl) (by kernel_rfl) Z Z Z (λV W X=> ?_)
 refine kB l λY y l=>rg _ (cF Fb) (λo w z_=>(Does.inv (Cc N ([Q.2,E,C.2,F]) _ y z_.view V ((Ax X (Aj (Ls:=[(JA s h d a b f),[(A,104,(Ac c g))],(Rk t a),(TI u H),[(v,104,(Ac c g))],W]) (k:=5) Z Z)) o w z_)) _)) (λ_ _ v_ L_ U_=>⟨λh_=>h_ _ m _ n _ y,λh_=>by intro _ e_;cases q1 (e_.symm.trans m);intro _ e_;cases q1 (e_.symm.trans n);intro _ e_;cases q1 (e_.symm.trans y);exact h_⟩) ?_
 refine rz Z<|I _ _ ?_
 refine GS [(4,vI Y)] Z (λT=> ?_)
 cases l
 exact aR eV1
def La(N:Nat)(i:Int)(c:W2)(e:List (Int×Int))(d:List (Int×Int×Int))(h:List (Int×W3×Int×W3×Int))(j:Int)(b:List (W2))(a:Ao):Option Int:=ck (0<=i/\i<(b.length:Int)) ((EZ N (b[i.toNat]!)).bind λl=>(Ap N l 4).bind λm=>(Ba N b i).bind λk=>(Jr N a c e d h j).bind λg=>(AI N ([m,k,g])).bind λf=>some f)
theorem Uy(N i h v x y j g a r)(m:La N i h v x y j g a=some r)(B d)(L:Rd Af3 B d v)(e)(M:Rd Ad1 B e x)(f)(O:Rd Af4 B f y)(z:Nat)(c)(s:Rd Aa3 B c g)(t:Blk B z [c])(A:Nat)(b:AB)(l:Aa1 B b a)(C:Blk B A [vF 107 #[vA (Ac a b)] #[]]):DoesI prog 169 #[vI i,vA #[vS h,d,e,f,vI j],vP z 0,vP A 0] Ho B [] (pV (vI r)):=by
 unfold La at m
 refine Be follows func169 Z 21 Z _ fz4 Bi (λP=> ?_)
 refine Ad<|rA Z λW=>rz Z<|Aa λK3 Q=> ?_
 refine BB [(some 15,false),(some 18,false),(some 19,false),(some 20,false)] (conG prog [(15,cV (Ba N g i) λq=>vI q),(18,cV (Jr N a h v x y j) λq=>vI q),(20,λ_ _ v_ L_ U_=> ∀q,EZ N (g[i.toNat]!)=some q-> ∀G,Ap N q 4=some G-> ∀H,Ba N g i=some H-> ∀I,Jr N a h v x y j=some I-> ∀J,AI N ([G,H,I])=some J->(pV (vI J)) v_ L_ U_)]) [] (by decide+kernel) (λhn=>AK) ?_
 refine HO c (vs:=[c]) (o:=0) Z Z (AT t) Z<|rn 1 Z<|kC m λK m=>rI (Rd.shp s) K Z<|rE (Aw s) K 0 Z<|kB m λX D m=>rc _ (cF Oc) (Mo N (g[i.toNat]!) _ D)<|kB m λR E m=>rc _ (cF Bk) (Az N X 4 _ E)<|HO c (vs:=[c]) (o:=0) Z Z (AT t) Z<|rn 1 Z<|kB m λS n m=>rg _ (cF OI) (λo w z_=>(Does.inv (Iu N g i _ n z_.view c (z_.r s)) _)) (GQ n)<|HO (vF 107 #[vA (Ac a b)] #[]) (vs:=[vF 107 #[vA (Ac a b)] #[]]) (o:=0) Z Z (AT C) Z<|rm 1 [0] Z<|kB m λF p m=>rg _ (QW (bd:=[vA (Ac a b)]) (caps:=[]) Z pC Z) (λo w z_=>ZZ N a h v x y j _ p z_.view b (Aa1.mono z_.ro_cell l) d (z_.r L) e (z_.r M) f (z_.r O)) (GQ p) ?_
 refine Ke (Ls:=[(JA W h d e f j)]) 43 BE [R,S,F] [vI R,vI S,vI F] [vI 0,vI 0,vI 0] Z Z Z Z Z Z Z (by kernel_rfl) (by kernel_rfl) Z Z Z (λT U V=> ?_)
 refine kB m λY u m=>rg _ (cF Fb) (λo w z_=>(Does.inv (Cc N ([R,S,F]) _ u z_.view T ((Ax V (Aj (Ls:=[(JA W h d e f j),U]) (k:=1) Z Z)) o w z_)) _)) (λ_ _ v_ L_ U_=>⟨λh_=>h_ _ D _ E _ n _ p _ u,λh_=>by intro _ e_;cases q1 (e_.symm.trans D);intro _ e_;cases q1 (e_.symm.trans E);intro _ e_;cases q1 (e_.symm.trans n);intro _ e_;cases q1 (e_.symm.trans p);intro _ e_;cases q1 (e_.symm.trans u);exact h_⟩) ?_
 refine rz Z<|Q _ _ ?_
 cases m
 exact aR eV1
def IV(N:Nat)(c:List ((W2)×(List (Int×Int))×(List (Int×Int×Int))×(List (Int×W3×Int×W3×Int))×Int))(d:List (W2))(b:Ao):Nat->Int->Option (Int×Int)
  |0,_=>none
  |f+1,a=>if a<(c.length:Int)then ck (0<=a/\a<(c.length:Int)) ((La N a (c[a.toNat]!.1) (c[a.toNat]!.2.1) (c[a.toNat]!.2.2.1) (c[a.toNat]!.2.2.2.1) (c[a.toNat]!.2.2.2.2) d b).bind λe=>if(e:Int)≠0 then some (a,e)else ck (R64 (a+1)) ((IV N c d b f) (a+1)))else some (0,0)
def MG(N:Nat)(d:List ((W2)×(List (Int×Int))×(List (Int×Int×Int))×(List (Int×W3×Int×W3×Int))×Int))(c:Int)(b:List (W2))(a:Ao):Option (Int×Int):=if(d.length:Int)>c then some (0,2)else IV N d b a N 0
theorem XE(N j A g a r)(f:MG N j A g a=some r)(D C)(u:RdN Ae1 D C j)(d:Nat)(h)(s:Rd Aa3 D h g)(k:Blk D d [h])(e:Nat)(c:AB)(i:Aa1 D c a)(m:Blk D e [vF 107 #[vA (Ac a c)] #[]]):DoesI prog 168 #[C,vI A,vF 169 #[] #[vP d 0,vP e 0]] Ho D [] (pV (vT #[vI r.1,vI r.2])):=by
 unfold MG at f
 refine Be follows func168 Z 31 Z _ fz3 Bi (λL=> ?_)
 refine AZ Z<|Aa λV M=>Ad<|rn 1 Z<|rL (RdN.shp u) Z<|rz Z<|aD f Z (λO f=> ?_) (λO f=> ?_)
 ·refine AZ Z ?_
  cases f
  exact aR eV2
 refine Ab<|M _ _ ?_
 refine Aa λW P=>Ad<|rn 1 Z<|rL (RdN.shp u) Z<|rz Z<|Ai<|AH (λtt ll nn=> ∃(B:Nat) (b:Int),(IV N j g a B b=some r)/\Is [(2,vF 169 #[] #[vP d 0,vP e 0]),(15,C),(16,vI (j.length:Int)),(17,vI b)] [] tt ll/\nn=B+1) (N+1) ?_ ?_
 ·exact⟨N,0,f,Ag Z Z,Z⟩
 clear f;rintro t l _ ⟨B,b,f,⟨⟨T,rfl⟩,rfl⟩,rfl⟩
 rcases B with _|B
 ·exact absurd f (by simp [IV])
 rw [IV] at f
 refine AZ Z<|Aa λR F=>aD f Z (λG f=> ?_) (λG f=> ?_)
 ·refine Ab<|F _ _ ?_
  refine Aa λS H=>Ai<|Ad<|rn 1 Z<|kC f λv f=> ?_
  obtain⟨_,⟨n,p,q,x,y,z,rfl⟩,hat21⟩:=RdN.at (E:=Ae1) u (Dx v)
  refine rI (RdN.shp u) v Z<|Oe (vA #[vS (j[b.toNat]!.1),n,p,q,vI (j[b.toNat]!.2.2.2.2)]) (vs:=[vS (j[b.toNat]!.1),n,p,q,vI (j[b.toNat]!.2.2.2.2)]) (b.toNat*5) 0 Z Z (λo w z_=>At.mono z_.ro_cell hat21) Z<|rA Z λQ=>rn 1 Z<|r_s (JA Q (j[b.toNat]!.1) n p q (j[b.toNat]!.2.2.2.2)) 0 _ _ _ _ _ (#[vS (j[b.toNat]!.1),n,p,q,vI (j[b.toNat]!.2.2.2.2)]) Z Z Z Z (.ofS Z Z (Ae Z (Ae (Shp.one (Rd.shp x)) (Ae (Shp.one (Rd.shp y)) (Ae (Shp.one (Rd.shp z)) (Ae Z BA)))))) Z Z<|Ak<|Ad<|rm 3 [0] Z<|kB f λU I f=>gV _ (BO (caps:=[vP d 0,vP e 0]) Z oG Z) (λo w z_=>Uy N b (j[b.toNat]!.1) (j[b.toNat]!.2.1) (j[b.toNat]!.2.2.1) (j[b.toNat]!.2.2.2.1) (j[b.toNat]!.2.2.2.2) g a _ I z_.view n (z_.r x) p (z_.r y) q (z_.r z) d h (z_.r s) (AT k o w z_) e c (Aa1.mono z_.ro_cell i) (AT m o w z_))<|rz Z<|Ad ?_
  refine rz Z<|aN f Z (λJ f=> ?_) (λJ f=> ?_)
  ·refine AZ Z ?_
   cases f
   exact aR eV2
  refine Ab<|H _ _ ?_
  refine Ah<|kC f λK f=>rX K Z<|rz Z<|fg _ (Sub.of (suC _ suN)) ?_
  exact⟨B+1,by omega,B,(b+1),f,Ag Z Z,Z⟩
 refine AG<|P _ _ ?_
 refine AZ Z ?_
 cases f
 exact aR eV2
def OP(N:Nat)(d:List ((W2)×(List (Int×Int))×(List (Int×Int×Int))×(List (Int×W3×Int×W3×Int))×Int))(c:Int)(a:Ao):Option (Int×Int):=(OT N d).bind λe=>(MG N d c e a).bind λb=>some (b.1,b.2)
theorem Xv(N n c b r)(f:OP N n c b=some r)(s e)(i:RdN Ae1 s e n)(a:AB)(d:Aa1 s a b):DoesI prog 105 #[e,vI c,vF 106 #[] #[],vF 107 #[vA (Ac b a)] #[]] Ho s [] (pV (vT #[vI r.1,vI r.2])):=by
 unfold OP at f
 refine Be follows func105 Z 20 Z _ fz4 Bi (λj=> ?_)
 refine Ad<|rA Z λg=>rz Z<|Ad<|rn 2 Z<|kB f λu p f=>gS (Ls:=[(VU g (vF 107 #[vA (Ac b a)] #[]))]) (cF oJ) (λo w z_=>(Does.inv (XA N n _ p z_.view e (RdN.mono z_.ro_cell i)) _)) (λl t q=> ?_)
 refine rA Z λm=>r_s (List.flatten [(YM m l),(VU g (vF 107 #[vA (Ac b a)] #[])),t]) 0 _ _ _ _ _ (#[l]) Z Z Z (Gs Z (Sl.shp q)) (.ofS Z Z (Ae (Shp.one (Sl.shp q)) BA)) Z Z<|Ak<|Ad<|rn 2 Z<|r_W (vF 169 #[] #[vP m 0,vP g 0]) Z (Jc Z)<|kB f λv h f=>gV _ (cF oH) (λo w z_=>XE N n c u b _ h z_.view e (RdN.mono z_.ro_cell i) m l ((Ax q (Aj (Ls:=[(YM m l),(VU g (vF 107 #[vA (Ac b a)] #[])),t]) (k:=2) Z Z)) o w z_) (CN 0 Z Z o w z_) g a (Aa1.mono z_.ro_cell d) (CN 1 Z Z o w z_))<|rz Z ?_
 cases f
 exact aR eV2
def IB(N:Nat)(c:Ao):Option (Int×Int):=if(c.2.2.2.2.1.length:Int)=0 then some (0,5)else(OP N c.2.2.2.2.1 16 c).bind λa=>some (a.1,a.2)
theorem XJ(N c r)(a:IB N c=some r)(i)(b:AB)(h:Aa1 i b c):DoesI prog 53 #[vA (Ac c b)] Ho i [] (pV (vT #[vI r.1,vI r.2])):=by
 unfold IB at a
 refine Be follows func53 Z 17 Z _ fz1 Bi (λd=> ?_)
 refine Ad<|rA Z λj=>rz Z<|Aa λk e=>Ad<|rm 3 [0] Z<|rL (RdN.shp h.2.2.2.1) Z<|rz Z<|aE a Z (λf a=> ?_) (λf a=> ?_)
 ·refine AZ Z ?_
  cases a
  exact aR eV2
 refine Ab<|e _ _ ?_
 refine Ad<|rm 4 [0,0] Z<|r_W (vF 107 #[vA (Ac c b)] #[]) Z (Jv Z Z)<|kB a λl g a=>gV _ (cF pE) (λo w z_=>Xv N c.2.2.2.2.1 16 c _ g z_.view b.2.2.2.1 (RdN.mono z_.ro_cell h.2.2.2.1) b (Aa1.mono z_.ro_cell h))<|rz Z ?_
 cases a
 exact aR eV2
def Ms(_:Nat)(a:W2)(_:List Int)(_:List (W1)):Option (W2):=some a
theorem TT(N c d e r)(h:Ms N c d e=some r)(g:Ro)(a:Value)(_hx_1:Rd BE g a d)(b:Value)(_hx_2:Rd Ac8 g b e):Does prog 109 #[vA #[vS c,a,b]] g [] (pV (vS r)):=by
 unfold Ms at h
 refine Al follows func109 Z 5 Z _ fz1 (λf=> ?_)
 refine Ad<|rA Z λi=>rz Z<|AY [0] Z ?_
 cases h
 exact aR eV1
def If(N:Nat)(b:List ((W2)×(List Int)×(List (W1)))):Nat->List (W2)->Int->Option (List (W2))
  |0,_,_=>none
  |e+1,c,a=>if a<(b.length:Int)then ck (0<=a/\a<(b.length:Int)) ((Ms N (b[a.toNat]!.1) (b[a.toNat]!.2.1) (b[a.toNat]!.2.2)).bind λd=>ck (0<=a/\a<(c.length:Int)) (ck (R64 (a+1)) ((If N b e) ((c).set (a.toNat) d) (a+1))))else some c
def NQ(N:Nat)(a:List ((W2)×(List Int)×(List (W1)))):Option (List (W2)):=ck (0<=(a.length:Int)/\(a.length:Int)<=8796093022208) (If N a N ((List.replicate ((a.length:Int)).toNat ([]))) 0)
theorem Wh(N f r)(b:NQ N f=some r)(J s)(i:RdN Ad7 J s f):Does prog 176 #[s,vF 109 #[] #[]] J [] (p1 (λs_=>s_) 9 Aa3 r):=by
 unfold NQ at b
 refine Al follows func176 Z 26 Z _ fz2 (λC=> ?_)
 refine AZ Z<|Ad<|rn 1 Z<|rL (RdN.shp i) Z<|kC b λD b=>cB 10<|Tx (Ls:=[]) 9 Aa3 ([]) (f.length:Int) Z Z Z Z Z Z Z Z Z Z 8796093022208 Z D (λ_ _ _ _ _=>Iff.rfl) (λF I K=> ?_)
 refine rz Z<|Aa λO G=>Ad<|rn 1 Z<|rL (RdN.shp i) Z<|rz Z<|Ai<|Bs _ (Sub.pick [I] [0] Z)<|AH (λtt ll nn=> ∃(p:Nat) (g:List (W2)) (a:Int),(If N f p g a=some r)/\ ∃(c:List Bl),Sl 9 Aa3 F g c/\Is [(1,vF 109 #[] #[]),(5,F),(11,s),(12,vI (f.length:Int)),(13,vI a)] (List.flatten [c]) tt ll/\nn=p+1) (N+1) ?_ ?_
 ·exact⟨N,(List.replicate ((f.length:Int)).toNat ([])),0,b,I,K,Ag Z Z,Z⟩
 clear b;rintro t l _ ⟨p,g,a,b,c,h,⟨⟨T,rfl⟩,rfl⟩,rfl⟩
 rcases p with _|p
 ·exact absurd b (by simp [If])
 rw [If] at b
 refine AZ Z<|Aa λL u=>aD b Z (λv b=> ?_) (λv b=> ?_)
 ·refine Ab<|u _ _ ?_
  refine Aa λM x=>Ai<|Ad<|rn 1 Z<|kC b λj b=> ?_
  obtain⟨_,⟨d,e,k,m,rfl⟩,hat20⟩:=RdN.at (E:=Ad7) i (Dx j)
  refine rI (RdN.shp i) j Z<|Oe (vA #[vS (f[a.toNat]!.1),d,e]) (vs:=[vS (f[a.toNat]!.1),d,e]) (a.toNat*3) 0 Z Z (λo w z_=>At.mono z_.ro_cell hat20) Z<|rA Z λq=>rn 1 Z<|r_s (List.flatten [(TJ q (f[a.toNat]!.1) d e),c]) 0 _ _ _ _ _ (#[vS (f[a.toNat]!.1),d,e]) Z Z Z Z (.ofS Z Z (Ae Z (Ae (Shp.one (Rd.shp k)) (Ae (Shp.one (Rd.shp m)) BA)))) Z Z<|Ak<|Ah<|rm 4 [0] Z<|kB b λy z b=>gV _ (BO (caps:=[]) Z pA Z) (λo w z_=>TT N (f[a.toNat]!.1) (f[a.toNat]!.2.1) (f[a.toNat]!.2.2) _ z z_.view d (z_.r k) e (z_.r m))<|kC b λn b=>rI (Sl.shp h) n Z<|RT (Ls:=[(TJ q (f[a.toNat]!.1) d e),c]) 1 (En:=Aa3) (g[a.toNat]!) y (a.toNat) 0 Z Z Z h (Dx n) Z Z Z (Jp Z) Z (λA H=> ?_)
  refine Ak<|x _ _ ?_
  refine Ah<|kC b λB b=>rX B Z<|rz Z<|fg _ (Sub.pick [(TJ q (f[a.toNat]!.1) d e),A] [1] Z) ?_
  exact⟨p+1,by omega,p,(g).set (a.toNat) y,(a+1),b,A,H,Ag Z Z,Z⟩
 refine AG<|G _ _ ?_
 refine AZ Z ?_
 cases b
 refine Bh (λP=>GZ (v0:=F) h (Dy (Sub.pick [c] [0] Z)) Z (FZ Z))
def Nr(N:Nat)(_:Int)(w:Int):Option Int:=(Iv N w).bind λa=>some a
theorem ak(N x w r)(a:Nr N x w=some r):Gives prog 179 #[vI x,vI w] (vI r):=by
 unfold Nr at a
 refine Aq follows func179 Z 7 Z _ fz2 (λb=> ?_)
 refine AZ Z<|Ad<|rn 1 Z<|kB a λd c a=>rc _ (cF WX) (PU N w _ c)<|rz Z ?_
 cases a
 exact aR eE1
def Kz(N:Nat)(b:List Int):Nat->Int->Option (Int×Int)
  |0,_=>none
  |d+1,a=>if a<(b.length:Int)then ck (0<=a/\a<(b.length:Int)) ((Nr N a (b[a.toNat]!)).bind λc=>if(c:Int)≠0 then some (a,c)else ck (R64 (a+1)) ((Kz N b d) (a+1)))else some (0,0)
def Ou(N:Nat)(b:List Int)(a:Int):Option (Int×Int):=if(b.length:Int)>a then some (0,2)else Kz N b N 0
theorem cu(N o e r)(a:Ou N o e=some r)(v g)(c:Rd BE v g o):Does prog 115 #[g,vI e,vF 179 #[] #[]] v [] (pV (vT #[vI r.1,vI r.2])):=by
 unfold Ou at a
 refine Al follows func115 Z 31 Z _ fz3 (λp=> ?_)
 refine AZ Z<|Aa λz q=>Ad<|rn 1 Z<|rL (Rd.shp c) Z<|rz Z<|aD a Z (λs a=> ?_) (λs a=> ?_)
 ·refine AZ Z ?_
  cases a
  exact aR eV2
 refine Ab<|q _ _ ?_
 refine Aa λA u=>Ad<|rn 1 Z<|rL (Rd.shp c) Z<|rz Z<|Ai<|AH (λtt ll nn=> ∃(f:Nat) (b:Int),(Kz N o f b=some r)/\Is [(2,vF 179 #[] #[]),(15,g),(16,vI (o.length:Int)),(17,vI b)] [] tt ll/\nn=f+1) (N+1) ?_ ?_
 ·exact⟨N,0,a,Ag Z Z,Z⟩
 clear a;rintro t l _ ⟨f,b,a,⟨⟨T,rfl⟩,rfl⟩,rfl⟩
 rcases f with _|f
 ·exact absurd a (by simp [Kz])
 rw [Kz] at a
 refine AZ Z<|Aa λw h=>aD a Z (λi a=> ?_) (λi a=> ?_)
 ·refine Ab<|h _ _ ?_
  refine Aa λx j=>Ai<|Ad<|rn 1 Z<|kC a λd a=>rI (Rd.shp c) d Z<|rE (Aw c) d 0 Z<|rz Z<|Ad<|rn 3 Z<|kB a λy k a=>rc _ (BO (caps:=[]) Z ot Z) (ak N b (o[b.toNat]!) _ k)<|rz Z<|AZ Z<|aN a Z (λm a=> ?_) (λm a=> ?_)
  ·refine AZ Z ?_
   cases a
   exact aR eV2
  refine Ab<|j _ _ ?_
  refine Ah<|kC a λn a=>rX n Z<|rz Z<|fg _ (Sub.of suN) ?_
  exact⟨f+1,by omega,f,(b+1),a,Ag Z Z,Z⟩
 refine AG<|u _ _ ?_
 refine AZ Z ?_
 cases a
 exact aR eV2
def Je(_:Nat)(n:Int):Option (Int×Int):=ck (R64 (n - 1)) (some (0,(n - 1)))
theorem KN(N n r)(a:Je N n=some r):Gives prog 207 #[vI n] (vA #[vI r.1,vI r.2]):=by
 unfold Je at a
 refine Aq follows func207 Z 6 Z _ fz1 (λb=> ?_)
 refine Ad<|rA Z λe=>Ak<|Ad<|rn 1 Z<|kC a λc a=>rX c Z<|r_W (vA #[vI 0,vI (n - 1)]) Z (Ar Z Z Z Z)<|ry [0] Z ?_
 cases a
 refine Bh (λd=>Eu (v0:=vA #[vI 0,vI (n - 1)]) Z (FZ (AW d 0 Z Z Z)))
def NZ(N:Nat)(c:Int)(b:Bool):Option (Int×Int×Int×Int):=if b=true then some (0,64,0,0)else if c=33 then(Je N 32).bind λa=>some (a.1,a.2,0,64)else some (0,0,0,0)
def Oa(N:Nat)(a:Int)(c:Bool):Option (Int×Int×Int×Int):=if c=true then(Je N 16).bind λb=>some (b.1,b.2,1,4)else if a=31 then NZ N a (a==31)else NZ N a (a==32)
def Ob(N:Nat)(a:Int)(d:Int)(c:Bool):Option (Int×Int×Int×Int):=if c=true then some (0,128,0,0)else if a=10 then(Je N 128).bind λb=>some (b.1,b.2,0,d)else if a=11 then some (1,128,0,0)else if a=27 then Oa N a (a==27)else Oa N a (a==28)
def Mv(N:Nat)(a:Int)(c:Int)(d:Bool):Option (Int×Int×Int×Int):=if d=true then(Je N 8).bind λb=>some (b.1,b.2,0,0)else if a=8 then Ob N a c (a==8)else Ob N a c (a==9)
def NB(N:Nat)(a:Int)(b:Int)(d:Bool):Option (Int×Int×Int×Int):=if d=true then(Je N 32).bind λc=>some (c.1,c.2,0,0)else if a=5 then Mv N a b (a==5)else if a=24 then Mv N a b (a==24)else if a=29 then Mv N a b (a==29)else Mv N a b (a==30)
def Px(N:Nat)(a:Int)(b:Int)(e:Bool):Option (Int×Int×Int×Int):=if e=true then(Je N 24).bind λc=>some (c.1,c.2,0,0)else if a=3 then(Je N 8).bind λd=>some (d.1,d.2,0,0)else if a=4 then NB N a b (a==4)else if a=25 then NB N a b (a==25)else NB N a b (a==26)
def Py(N:Nat)(a:Int)(b:Int)(d:Bool):Option (Int×Int×Int×Int):=if d=true then(Je N 32).bind λe=>(Je N 16).bind λc=>some (e.1,e.2,c.1,c.2)else if a=2 then Px N a b (a==2)else Px N a b (a==23)
def NY(N:Nat)(a:Int)(b:Int)(_:Int)(_:Int)(_:W3):Option (Int×Int×Int×Int):=if a=1 then Py N a b (a==1)else Py N a b (a==22)
theorem mC(N b c g h d r)(a:NY N b c g h d=some r):Gives prog 136 #[vA #[vI b,vI c,vI g,vI h,U (hi d),U (lo d)]] (vT #[vA #[vI r.1,vI r.2.1],vA #[vI r.2.2.1,vI r.2.2.2]]):=by
 unfold NY at a
 refine Aq follows func136 Z 64 Z _ fz1 (λal=> ?_)
 refine Ad<|rA Z λm=>rA Z λj=>rA Z λk=>Ak<|Aa λK5 am=>AY [2] Z<|Ai<|Cb (λtt ll=> ∃(p:Bool),(Py N b c p=some r)/\Is [(1,vP m 0),(2,vP j 0),(3,vP k 0),(5,vI b),(6,vB p)] [(k,235, #[vI 0,vI 0]),(j,235, #[vI 0,vI 0]),(m,53, #[vI b,vI c,vI g,vI h,U (hi d),U (lo d)])] tt ll) ?_ ?_
 ·refine AZ Z<|aE a Z (λw a=> ?_) (λw a=> ?_)
  ·refine Ab<|fg _ (Sub.of (suK _ (suK _ (suK _ suN)))) ?_
   exact⟨(b==1),a,Ag Z Z⟩
  refine Ah<|rz Z<|fg _ (Sub.of (suK _ (suK _ (suK _ suN)))) ?_
  exact⟨(b==22),a,Ag Z Z⟩
 clear a;rintro t l ⟨p,a,⟨T,rfl⟩,rfl⟩
 unfold Py at a
 refine aB a Z (λan a=> ?_) (λan a=> ?_)
 ·refine Ad<|kB a λr9 x a=>rc _ (cF Md) (KN N 32 _ x)<|kB a λy z a=>rc _ (cF Md) (KN N 16 _ z)<|ry [1,0] Z ?_
  cases a
  refine Bh (λe=>Eu (v0:=vT #[vA #[vI r9.1,vI r9.2],vA #[vI y.1,vI y.2]]) Z (LI (AW e 1 Z Z Z) (AW e 0 Z Z Z)))
 refine Cb (λtt ll=> ∃(q:Bool),(Px N b c q=some r)/\Is [(1,vP m 0),(2,vP j 0),(3,vP k 0),(5,vI b),(11,vB q)] [(k,235, #[vI 0,vI 0]),(j,235, #[vI 0,vI 0]),(m,53, #[vI b,vI c,vI g,vI h,U (hi d),U (lo d)])] tt ll) ?_ ?_
 ·refine AZ Z<|aE a Z (λA a=> ?_) (λA a=> ?_)
  ·refine Ab<|fg _ (Sub.of (suK _ (suK _ (suK _ suN)))) ?_
   exact⟨(b==2),a,Ag Z Z⟩
  refine Ah<|rz Z<|fg _ (Sub.of (suK _ (suK _ (suK _ suN)))) ?_
  exact⟨(b==23),a,Ag Z Z⟩
 clear a;rintro t l ⟨q,a,⟨T,rfl⟩,rfl⟩
 unfold Px at a
 refine aB a Z (λB a=> ?_) (λB a=> ?_)
 ·refine Ad<|kB a λC D a=>rc _ (cF Md) (KN N 24 _ D)<|r_W (vA #[vI 0,vI 0]) Z (Ar Z Z Z Z)<|ry [1,0] Z ?_
  cases a
  refine Bh (λe=>Eu (v0:=vT #[vA #[vI C.1,vI C.2],vA #[vI 0,vI 0]]) Z (LI (AW e 1 Z Z Z) (AW e 0 Z Z Z)))
 refine AZ Z<|aE a Z (λE a=> ?_) (λE a=> ?_)
 ·refine Ad<|kB a λF G a=>rc _ (cF Md) (KN N 8 _ G)<|r_W (vA #[vI 0,vI 0]) Z (Ar Z Z Z Z)<|ry [1,0] Z ?_
  cases a
  refine Bh (λe=>Eu (v0:=vT #[vA #[vI F.1,vI F.2],vA #[vI 0,vI 0]]) Z (LI (AW e 1 Z Z Z) (AW e 0 Z Z Z)))
 refine Cb (λtt ll=> ∃(s:Bool),(NB N b c s=some r)/\Is [(1,vP m 0),(2,vP j 0),(3,vP k 0),(5,vI b),(20,vB s)] [(k,235, #[vI 0,vI 0]),(j,235, #[vI 0,vI 0]),(m,53, #[vI b,vI c,vI g,vI h,U (hi d),U (lo d)])] tt ll) ?_ ?_
 ·refine AZ Z<|aE a Z (λH a=> ?_) (λH a=> ?_)
  ·refine Ab<|fg _ (Sub.of (suK _ (suK _ (suK _ suN)))) ?_
   exact⟨(b==4),a,Ag Z Z⟩
  refine AZ Z<|aE a Z (λI a=> ?_) (λI a=> ?_)
  ·refine Ab<|fg _ (Sub.of (suK _ (suK _ (suK _ suN)))) ?_
   exact⟨(b==25),a,Ag Z Z⟩
  refine Ah<|rz Z<|fg _ (Sub.of (suK _ (suK _ (suK _ suN)))) ?_
  exact⟨(b==26),a,Ag Z Z⟩
 clear a;rintro t l ⟨s,a,⟨T,rfl⟩,rfl⟩
 unfold NB at a
 refine aB a Z (λJ a=> ?_) (λJ a=> ?_)
 ·refine Ad<|kB a λK L a=>rc _ (cF Md) (KN N 32 _ L)<|r_W (vA #[vI 0,vI 0]) Z (Ar Z Z Z Z)<|ry [1,0] Z ?_
  cases a
  refine Bh (λe=>Eu (v0:=vT #[vA #[vI K.1,vI K.2],vA #[vI 0,vI 0]]) Z (LI (AW e 1 Z Z Z) (AW e 0 Z Z Z)))
 refine Cb (λtt ll=> ∃(u:Bool),(Mv N b c u=some r)/\Is [(1,vP m 0),(2,vP j 0),(3,vP k 0),(5,vI b),(26,vB u)] [(k,235, #[vI 0,vI 0]),(j,235, #[vI 0,vI 0]),(m,53, #[vI b,vI c,vI g,vI h,U (hi d),U (lo d)])] tt ll) ?_ ?_
 ·refine AZ Z<|aE a Z (λM a=> ?_) (λM a=> ?_)
  ·refine Ab<|fg _ (Sub.of (suK _ (suK _ (suK _ suN)))) ?_
   exact⟨(b==5),a,Ag Z Z⟩
  refine AZ Z<|aE a Z (λO a=> ?_) (λO a=> ?_)
  ·refine Ab<|fg _ (Sub.of (suK _ (suK _ (suK _ suN)))) ?_
   exact⟨(b==24),a,Ag Z Z⟩
  refine AZ Z<|aE a Z (λP a=> ?_) (λP a=> ?_)
  ·refine Ab<|fg _ (Sub.of (suK _ (suK _ (suK _ suN)))) ?_
   exact⟨(b==29),a,Ag Z Z⟩
  refine Ah<|rz Z<|fg _ (Sub.of (suK _ (suK _ (suK _ suN)))) ?_
  exact⟨(b==30),a,Ag Z Z⟩
 clear a;rintro t l ⟨u,a,⟨T,rfl⟩,rfl⟩
 unfold Mv at a
 refine aB a Z (λQ a=> ?_) (λQ a=> ?_)
 ·refine Ad<|kB a λR S a=>rc _ (cF Md) (KN N 8 _ S)<|r_W (vA #[vI 0,vI 0]) Z (Ar Z Z Z Z)<|ry [1,0] Z ?_
  cases a
  refine Bh (λe=>Eu (v0:=vT #[vA #[vI R.1,vI R.2],vA #[vI 0,vI 0]]) Z (LI (AW e 1 Z Z Z) (AW e 0 Z Z Z)))
 refine Cb (λtt ll=> ∃(v:Bool),(Ob N b c v=some r)/\Is [(1,vP m 0),(2,vP j 0),(3,vP k 0),(5,vI b),(33,vB v)] [(k,235, #[vI 0,vI 0]),(j,235, #[vI 0,vI 0]),(m,53, #[vI b,vI c,vI g,vI h,U (hi d),U (lo d)])] tt ll) ?_ ?_
 ·refine AZ Z<|aE a Z (λV a=> ?_) (λV a=> ?_)
  ·refine Ab<|fg _ (Sub.of (suK _ (suK _ (suK _ suN)))) ?_
   exact⟨(b==8),a,Ag Z Z⟩
  refine Ah<|rz Z<|fg _ (Sub.of (suK _ (suK _ (suK _ suN)))) ?_
  exact⟨(b==9),a,Ag Z Z⟩
 clear a;rintro t l ⟨v,a,⟨T,rfl⟩,rfl⟩
 unfold Ob at a
 refine aB a Z (λW a=> ?_) (λW a=> ?_)
 ·refine Ad<|r_W (vA #[vI 0,vI 128]) Z (Ar Z Z Z Z)<|r_W (vA #[vI 0,vI 0]) Z (Ar Z Z Z Z)<|ry [1,0] Z ?_
  cases a
  refine Bh (λe=>Eu (v0:=vT #[vA #[vI 0,vI 128],vA #[vI 0,vI 0]]) Z (LI (AW e 1 Z Z Z) (AW e 0 Z Z Z)))
 refine AZ Z<|aE a Z (λX a=> ?_) (λX a=> ?_)
 ·refine Aa λap Y=>bk (Ls:=[(YL k 0 0),(YL j 0 0),(lG m b c g h (hi d) (lo d))]) [(some 1000000000,true)] [] [1,0] [2] [] (by decide+kernel) (λe=>AK) (by decide+kernel) Z trivial (λhnb_=> ?_)
  refine kB a λf aa a=>rc _ (cF Md) (KN N 128 _ aa)<|rn 1 Z<|bM (vI c) 2 _ _ _ _ Z Z Z Z Z (hnb_ m (List.mem_of_getElem? (i:=0) Z))<|r_W (vA #[vI 0,vI c]) Z (Ar Z Z Z Z)<|qx [(k,235, #[vI 0,vI 0]),(j,235, #[vI f.1,vI f.2]),(m,53, #[vI b,vI c,vI g,vI h,U (hi d),U (lo d)])] 1 _ _ _ (#[vI 0,vI 0]) (#[vI f.1,vI f.2]) (#[vI f.1,vI f.2]) Z Z Z Z (.of Z Z) Z Z (List.mem_of_getElem? (i:=0) Z) ?_
  refine qx [(k,235, #[vI 0,vI c]),(j,235, #[vI f.1,vI f.2]),(m,53, #[vI b,vI c,vI g,vI h,U (hi d),U (lo d)])] 0 _ _ _ (#[vI 0,vI 0]) (#[vI 0,vI c]) (#[vI 0,vI c]) Z Z Z Z (.of Z Z) Z Z (List.mem_of_getElem? (i:=1) Z)<|Ak<|Y _ _ ?_
  cases a
  refine Bh (λe=>Eu (v0:=vT #[vA #[vI f.1,vI f.2],vA #[vI 0,vI c]]) Z (LI (AW e 1 Z Z Z) (AW e 0 Z Z Z)))
 refine AZ Z<|aE a Z (λab a=> ?_) (λab a=> ?_)
 ·refine Ad<|r_W (vA #[vI 1,vI 128]) Z (Ar Z Z Z Z)<|r_W (vA #[vI 0,vI 0]) Z (Ar Z Z Z Z)<|ry [1,0] Z ?_
  cases a
  refine Bh (λe=>Eu (v0:=vT #[vA #[vI 1,vI 128],vA #[vI 0,vI 0]]) Z (LI (AW e 1 Z Z Z) (AW e 0 Z Z Z)))
 refine Cb (λtt ll=> ∃(n:Bool),(Oa N b n=some r)/\Is [(2,vP j 0),(3,vP k 0),(5,vI b),(48,vB n)] [(k,235, #[vI 0,vI 0]),(j,235, #[vI 0,vI 0])] tt ll) ?_ ?_
 ·refine AZ Z<|aE a Z (λac a=> ?_) (λac a=> ?_)
  ·refine Ab<|fg _ (Sub.of (suK _ (suK _ (suC _ suN)))) ?_
   exact⟨(b==27),a,Ag Z Z⟩
  refine Ah<|rz Z<|fg _ (Sub.of (suK _ (suK _ (suC _ suN)))) ?_
  exact⟨(b==28),a,Ag Z Z⟩
 clear a;rintro t l ⟨n,a,⟨T,rfl⟩,rfl⟩
 unfold Oa at a
 refine aB a Z (λad a=> ?_) (λad a=> ?_)
 ·refine Ad<|kB a λae af a=>rc _ (cF Md) (KN N 16 _ af)<|r_W (vA #[vI 1,vI 4]) Z (Ar Z Z Z Z)<|ry [1,0] Z ?_
  cases a
  refine Bh (λe=>Eu (v0:=vT #[vA #[vI ae.1,vI ae.2],vA #[vI 1,vI 4]]) Z (LI (AW e 1 Z Z Z) (AW e 0 Z Z Z)))
 refine Cb (λtt ll=> ∃(o:Bool),(NZ N b o=some r)/\Is [(2,vP j 0),(3,vP k 0),(5,vI b),(53,vB o)] [(k,235, #[vI 0,vI 0]),(j,235, #[vI 0,vI 0])] tt ll) ?_ ?_
 ·refine AZ Z<|aE a Z (λag a=> ?_) (λag a=> ?_)
  ·refine Ab<|fg _ (Sub.of (suK _ (suK _ suN))) ?_
   exact⟨(b==31),a,Ag Z Z⟩
  refine Ah<|rz Z<|fg _ (Sub.of (suK _ (suK _ suN))) ?_
  exact⟨(b==32),a,Ag Z Z⟩
 clear a;rintro t l ⟨o,a,⟨T,rfl⟩,rfl⟩
 unfold NZ at a
 refine aB a Z (λah a=> ?_) (λah a=> ?_)
 ·refine Ad<|r_W (vA #[vI 0,vI 64]) Z (Ar Z Z Z Z)<|r_W (vA #[vI 0,vI 0]) Z (Ar Z Z Z Z)<|ry [1,0] Z ?_
  cases a
  refine Bh (λe=>Eu (v0:=vT #[vA #[vI 0,vI 64],vA #[vI 0,vI 0]]) Z (LI (AW e 1 Z Z Z) (AW e 0 Z Z Z)))
 refine AZ Z<|aE a Z (λai a=> ?_) (λai a=> ?_)
 ·refine Ad<|kB a λaj ak a=>rc _ (cF Md) (KN N 32 _ ak)<|r_W (vA #[vI 0,vI 64]) Z (Ar Z Z Z Z)<|ry [1,0] Z ?_
  cases a
  refine Bh (λe=>Eu (v0:=vT #[vA #[vI aj.1,vI aj.2],vA #[vI 0,vI 64]]) Z (LI (AW e 1 Z Z Z) (AW e 0 Z Z Z)))
 refine Ab<|am _ _ ?_
 refine Ad<|r_W (vA #[vI 0,vI 0]) Z (Ar Z Z Z Z)<|r_W (vA #[vI 0,vI 0]) Z (Ar Z Z Z Z)<|ry [1,0] Z ?_
 cases a
 refine Bh (λe=>Eu (v0:=vT #[vA #[vI 0,vI 0],vA #[vI 0,vI 0]]) Z (LI (AW e 1 Z Z Z) (AW e 0 Z Z Z)))
end Go.Proofs.YtjlomkippigejaaGreatDoor
