import Derived.Test.YtjnanfkpdhmnpaaGreatDoorBg
namespace Go.Proofs.YtjnanfkpdhmnpaaGreatDoor
open Go Go.RowKit Go.Eng _root_.Go.Proofs.Tryz
set_option linter.unusedSimpArgs false
set_option linter.unusedVariables false
set_option maxRecDepth 100000
set_option maxHeartbeats 80000000
abbrev KA(b:Nat)(x0 x1 x2 x3:Int)(x4 x5:W4):Y0 Bl:=[(b,209, #[vI x0,vI x1,vI x2,vI x3,U x4,U x5])]
abbrev iy(b:Nat)(x0:Y2):Y0 Bl:=[(b,85, #[x0])]
abbrev iz(b:Nat)(x0:Y2):Y0 Bl:=[(b,29, #[x0])]
abbrev Rq(b:Nat)(x0:W2)(x1 x2:Y2):Y0 Bl:=[(b,120, #[vS x0,x1,x2])]
abbrev Wr(b:Nat)(x0:Y2):Y0 Bl:=[(b,163, #[x0])]
abbrev cO(b:Nat)(x0:Y2):Y0 Bl:=[(b,101, #[x0])]
def RD(_:Nat)(a:Int):Y1 Y3:=if a>=0 then some (decide (a<35))else some false
theorem nL(N e r)(a:RD N e=some r):Gives prog 267 #[vI e] (vB r):=by
 unfold RD at a
 refine Au follows func267 Z 9 Z _ fz1 (λd=> ?_)
 refine AZ Z<|Aa λf b=>Ah<|rn 3 Z ?_
 rcases c:(decide (e>=0))with _|_
 ·replace a:=iF c a
  refine rz Z<|b _ _ ?_
  cases a
  exact aR eE1
 replace a:=iD c a
 refine rz Z<|b _ _ ?_
 cases a
 exact aR eE1
def JM(_:Nat)(b a n:Int):Y1 Y3:=if n>=b then some (decide (n<=a))else some false
theorem TD(N b e n r)(a:JM N b e n=some r):Gives prog 268 #[vA #[vI b,vI e],vI n] (vB r):=by
 unfold JM at a
 refine Au follows func268 Z 15 Z _ fz2 (λf=> ?_)
 refine Ad<|rA Z λg=>rz Z<|Aa λh c=>Ah<|rm 5 [0] Z ?_
 rcases d:(decide (n>=b))with _|_
 ·replace a:=iF d a
  refine rz Z<|c _ _ ?_
  cases a
  exact aR eE1
 replace a:=iD d a
 refine rn 2 Z<|r_y Z<|ry [0] Z<|c _ _ ?_
 cases a
 exact aR eE1
def Lx(N:Nat)(c _ _ b:Int)(a:W3):Y1 Y3:=if c=0 then(NO N b a).bind λd=>some d else some ((b==0)&&(a==((0#64)++(0#64))))
theorem YM(N e f g b a r)(d:Lx N e f g b a=some r):Gives prog 269 #[vA #[vI e,vI f,vI g,vI b,U (hi a),U (lo a)]] (vB r):=by
 unfold Lx at d
 refine Au follows func269 Z 13 Z _ fz1 (λh=> ?_)
 refine Ad<|rA Z λl=>rz Z<|Aa λm i=>AY [0] Z<|aE d Z (λj d=> ?_) (λj d=> ?_)
 ·refine Ad<|rm 2 [0] Z<|kB d λn k d=>rc _ (cF dX) (YO N b a _ k)<|rz Z ?_
  cases d
  exact aR eE1
 refine Ac<|i _ _ ?_
 refine Ad<|r_V (vP l 3) Z<|rl (vA #[vI b,U (hi a),U (lo a)]) 0<|r_W (vA #[vI 0,U (0#64),U (0#64)]) Z (Ar Z Z Z Z)<|r_W (vB ((b==0)&&(a==((0#64)++(0#64))))) Z (WY Z Z gk (by have h_:=λc=>Xa (c:=c) b 0 a ((0#64)++(0#64));simp only [BB] at h_;exact h_ _)) ?_
 refine rz Z ?_
 cases d
 exact aR eE1
def No(N:Nat)(d c f e:Int)(a:W3)(g:Y3):Y1 Int:=if g=true then some 7 else(Lx N d c f e a).bind λb=>if b=true then some 0 else some 1
def TE(N:Nat)(b a c e:Int)(d:W3):Y1 Int:=(Ou N b a c e d).bind λf=>(RD N b).bind λg=>if g=true then(JM N f.1 f.2.1 a).bind λi=>if i=true then(JM N f.2.2.1 f.2.2.2 c).bind λh=>No N b a c e d (!(h))else No N b a c e d true else some 10
theorem tr(N d e f g c r)(a:TE N d e f g c=some r):Gives prog 251 #[vA #[vI d,vI e,vI f,vI g,U (hi c),U (lo c)]] (vI r):=by
 unfold TE at a
 refine Au follows func251 Z 32 Z _ fz1 (λq=> ?_)
 refine Ad<|rA Z λx=>rz Z<|Ad<|rm 1 [0] Z<|kB a λy s a=>rc _ (cF ol) (nM N d e f g c _ s)<|rn 3 Z<|rA Z λB=>rA Z λC=>ry [1,0] Z<|Aa λD u=>Ai<|Ad<|rm 2 [2] Z<|kB a λz k a=>rc _ (cF oh) (nL N d _ k)<|rz Z<|BS _ Z (λh=> ?_) (λh=> ?_)
 ·replace a:=ifn (Bool.eq_false_iff.1 (DG h)) a
  refine AZ Z ?_
  cases a
  exact aR eE1
 replace a:=ifp (DH h) a
 refine Cs (λtt ll=> ∃(j:Y3),(No N d e f g c j=some r)/\Is [(1,vP x 0),(15,vB j)] (KA x d e f g (hi c) (lo c)) tt ll) ?_ ?_
 ·refine Ah<|rm 3 [1,2] Z<|kB a λv m a=>rc _ (cF dU) (TD N y.1 y.2.1 e _ m)<|rn 2 Z ?_
  rcases b:(!(v))with _|_
  ·replace a:=ifp (DH b) a
   refine r_y Z<|rm 2 [0] Z<|r_y Z<|rm 1 [2] Z<|r_y Z<|kB a λw n a=>rc _ (cF dU) (TD N _ _ f _ n)<|rz Z<|fg _ (Sub.of (suC _ (suC _ (suK _ suN)))) ?_
   exact⟨!(w),a,Ag (by first|rfl|(simp only [b];done)|(simp only [b];rfl)|(simp only [BB];rfl)) Z⟩
  replace a:=ifn (Bool.eq_false_iff.1 (DG b)) a
  refine rz Z<|fg _ (Sub.of (suC _ (suC _ (suK _ suN)))) ?_
  exact⟨true,a,Ag (by first|rfl|(simp only [b];done)|(simp only [b];rfl)|(simp only [BB];rfl)) Z⟩
 clear a;rintro t l ⟨j,a,⟨T,rfl⟩,rfl⟩
 unfold No at a
 refine aB a Z (λo a=> ?_) (λo a=> ?_)
 ·refine AZ Z ?_
  cases a
  exact aR eE1
 refine Ad<|rm 1 [0] Z<|kB a λA p a=>rc _ (cF og) (YM N d e f g c _ p)<|rz Z<|BS _ Z (λi=> ?_) (λi=> ?_)
 ·replace a:=ifn (Bool.eq_false_iff.1 (DG i)) a
  refine AZ Z ?_
  cases a
  exact aR eE1
 replace a:=ifp (DH i) a
 refine Ac<|u _ _ ?_
 refine AZ Z ?_
 cases a
 exact aR eE1
inductive Aa1 where
  |nil
  |t322 (x0:Int) (x1:Int)
  |t324 (x0:Int) (x1:Int)
  |t326 
  |t351 (x0:Int) (x1:Int) (x2:Int)
  |t353 (x0:Int) (x1:Int)
  |t356 (x0:Int) (x1:Int) (x2:Int)
  |t374 (x0:Int) (x1:W3)
  |t375 (x0:Int) (x1:Int)
  |t376 (x0:Int) (x1:Int)
  |t378 (x0:Int) (x1:Int)
  |t380 (x0:Int)
  deriving Inhabited
def Aa1.on{β:Type}(x:Aa1)(a:β)(f e:Int->Int->β)(c:β)(h:Int->Int->Int->β)(b:Int->Int->β)(j:Int->Int->Int->β)(l:Int->(W3)->β)(i d k:Int->Int->β)(g:Int->β):β:=match x with| .nil=>a| .t322 x0 x1=>f x0 x1| .t324 x0 x1=>e x0 x1| .t326  =>c  | .t351 x0 x1 x2=>h x0 x1 x2| .t353 x0 x1=>b x0 x1| .t356 x0 x1 x2=>j x0 x1 x2| .t374 x0 x1=>l x0 x1| .t375 x0 x1=>i x0 x1| .t376 x0 x1=>d x0 x1| .t378 x0 x1=>k x0 x1| .t380 x0=>g x0
theorem Aa1.on_nil{β:Type}{x:Aa1}{a r:β}{b c:Int->Int->β}{d:β}{f:Int->Int->Int->β}{g:Int->Int->β}{i:Int->Int->Int->β}{j:Int->(W3)->β}{k l m:Int->Int->β}{n:Int->β}(h:x= .nil)(e:Aa1.on x a b c d f g i j k l m n=r):a=r:=by subst h;exact e
theorem Aa1.on_t322{β:Type}{x:Aa1}{a r:β}{b c:Int->Int->β}{d:β}{f:Int->Int->Int->β}{g:Int->Int->β}{i:Int->Int->Int->β}{j:Int->(W3)->β}{k l m:Int->Int->β}{n:Int->β}{o p:Int}(h:x= .t322 o p)(e:Aa1.on x a b c d f g i j k l m n=r):b o p=r:=by subst h;exact e
theorem Aa1.on_t324{β:Type}{x:Aa1}{a r:β}{c b:Int->Int->β}{d:β}{f:Int->Int->Int->β}{g:Int->Int->β}{i:Int->Int->Int->β}{j:Int->(W3)->β}{k l m:Int->Int->β}{n:Int->β}{o p:Int}(h:x= .t324 o p)(e:Aa1.on x a c b d f g i j k l m n=r):b o p=r:=by subst h;exact e
theorem Aa1.on_t326{β:Type}{x:Aa1}{a r:β}{c d:Int->Int->β}{b:β}{f:Int->Int->Int->β}{g:Int->Int->β}{i:Int->Int->Int->β}{j:Int->(W3)->β}{k l m:Int->Int->β}{n:Int->β}(h:x= .t326)(e:Aa1.on x a c d b f g i j k l m n=r):b  =r:=by subst h;exact e
theorem Aa1.on_t351{β:Type}{x:Aa1}{a r:β}{c d:Int->Int->β}{f:β}{b:Int->Int->Int->β}{g:Int->Int->β}{i:Int->Int->Int->β}{j:Int->(W3)->β}{k l m:Int->Int->β}{n:Int->β}{o p x2:Int}(h:x= .t351 o p x2)(e:Aa1.on x a c d f b g i j k l m n=r):b o p x2=r:=by subst h;exact e
theorem Aa1.on_t353{β:Type}{x:Aa1}{a r:β}{c d:Int->Int->β}{f:β}{g:Int->Int->Int->β}{b:Int->Int->β}{i:Int->Int->Int->β}{j:Int->(W3)->β}{k l m:Int->Int->β}{n:Int->β}{o p:Int}(h:x= .t353 o p)(e:Aa1.on x a c d f g b i j k l m n=r):b o p=r:=by subst h;exact e
theorem Aa1.on_t356{β:Type}{x:Aa1}{a r:β}{c d:Int->Int->β}{f:β}{g:Int->Int->Int->β}{i:Int->Int->β}{b:Int->Int->Int->β}{j:Int->(W3)->β}{k l m:Int->Int->β}{n:Int->β}{o p x2:Int}(h:x= .t356 o p x2)(e:Aa1.on x a c d f g i b j k l m n=r):b o p x2=r:=by subst h;exact e
theorem Aa1.on_t374{β:Type}{x:Aa1}{a r:β}{c d:Int->Int->β}{f:β}{g:Int->Int->Int->β}{i:Int->Int->β}{j:Int->Int->Int->β}{b:Int->(W3)->β}{k l m:Int->Int->β}{n:Int->β}{o:Int}{p:W3}(h:x= .t374 o p)(e:Aa1.on x a c d f g i j b k l m n=r):b o p=r:=by subst h;exact e
theorem Aa1.on_t375{β:Type}{x:Aa1}{a r:β}{c d:Int->Int->β}{f:β}{g:Int->Int->Int->β}{i:Int->Int->β}{j:Int->Int->Int->β}{k:Int->(W3)->β}{b l m:Int->Int->β}{n:Int->β}{o p:Int}(h:x= .t375 o p)(e:Aa1.on x a c d f g i j k b l m n=r):b o p=r:=by subst h;exact e
theorem Aa1.on_t376{β:Type}{x:Aa1}{a r:β}{c d:Int->Int->β}{f:β}{g:Int->Int->Int->β}{i:Int->Int->β}{j:Int->Int->Int->β}{k:Int->(W3)->β}{l b m:Int->Int->β}{n:Int->β}{o p:Int}(h:x= .t376 o p)(e:Aa1.on x a c d f g i j k l b m n=r):b o p=r:=by subst h;exact e
theorem Aa1.on_t378{β:Type}{x:Aa1}{a r:β}{c d:Int->Int->β}{f:β}{g:Int->Int->Int->β}{i:Int->Int->β}{j:Int->Int->Int->β}{k:Int->(W3)->β}{l m b:Int->Int->β}{n:Int->β}{o p:Int}(h:x= .t378 o p)(e:Aa1.on x a c d f g i j k l m b n=r):b o p=r:=by subst h;exact e
theorem Aa1.on_t380{β:Type}{x:Aa1}{a r:β}{c d:Int->Int->β}{f:β}{g:Int->Int->Int->β}{i:Int->Int->β}{j:Int->Int->Int->β}{k:Int->(W3)->β}{l m n:Int->Int->β}{b:Int->β}{o:Int}(h:x= .t380 o)(e:Aa1.on x a c d f g i j k l m n b=r):b o=r:=by subst h;exact e
def Aa1.onP(x:Aa1)(a:PO)(f e:Int->Int->PO)(c:PO)(h:Int->Int->Int->PO)(b:Int->Int->PO)(j:Int->Int->Int->PO)(l:Int->(W3)->PO)(i d k:Int->Int->PO)(g:Int->PO):PO:=match x with| .nil=>a| .t322 x0 x1=>f x0 x1| .t324 x0 x1=>e x0 x1| .t326  =>c  | .t351 x0 x1 x2=>h x0 x1 x2| .t353 x0 x1=>b x0 x1| .t356 x0 x1 x2=>j x0 x1 x2| .t374 x0 x1=>l x0 x1| .t375 x0 x1=>i x0 x1| .t376 x0 x1=>d x0 x1| .t378 x0 x1=>k x0 x1| .t380 x0=>g x0
theorem Aa1.cases(x:Aa1):x= .nil\/(∃a b,x= .t322 a b)\/(∃a b,x= .t324 a b)\/(x= .t326)\/(∃a b x2,x= .t351 a b x2)\/(∃a b,x= .t353 a b)\/(∃a b x2,x= .t356 a b x2)\/(∃a b,x= .t374 a b)\/(∃a b,x= .t375 a b)\/(∃a b,x= .t376 a b)\/(∃a b,x= .t378 a b)\/(∃a,x= .t380 a):=by cases x<;>simp
def Aa1.v:Aa1->Y2
  | .nil=>V6
  | .t322 a b=>V5 322 (vA #[vI a,vI b])
  | .t324 a b=>V5 324 (vA #[vI a,vI b])
  | .t326  =>V5 326 (vA #[])
  | .t351 a b c=>V5 351 (vA #[vI a,vI b,vI c])
  | .t353 a b=>V5 353 (vA #[vI a,vI b])
  | .t356 a b c=>V5 356 (vA #[vI a,vI b,vI c])
  | .t374 a b=>V5 374 (vA #[vI a,U (hi b),U (lo b)])
  | .t375 a b=>V5 375 (vA #[vI a,vI b])
  | .t376 a b=>V5 376 (vA #[vI a,vI b])
  | .t378 a b=>V5 378 (vA #[vI a,vI b])
  | .t380 a=>V5 380 (vA #[vI a])
theorem Aa1.cells(x:Aa1):(Aa1.v x).cells= #[Aa1.v x]:=by cases x<;>rfl
theorem Aa1.one(x:Aa1):(Aa1.v x).oneCell'=true:=by cases x<;>rfl
def PW:Enc Aa1:=⟨λx=> [Aa1.v x],1,Nat.one_pos,λ_=>Z,λx v h=>by rw [zi] at h;rw [h];exact Aa1.one x,True⟩
def QD(a b d:Int)(c:Y3):Y1 Aa1:=if c=true then some (Aa1.t322 a b)else if a=33 then some (Aa1.t324 b d)else if a=34 then some Aa1.t326 else some (Aa1.t380 a)
def QE(a b c:Int)(d:Y3):Y1 Aa1:=if d=true then some (Aa1.t356 a b c)else if a=31 then QD a b c (a==31)else QD a b c (a==32)
def MN(a b c:Int)(d:Y3):Y1 Aa1:=if d=true then some (Aa1.t376 a b)else if a=10 then some (Aa1.t378 b c)else if a=27 then QE a b c (a==27)else QE a b c (a==28)
def PX(a b c:Int)(d:Y3):Y1 Aa1:=if d=true then some (Aa1.t353 a b)else if a=6 then MN a b c (a==6)else if a=7 then MN a b c (a==7)else if a=8 then MN a b c (a==8)else if a=9 then MN a b c (a==9)else MN a b c (a==11)
def Li(a b c:Int)(d:Y3):Y1 Aa1:=if d=true then some (Aa1.t375 a b)else if a=4 then PX a b c (a==4)else if a=25 then PX a b c (a==25)else PX a b c (a==26)
def RQ(a b c:Int)(d:Y3):Y1 Aa1:=if d=true then some (Aa1.t351 a b c)else if a=2 then Li a b c (a==2)else if a=23 then Li a b c (a==23)else if a=3 then Li a b c (a==3)else if a=5 then Li a b c (a==5)else if a=24 then Li a b c (a==24)else if a=29 then Li a b c (a==29)else Li a b c (a==30)
def RC(_:Nat)(a b c e:Int)(d:W3):Y1 Aa1:=if a=0 then some (Aa1.t374 e d)else if a=1 then RQ a b c (a==1)else RQ a b c (a==22)
theorem nJ(N b c d g e r)(a:RC N b c d g e=some r):Gives prog 252 #[vA #[vI b,vI c,vI d,vI g,U (hi e),U (lo e)]] (Aa1.v r):=by
 unfold RC at a
 refine Au follows func252 Z 102 Z _ fz1 (λP=> ?_)
 refine Ad<|rA Z λf=>rz Z<|Aa λV Q=>AY [0] Z<|Ai<|AZ Z<|aE a Z (λR a=> ?_) (λR a=> ?_)
 ·refine Ad<|r_V (vP f 3) Z<|rl (vA #[vI g,U (hi e),U (lo e)]) 0<|r_W (vA #[vI g,U (hi e),U (lo e)]) Z (Ar Z Z Z Z)<|rz Z ?_
  cases a
  exact aR eE1
 refine Cs (λtt ll=> ∃(i:Y3),(RQ b c d i=some r)/\Is [(1,vP f 0),(4,vI b),(11,vB i)] (KA f b c d g (hi e) (lo e)) tt ll) ?_ ?_
 ·refine AZ Z<|aE a Z (λo a=> ?_) (λo a=> ?_)
  ·refine Ac<|fg _ (Sub.of (suK _ suN)) ?_
   exact⟨(b==1),a,Ag Z Z⟩
  refine Ah<|rz Z<|fg _ (Sub.of (suK _ suN)) ?_
  exact⟨(b==22),a,Ag Z Z⟩
 clear a;rintro t l ⟨i,a,⟨T,rfl⟩,rfl⟩
 unfold RQ at a
 refine aB a Z (λS a=> ?_) (λS a=> ?_)
 ·refine Ad<|r_V (vP f 0) Z<|rl (vI b) 0<|r_V (vP f 1) Z<|rl (vI c) 0<|r_V (vP f 2) Z<|rl (vI d) 0<|r_W (vA #[vI b,vI c,vI d]) Z (Ar Z Z Z Z)<|rz Z ?_
  cases a
  exact aR eE1
 refine Cs (λtt ll=> ∃(j:Y3),(Li b c d j=some r)/\Is [(1,vP f 0),(4,vI b),(22,vB j)] (KA f b c d g (hi e) (lo e)) tt ll) ?_ ?_
 ·refine AZ Z<|aE a Z (λp a=> ?_) (λp a=> ?_)
  ·refine Ac<|fg _ (Sub.of (suK _ suN)) ?_
   exact⟨(b==2),a,Ag Z Z⟩
  refine AZ Z<|aE a Z (λq a=> ?_) (λq a=> ?_)
  ·refine Ac<|fg _ (Sub.of (suK _ suN)) ?_
   exact⟨(b==23),a,Ag Z Z⟩
  refine AZ Z<|aE a Z (λs a=> ?_) (λs a=> ?_)
  ·refine Ac<|fg _ (Sub.of (suK _ suN)) ?_
   exact⟨(b==3),a,Ag Z Z⟩
  refine AZ Z<|aE a Z (λu a=> ?_) (λu a=> ?_)
  ·refine Ac<|fg _ (Sub.of (suK _ suN)) ?_
   exact⟨(b==5),a,Ag Z Z⟩
  refine AZ Z<|aE a Z (λw a=> ?_) (λw a=> ?_)
  ·refine Ac<|fg _ (Sub.of (suK _ suN)) ?_
   exact⟨(b==24),a,Ag Z Z⟩
  refine AZ Z<|aE a Z (λx a=> ?_) (λx a=> ?_)
  ·refine Ac<|fg _ (Sub.of (suK _ suN)) ?_
   exact⟨(b==29),a,Ag Z Z⟩
  refine Ah<|rz Z<|fg _ (Sub.of (suK _ suN)) ?_
  exact⟨(b==30),a,Ag Z Z⟩
 clear a;rintro t l ⟨j,a,⟨T,rfl⟩,rfl⟩
 unfold Li at a
 refine aB a Z (λy a=> ?_) (λy a=> ?_)
 ·refine Ad<|r_V (vP f 0) Z<|rl (vI b) 0<|r_V (vP f 1) Z<|rl (vI c) 0<|r_W (vA #[vI b,vI c]) Z (Ar Z Z Z Z)<|rz Z ?_
  cases a
  exact aR eE1
 refine Cs (λtt ll=> ∃(k:Y3),(PX b c d k=some r)/\Is [(1,vP f 0),(4,vI b),(36,vB k)] (KA f b c d g (hi e) (lo e)) tt ll) ?_ ?_
 ·refine AZ Z<|aE a Z (λz a=> ?_) (λz a=> ?_)
  ·refine Ac<|fg _ (Sub.of (suK _ suN)) ?_
   exact⟨(b==4),a,Ag Z Z⟩
  refine AZ Z<|aE a Z (λA a=> ?_) (λA a=> ?_)
  ·refine Ac<|fg _ (Sub.of (suK _ suN)) ?_
   exact⟨(b==25),a,Ag Z Z⟩
  refine Ah<|rz Z<|fg _ (Sub.of (suK _ suN)) ?_
  exact⟨(b==26),a,Ag Z Z⟩
 clear a;rintro t l ⟨k,a,⟨T,rfl⟩,rfl⟩
 unfold PX at a
 refine aB a Z (λB a=> ?_) (λB a=> ?_)
 ·refine Ad<|r_V (vP f 0) Z<|rl (vI b) 0<|r_V (vP f 1) Z<|rl (vI c) 0<|r_W (vA #[vI b,vI c]) Z (Ar Z Z Z Z)<|rz Z ?_
  cases a
  exact aR eE1
 refine Cs (λtt ll=> ∃(m:Y3),(MN b c d m=some r)/\Is [(1,vP f 0),(4,vI b),(46,vB m)] (KA f b c d g (hi e) (lo e)) tt ll) ?_ ?_
 ·refine AZ Z<|aE a Z (λC a=> ?_) (λC a=> ?_)
  ·refine Ac<|fg _ (Sub.of (suK _ suN)) ?_
   exact⟨(b==6),a,Ag Z Z⟩
  refine AZ Z<|aE a Z (λD a=> ?_) (λD a=> ?_)
  ·refine Ac<|fg _ (Sub.of (suK _ suN)) ?_
   exact⟨(b==7),a,Ag Z Z⟩
  refine AZ Z<|aE a Z (λE a=> ?_) (λE a=> ?_)
  ·refine Ac<|fg _ (Sub.of (suK _ suN)) ?_
   exact⟨(b==8),a,Ag Z Z⟩
  refine AZ Z<|aE a Z (λF a=> ?_) (λF a=> ?_)
  ·refine Ac<|fg _ (Sub.of (suK _ suN)) ?_
   exact⟨(b==9),a,Ag Z Z⟩
  refine Ah<|rz Z<|fg _ (Sub.of (suK _ suN)) ?_
  exact⟨(b==11),a,Ag Z Z⟩
 clear a;rintro t l ⟨m,a,⟨T,rfl⟩,rfl⟩
 unfold MN at a
 refine aB a Z (λG a=> ?_) (λG a=> ?_)
 ·refine Ad<|r_V (vP f 0) Z<|rl (vI b) 0<|r_V (vP f 1) Z<|rl (vI c) 0<|r_W (vA #[vI b,vI c]) Z (Ar Z Z Z Z)<|rz Z ?_
  cases a
  exact aR eE1
 refine AZ Z<|aE a Z (λH a=> ?_) (λH a=> ?_)
 ·refine Ad<|r_V (vP f 1) Z<|rl (vI c) 0<|r_V (vP f 2) Z<|rl (vI d) 0<|r_W (vA #[vI c,vI d]) Z (Ar Z Z Z Z)<|rz Z ?_
  cases a
  exact aR eE1
 refine Cs (λtt ll=> ∃(n:Y3),(QE b c d n=some r)/\Is [(1,vP f 0),(4,vI b),(66,vB n)] (KA f b c d g (hi e) (lo e)) tt ll) ?_ ?_
 ·refine AZ Z<|aE a Z (λI a=> ?_) (λI a=> ?_)
  ·refine Ac<|fg _ (Sub.of (suK _ suN)) ?_
   exact⟨(b==27),a,Ag Z Z⟩
  refine Ah<|rz Z<|fg _ (Sub.of (suK _ suN)) ?_
  exact⟨(b==28),a,Ag Z Z⟩
 clear a;rintro t l ⟨n,a,⟨T,rfl⟩,rfl⟩
 unfold QE at a
 refine aB a Z (λJ a=> ?_) (λJ a=> ?_)
 ·refine Ad<|r_V (vP f 0) Z<|rl (vI b) 0<|r_V (vP f 1) Z<|rl (vI c) 0<|r_V (vP f 2) Z<|rl (vI d) 0<|r_W (vA #[vI b,vI c,vI d]) Z (Ar Z Z Z Z)<|rz Z ?_
  cases a
  exact aR eE1
 refine Cs (λtt ll=> ∃(h:Y3),(QD b c d h=some r)/\Is [(1,vP f 0),(4,vI b),(77,vB h)] (KA f b c d g (hi e) (lo e)) tt ll) ?_ ?_
 ·refine AZ Z<|aE a Z (λK a=> ?_) (λK a=> ?_)
  ·refine Ac<|fg _ (Sub.of (suK _ suN)) ?_
   exact⟨(b==31),a,Ag Z Z⟩
  refine Ah<|rz Z<|fg _ (Sub.of (suK _ suN)) ?_
  exact⟨(b==32),a,Ag Z Z⟩
 clear a;rintro t l ⟨h,a,⟨T,rfl⟩,rfl⟩
 unfold QD at a
 refine aB a Z (λL a=> ?_) (λL a=> ?_)
 ·refine Ad<|r_V (vP f 0) Z<|rl (vI b) 0<|r_V (vP f 1) Z<|rl (vI c) 0<|r_W (vA #[vI b,vI c]) Z (Ar Z Z Z Z)<|rz Z ?_
  cases a
  exact aR eE1
 refine AZ Z<|aE a Z (λM a=> ?_) (λM a=> ?_)
 ·refine Ad<|r_V (vP f 1) Z<|rl (vI c) 0<|r_V (vP f 2) Z<|rl (vI d) 0<|r_W (vA #[vI c,vI d]) Z (Ar Z Z Z Z)<|rz Z ?_
  cases a
  exact aR eE1
 refine AZ Z<|aE a Z (λO a=> ?_) (λO a=> ?_)
 ·refine Ad<|r_W (vA #[]) Z (Ar Z Z Z Z)<|rz Z ?_
  cases a
  exact aR eE1
 refine Ac<|Q _ _ ?_
 refine Ad<|r_V (vP f 0) Z<|rl (vI b) 0<|r_W (vA #[vI b]) Z (Ar Z Z Z Z)<|rz Z ?_
 cases a
 exact aR eE1
def RE(N:Nat)(c b e d:Int)(a:W3):Y1 (Aa1×Int):=(TE N c b e d a).bind λg=>if(g:Int)≠0 then some (Aa1.nil,g)else(RC N c b e d a).bind λf=>some (f,0)
theorem nN(N c d e f a r)(b:RE N c d e f a=some r):Gives prog 229 #[vA #[vI c,vI d,vI e,vI f,U (hi a),U (lo a)]] (vT #[Aa1.v r.1,vI r.2]):=by
 unfold RE at b
 refine Au follows func229 Z 12 Z _ fz1 (λh=> ?_)
 refine Ad<|rA Z λm=>rz Z<|Aa λn i=>Ad<|rm 1 [0] Z<|kB b λo j b=>rc _ (cF oG) (tr N c d e f a _ j)<|rz Z<|AZ Z<|aN b Z (λk b=> ?_) (λk b=> ?_)
 ·refine AZ Z ?_
  cases b
  exact aR eE2
 refine Ac<|i _ _ ?_
 refine Ad<|rm 1 [0] Z<|kB b λl g b=>rc _ (cF oF) (nJ N c d e f a _ g)<|rz Z ?_
 cases b
 exact aR eE2
def Np(N:Nat)(c:Y0 (W1)):Nat->Y0 Aa1->Int->Y1 ((Y0 Aa1)×Int×Int)
  |0,_,_=>none
  |e+1,b,a=>if a<(c.length:Int)then ck (0<=a/\a<(c.length:Int)) (if a=64 then some ([],a,2)else(RE N ((c[a.toNat]!).1) ((c[a.toNat]!).2.1) ((c[a.toNat]!).2.2.1) ((c[a.toNat]!).2.2.2.1) ((c[a.toNat]!).2.2.2.2)).bind λd=>if(d.2:Int)≠0 then some ([],a,d.2)else ck ((b).length+([d.1]).length<=8796093022208) (ck (R64 (a+1)) ((Np N c e) (b++([d.1])) (a+1))))else some (b,(b.length:Int),0)
def RR(N:Nat)(a:Y0 (W1)):Y1 ((Y0 Aa1)×Int×Int):=Np N a N ([]) 0
theorem ja(N e r)(f:RR N e=some r)(K p)(q:Rd Ad5 K p e):Does prog 182 #[p] K [] (p1 (λs_=>vT #[s_,vI r.2.1,vI r.2.2]) 277 PW r.1):=by
 unfold RR at f
 refine Ak follows func182 Z 37 Z _ fz1 (λB=> ?_)
 refine AZ Z<|AZ Z<|Aa λP C=>Ad<|rn 1 Z<|rL (W8 q) Z<|rz Z<|Ai<|BF _ (W6 (Ls:=[[]]) (Ls0:=[]) Z [0] Z)<|AL (λtt ll nn=> ∃(n:Nat) (c:Y0 Aa1) (a:Int),(Np N e n c a=some r)/\ ∃(d:Y2) (b:Y0 Bl),Sl 277 PW d c b/\Is [(5,d),(10,p),(11,vI (e.length:Int)),(12,vI a)] (V2 [b]) tt ll/\nn=n+1) (N+1) ?_ ?_
 ·exact⟨N,[],0,f,nS,[],Sl.nil,Ag Z Z,Z⟩
 clear f;rintro t l _ ⟨n,c,a,f,d,b,g,⟨⟨T,rfl⟩,rfl⟩,rfl⟩
 rcases n with _|n
 ·exact absurd f (by simp [Np])
 rw [Np] at f
 refine AZ Z<|Aa λQ D=>aD f Z (λE f=> ?_) (λE f=> ?_)
 ·refine Ac<|D _ _ ?_
  refine Aa λR F=>Ai<|Ad<|rn 1 Z<|kC f λj f=>rI (W8 q) j Z<|rE (Ay q) j 0 Z<|rA Z λi=>ry [0] Z<|Aa λL s=>AZ Z<|aE f Z (λu f=> ?_) (λu f=> ?_)
  ·refine AZ Z ?_
   cases f
   refine AU (λJ=>Iq (v0:=vT #[nS,vI a,vI 2]) Sl.nil (Sub.nil _) Z (PE Z Z Z))
  refine Ac<|s _ _ ?_
  refine Ad<|rm 1 [0] Z<|kB f λh w f=>rc _ (cF pa) (nN N _ _ _ _ _ _ w)<|rz Z<|Aa λM x=>AZ Z<|aN f Z (λy f=> ?_) (λy f=> ?_)
  ·refine AZ Z ?_
   cases f
   refine AU (λJ=>Iq (v0:=vT #[nS,vI a,vI h.2]) Sl.nil (Sub.nil _) Z (PE Z Z Z))
  refine Ac<|x _ _ ?_
  refine Ah<|rn 2 Z<|cD 31<|KP (cs0:=[]) (Ls:=[(KA i ((e[a.toNat]!).1) ((e[a.toNat]!).2.1) ((e[a.toNat]!).2.2.1) ((e[a.toNat]!).2.2.2.1) (hi ((e[a.toNat]!).2.2.2.2)) (lo ((e[a.toNat]!).2.2.2.2))),b]) 277 PW [h.1] [Aa1.v h.1] [V6] Z Z Z Z Z Z Z (by kernel_rfl) ((Rz _ _ _ _ (FJ (kG (v:=Aa1.v h.1) Z (Aa1.cells h.1)) Qp)).trans (by kernel_rfl)) Z Z Z (λO o G=> ?_)
  refine kC f λm f=>cC 32 ?_
  refine Ln (cs0:=[]) (Ls:=[(KA i ((e[a.toNat]!).1) ((e[a.toNat]!).2.1) ((e[a.toNat]!).2.2.1) ((e[a.toNat]!).2.2.2.1) (hi ((e[a.toNat]!).2.2.2.2)) (lo ((e[a.toNat]!).2.2.2.2))),b,o]) 1 (En:=PW) Z Z Z Z Z g Z (AB G (Al (Ls:=[(KA i ((e[a.toNat]!).1) ((e[a.toNat]!).2.1) ((e[a.toNat]!).2.2.1) ((e[a.toNat]!).2.2.2.1) (hi ((e[a.toNat]!).2.2.2.2)) (lo ((e[a.toNat]!).2.2.2.2))),b,o]) (k:=2) Z Z)) Z Z Z Z Z (LB m Z) (LA m Z) Z (λH z I=> ?_)
  refine rz Z<|F _ _ ?_
  refine Ah<|kC f λA f=>rX A Z<|rz Z<|fg _ (W5 [(KA i ((e[a.toNat]!).1) ((e[a.toNat]!).2.1) ((e[a.toNat]!).2.2.1) ((e[a.toNat]!).2.2.2.1) (hi ((e[a.toNat]!).2.2.2.2)) (lo ((e[a.toNat]!).2.2.2.2))),z,o] [1] Z) ?_
  exact⟨n+1,by omega,n,(c++([h.1])),(a+1),f,H,z,I,Ag Z Z,Z⟩
 refine AM<|C _ _ ?_
 refine Ad<|rn 2 Z<|rL (W7 g) Z<|rz Z ?_
 cases f
 refine AU (λJ=>Iq (v0:=vT #[d,vI (c.length:Int),vI 0]) g (Fu (W5 [b] [0] Z)) Z (PE Z Z Z))
def Tr(N:Nat)(a:Y0 Int)(i:Int):Y1 Y3:=ck ((R64 ((a.length:Int) - 1))) ((AG N i 0 ((a.length:Int) - 1)).bind λb=>some b)
theorem mZ(N g i r)(a:Tr N g i=some r)(h b)(f:Rd Ca h b g):Does prog 245 #[b,vI i] h [] (pV (vB r)):=by
 unfold Tr at a
 refine Ak follows func245 Z 10 Z _ fz2 (λc=> ?_)
 refine AZ Z<|Ad<|rn 2 Z<|rL (W8 f) Z<|kC a λd a=>rX d Z<|kB a λj e a=>rc _ (cF FK) (Ba N i 0 _ _ e)<|rz Z ?_
 cases a
 exact aR eV1
def NJ(N:Nat)(a:Y0 (W2×Int×Int))(i:Int):Y1 Y3:=ck ((R64 ((a.length:Int) - 1))) ((AG N i 0 ((a.length:Int) - 1)).bind λb=>some b)
theorem aO(N g i r)(a:NJ N g i=some r)(h b)(f:Rd Ae2 h b g):Does prog 246 #[b,vI i] h [] (pV (vB r)):=by
 unfold NJ at a
 refine Ak follows func246 Z 10 Z _ fz2 (λc=> ?_)
 refine AZ Z<|Ad<|rn 2 Z<|rL (W8 f) Z<|kC a λd a=>rX d Z<|kB a λj e a=>rc _ (cF FK) (Ba N i 0 _ _ e)<|rz Z ?_
 cases a
 exact aR eV1
def KU(N:Nat)(a:Y0 (W2×Int))(i:Int):Y1 Y3:=ck ((R64 ((a.length:Int) - 1))) ((AG N i 0 ((a.length:Int) - 1)).bind λb=>some b)
theorem Ul(N g i r)(a:KU N g i=some r)(h b)(f:Rd Ae3 h b g):Does prog 247 #[b,vI i] h [] (pV (vB r)):=by
 unfold KU at a
 refine Ak follows func247 Z 10 Z _ fz2 (λc=> ?_)
 refine AZ Z<|Ad<|rn 2 Z<|rL (W8 f) Z<|kC a λd a=>rX d Z<|kB a λj e a=>rc _ (cF FK) (Ba N i 0 _ _ e)<|rz Z ?_
 cases a
 exact aR eV1
def Ms(N:Nat)(a:Y0 (W2×Int×Int×Int))(i:Int):Y1 Y3:=ck ((R64 ((a.length:Int) - 1))) ((AG N i 0 ((a.length:Int) - 1)).bind λb=>some b)
theorem WA(N g i r)(a:Ms N g i=some r)(h b)(f:Rd Ae4 h b g):Does prog 248 #[b,vI i] h [] (pV (vB r)):=by
 unfold Ms at a
 refine Ak follows func248 Z 10 Z _ fz2 (λc=> ?_)
 refine AZ Z<|Ad<|rn 2 Z<|rL (W8 f) Z<|kC a λd a=>rX d Z<|kB a λj e a=>rc _ (cF FK) (Ba N i 0 _ _ e)<|rz Z ?_
 cases a
 exact aR eV1
def Hs(N:Nat)(m:Ao)(a:Int):Y1 Y3:=(Su N m.2.2.1 a).bind λb=>some b.2.2
theorem Pg(N m a r)(b:Hs N m a=some r)(f)(e:AC)(g:Aa2 f e m):Does prog 92 #[vA (Ab m e),vI a] f [] (pV (vB r)):=by
 unfold Hs at b
 refine Ak follows func92 Z 17 Z _ fz2 (λc=> ?_)
 refine Ad<|rA Z λh=>rz Z<|Ad<|rm 3 [0] Z<|kB b λi d b=>gV _ (cF Xr) (λo w z_=>fw N m.2.2.1 a _ d z_.view e.2.1 ((Ay g.2.1) o w z_))<|rz Z<|AZ Z ?_
 cases b
 exact aR eV1
def PT(N:Nat)(m:Ao)(b:Int)(a:Y3):Y1 Y3:=if a=true then(GL N m b).bind λc=>some c.2.2 else some true
def OR(N:Nat)(m:Ao)(a b:Int)(d:Y3):Y1 Y3:=if d=true then(Hs N m b).bind λc=>some c else if a=27 then PT N m b (a==27)else PT N m b (a==28)
def OS(N:Nat)(m:Ao)(a b:Int)(c:Y3):Y1 Y3:=if c=true then(NJ N m.2.2.2.2.2.2.2.2.2.2.2.2.1 b).bind λe=>some e else if a=29 then(KU N m.2.2.2.2.2.2.2.2.2.2.2.2.2.1 b).bind λd=>some d else if a=30 then(Ms N m.2.2.2.2.2.2.2.2.2.2.2.2.2.2.1 b).bind λf=>some f else if a=4 then OR N m a b (a==4)else if a=25 then OR N m a b (a==25)else if a=26 then OR N m a b (a==26)else OR N m a b (a==33)
def OT(N:Nat)(m:Ao)(c:Y0 Int)(a b:Int)(f:Y3):Y1 Y3:=if f=true then(IN N m b).bind λe=>some e.2 else if a=3 then(Tr N c b).bind λd=>some d else if a=5 then OS N m a b (a==5)else OS N m a b (a==24)
def OU(N:Nat)(m:Ao)(b:Y0 Int)(a c d:Int)(e:Y3):Y1 Y3:=if e=true then(Ht N m c d).bind λf=>some f.2 else if a=2 then OT N m b a c (a==2)else OT N m b a c (a==23)
def SH(N:Nat)(m:Ao)(a:Y0 Int)(b c d _:Int)(_:W3):Y1 Y3:=if b=1 then OU N m a b c d (b==1)else OU N m a b c d (b==22)
theorem wL(N m e b c h i f r)(a:SH N m e b c h i f=some r)(ro)(j:AC)(y:Aa2 ro j m)(d)(k:Rd Ca ro d e):DoesI prog 219 #[vA (Ab m j),d,vA #[vI b,vI c,vI h,vI i,U (hi f),U (lo f)]] Gt ro [] (pV (vB r)):=by
 unfold SH at a
 refine Bq follows func219 Z 81 Z _ fz3 Bm (λX=> ?_)
 refine Ad<|rA Z λn=>rA Z λp=>rz Z<|AZ Z<|Aa λK5 g=>AY [0] Z<|Ai<|Cs (λtt ll=> ∃(q:Y3),(OU N m e b c h q=some r)/\Is [(1,d),(3,vP n 0),(5,vP p 0),(7,vB true),(9,vI b),(10,vB q)] [(p,209, #[vI b,vI c,vI h,vI i,U (hi f),U (lo f)]),(n,35,(Ab m j))] tt ll) ?_ ?_
 ·refine AZ Z<|aE a Z (λz a=> ?_) (λz a=> ?_)
  ·refine Ac<|fg _ (Sub.of (suK _ (suK _ suN))) ?_
   exact⟨(b==1),a,Ag Z Z⟩
  refine Ah<|rz Z<|fg _ (Sub.of (suK _ (suK _ suN))) ?_
  exact⟨(b==22),a,Ag Z Z⟩
 clear a;rintro t l ⟨q,a,⟨T,rfl⟩,rfl⟩
 unfold OU at a
 refine aB a Z (λY a=> ?_) (λY a=> ?_)
 ·refine Ah<|rm 5 [1,0,0] Z<|kB a λr8 aa a=>gV _ (cF Xq) (λo w z_=>(V3 (Qx N m c h _ aa z_.view j (Aa2.mono z_.ro_cell y)) _))<|rz Z<|g _ _ ?_
  refine AZ Z ?_
  cases a
  exact aR eV1
 refine Cs (λtt ll=> ∃(s:Y3),(OT N m e b c s=some r)/\Is [(1,d),(3,vP n 0),(5,vP p 0),(7,vB true),(9,vI b),(22,vB s)] [(p,209, #[vI b,vI c,vI h,vI i,U (hi f),U (lo f)]),(n,35,(Ab m j))] tt ll) ?_ ?_
 ·refine AZ Z<|aE a Z (λA a=> ?_) (λA a=> ?_)
  ·refine Ac<|fg _ (Sub.of (suK _ (suK _ suN))) ?_
   exact⟨(b==2),a,Ag Z Z⟩
  refine Ah<|rz Z<|fg _ (Sub.of (suK _ (suK _ suN))) ?_
  exact⟨(b==23),a,Ag Z Z⟩
 clear a;rintro t l ⟨s,a,⟨T,rfl⟩,rfl⟩
 unfold OT at a
 refine aB a Z (λB a=> ?_) (λB a=> ?_)
 ·refine Ah<|rm 3 [1,0] Z<|kB a λac C a=>gV _ (cF dW) (λo w z_=>UG N m c _ C z_.view j (Aa2.mono z_.ro_cell y))<|rz Z<|g _ _ ?_
  refine AZ Z ?_
  cases a
  exact aR eV1
 refine AZ Z<|aE a Z (λD a=> ?_) (λD a=> ?_)
 ·refine Ah<|rm 3 [0] Z<|kB a λad E a=>gV _ (cF oN) (λo w z_=>(V3 (mZ N e c _ E z_.view d (z_.r k)) _))<|rz Z<|g _ _ ?_
  refine AZ Z ?_
  cases a
  exact aR eV1
 refine Cs (λtt ll=> ∃(u:Y3),(OS N m b c u=some r)/\Is [(3,vP n 0),(5,vP p 0),(7,vB true),(9,vI b),(38,vB u)] [(p,209, #[vI b,vI c,vI h,vI i,U (hi f),U (lo f)]),(n,35,(Ab m j))] tt ll) ?_ ?_
 ·refine AZ Z<|aE a Z (λF a=> ?_) (λF a=> ?_)
  ·refine Ac<|fg _ (Sub.of (suK _ (suK _ suN))) ?_
   exact⟨(b==5),a,Ag Z Z⟩
  refine Ah<|rz Z<|fg _ (Sub.of (suK _ (suK _ suN))) ?_
  exact⟨(b==24),a,Ag Z Z⟩
 clear a;rintro t l ⟨u,a,⟨T,rfl⟩,rfl⟩
 unfold OS at a
 refine aB a Z (λG a=> ?_) (λG a=> ?_)
 ·refine Ah<|rm 4 [1,0] Z<|kB a λae H a=>gV _ (cF oM) (λo w z_=>(V3 (aO N _ c _ H z_.view (D8 j).2.2.2.1 ((Ay y.2.2.2.2.2.2.2.2.2.2.2.1) o w z_)) _))<|rz Z<|g _ _ ?_
  refine AZ Z ?_
  cases a
  exact aR eV1
 refine AZ Z<|aE a Z (λI a=> ?_) (λI a=> ?_)
 ·refine Ah<|rm 4 [1,0] Z<|kB a λaf J a=>gV _ (cF oL) (λo w z_=>(V3 (Ul N _ c _ J z_.view (D8 j).2.2.2.2.1 ((Ay y.2.2.2.2.2.2.2.2.2.2.2.2.1) o w z_)) _))<|rz Z<|g _ _ ?_
  refine AZ Z ?_
  cases a
  exact aR eV1
 refine AZ Z<|aE a Z (λK a=> ?_) (λK a=> ?_)
 ·refine Ah<|rm 4 [1,0] Z<|kB a λag L a=>gV _ (cF oK) (λo w z_=>(V3 (WA N _ c _ L z_.view (D8 j).2.2.2.2.2 ((Ay y.2.2.2.2.2.2.2.2.2.2.2.2.2) o w z_)) _))<|rz Z<|g _ _ ?_
  refine AZ Z ?_
  cases a
  exact aR eV1
 refine Cs (λtt ll=> ∃(v:Y3),(OR N m b c v=some r)/\Is [(3,vP n 0),(5,vP p 0),(7,vB true),(9,vI b),(60,vB v)] [(p,209, #[vI b,vI c,vI h,vI i,U (hi f),U (lo f)]),(n,35,(Ab m j))] tt ll) ?_ ?_
 ·refine AZ Z<|aE a Z (λM a=> ?_) (λM a=> ?_)
  ·refine Ac<|fg _ (Sub.of (suK _ (suK _ suN))) ?_
   exact⟨(b==4),a,Ag Z Z⟩
  refine AZ Z<|aE a Z (λO a=> ?_) (λO a=> ?_)
  ·refine Ac<|fg _ (Sub.of (suK _ (suK _ suN))) ?_
   exact⟨(b==25),a,Ag Z Z⟩
  refine AZ Z<|aE a Z (λP a=> ?_) (λP a=> ?_)
  ·refine Ac<|fg _ (Sub.of (suK _ (suK _ suN))) ?_
   exact⟨(b==26),a,Ag Z Z⟩
  refine Ah<|rz Z<|fg _ (Sub.of (suK _ (suK _ suN))) ?_
  exact⟨(b==33),a,Ag Z Z⟩
 clear a;rintro t l ⟨v,a,⟨T,rfl⟩,rfl⟩
 unfold OR at a
 refine aB a Z (λQ a=> ?_) (λQ a=> ?_)
 ·refine Ah<|rm 3 [1,0] Z<|kB a λah R a=>gV _ (cF bu) (λo w z_=>(V3 (Pg N m c _ R z_.view j (Aa2.mono z_.ro_cell y)) _))<|rz Z<|g _ _ ?_
  refine AZ Z ?_
  cases a
  exact aR eV1
 refine Cs (λtt ll=> ∃(x:Y3),(PT N m c x=some r)/\Is [(3,vP n 0),(5,vP p 0),(7,vB true),(69,vB x)] [(p,209, #[vI b,vI c,vI h,vI i,U (hi f),U (lo f)]),(n,35,(Ab m j))] tt ll) ?_ ?_
 ·refine AZ Z<|aE a Z (λS a=> ?_) (λS a=> ?_)
  ·refine Ac<|fg _ (Sub.of (suK _ (suK _ suN))) ?_
   exact⟨(b==27),a,Ag Z Z⟩
  refine Ah<|rz Z<|fg _ (Sub.of (suK _ (suK _ suN))) ?_
  exact⟨(b==28),a,Ag Z Z⟩
 clear a;rintro t l ⟨x,a,⟨T,rfl⟩,rfl⟩
 unfold PT at a
 refine aB a Z (λV a=> ?_) (λV a=> ?_)
 ·refine Ah<|rm 3 [1,0] Z<|kB a λai W a=>gV _ (cF Xn) (λo w z_=>(V3 (Oi N m c _ W z_.view j (Aa2.mono z_.ro_cell y)) _))<|rz Z<|g _ _ ?_
  refine AZ Z ?_
  cases a
  exact aR eV1
 refine Ac<|g _ _ ?_
 refine AZ Z ?_
 cases a
 exact aR eV1
def SN(_:Nat)(s:Aa1):Y1 (Int×Y3):=Aa1.on s (some (0,false)) (λ_ b=>some (b,true)) (λ_ a=>some (a,true)) (some (0,false)) (λ_ _ _=>some (0,false)) (λ_ _=>some (0,false)) (λ_ _ _=>some (0,false)) (λ_ _=>some (0,false)) (λ_ _=>some (0,false)) (λ_ _=>some (0,false)) (λ_ _=>some (0,false)) (λ_=>some (0,false))
theorem gp(N s r)(c:SN N s=some r):Gives prog 263 #[Aa1.v s] (vT #[vI r.1,vB r.2]):=by
 unfold SN at c
 refine Au follows func263 Z 24 Z _ fz1 (λi=> ?_)
 refine AZ Z<|Aa λj e=>Aa λk d=>Ah<|rn 1 Z ?_
 rcases Aa1.cases s with a|⟨x5_0,x6_1,a⟩|⟨x7_0,x8_1,a⟩|a|⟨x9_0,x10_1,x11_2,a⟩|⟨x12_0,x13_1,a⟩|⟨x14_0,x15_1,x16_2,a⟩|⟨x17_0,x18_1,a⟩|⟨x19_0,x20_1,a⟩|⟨x21_0,x22_1,a⟩|⟨x23_0,x24_1,a⟩|⟨x25_0,a⟩
 ·replace c:=Aa1.on_nil a c
  refine r_W (vT #[vA #[vI 0,vI 0],vB false]) Z (AJ (congrArg Aa1.v a) Z) ?_
  refine rn 3 Z<|rA Z λf=>ry [0] Z<|d _ _ ?_
  refine AZ Z<|Ch Z ?_
  refine Ac<|e _ _ ?_
  refine Aa λg b=>Ad<|rn 1 Z<|r_W (vT #[vA #[vI 0,vI 0],vB false]) Z (AJ (congrArg Aa1.v a) Z) ?_
  refine rn 3 Z<|rA Z λh=>ry [0] Z<|AZ Z<|Ch Z ?_
  refine Ac<|b _ _ ?_
  refine AZ Z ?_
  cases c
  exact aR eE2
 ·replace c:=Aa1.on_t322 a c
  refine r_W (vT #[vA #[vI x5_0,vI x6_1],vB true]) Z (AJ (congrArg Aa1.v a) Z) ?_
  refine rn 3 Z<|rA Z λf=>ry [0] Z<|d _ _ ?_
  refine AZ Z<|JO Z ?_
  refine AY [0] Z ?_
  cases c
  exact aR eE2
 ·replace c:=Aa1.on_t324 a c
  refine r_W (vT #[vA #[vI 0,vI 0],vB false]) Z (AJ (congrArg Aa1.v a) Z) ?_
  refine rn 3 Z<|rA Z λf=>ry [0] Z<|d _ _ ?_
  refine AZ Z<|Ch Z ?_
  refine Ac<|e _ _ ?_
  refine Aa λg b=>Ad<|rn 1 Z<|r_W (vT #[vA #[vI x7_0,vI x8_1],vB true]) Z (AJ (congrArg Aa1.v a) Z) ?_
  refine rn 3 Z<|rA Z λh=>ry [0] Z<|AZ Z<|JO Z ?_
  refine AY [0] Z ?_
  cases c
  exact aR eE2
 ·replace c:=Aa1.on_t326 a c
  refine r_W (vT #[vA #[vI 0,vI 0],vB false]) Z (AJ (congrArg Aa1.v a) Z) ?_
  refine rn 3 Z<|rA Z λf=>ry [0] Z<|d _ _ ?_
  refine AZ Z<|Ch Z ?_
  refine Ac<|e _ _ ?_
  refine Aa λg b=>Ad<|rn 1 Z<|r_W (vT #[vA #[vI 0,vI 0],vB false]) Z (AJ (congrArg Aa1.v a) Z) ?_
  refine rn 3 Z<|rA Z λh=>ry [0] Z<|AZ Z<|Ch Z ?_
  refine Ac<|b _ _ ?_
  refine AZ Z ?_
  cases c
  exact aR eE2
 ·replace c:=Aa1.on_t351 a c
  refine r_W (vT #[vA #[vI 0,vI 0],vB false]) Z (AJ (congrArg Aa1.v a) Z) ?_
  refine rn 3 Z<|rA Z λf=>ry [0] Z<|d _ _ ?_
  refine AZ Z<|Ch Z ?_
  refine Ac<|e _ _ ?_
  refine Aa λg b=>Ad<|rn 1 Z<|r_W (vT #[vA #[vI 0,vI 0],vB false]) Z (AJ (congrArg Aa1.v a) Z) ?_
  refine rn 3 Z<|rA Z λh=>ry [0] Z<|AZ Z<|Ch Z ?_
  refine Ac<|b _ _ ?_
  refine AZ Z ?_
  cases c
  exact aR eE2
 ·replace c:=Aa1.on_t353 a c
  refine r_W (vT #[vA #[vI 0,vI 0],vB false]) Z (AJ (congrArg Aa1.v a) Z) ?_
  refine rn 3 Z<|rA Z λf=>ry [0] Z<|d _ _ ?_
  refine AZ Z<|Ch Z ?_
  refine Ac<|e _ _ ?_
  refine Aa λg b=>Ad<|rn 1 Z<|r_W (vT #[vA #[vI 0,vI 0],vB false]) Z (AJ (congrArg Aa1.v a) Z) ?_
  refine rn 3 Z<|rA Z λh=>ry [0] Z<|AZ Z<|Ch Z ?_
  refine Ac<|b _ _ ?_
  refine AZ Z ?_
  cases c
  exact aR eE2
 ·replace c:=Aa1.on_t356 a c
  refine r_W (vT #[vA #[vI 0,vI 0],vB false]) Z (AJ (congrArg Aa1.v a) Z) ?_
  refine rn 3 Z<|rA Z λf=>ry [0] Z<|d _ _ ?_
  refine AZ Z<|Ch Z ?_
  refine Ac<|e _ _ ?_
  refine Aa λg b=>Ad<|rn 1 Z<|r_W (vT #[vA #[vI 0,vI 0],vB false]) Z (AJ (congrArg Aa1.v a) Z) ?_
  refine rn 3 Z<|rA Z λh=>ry [0] Z<|AZ Z<|Ch Z ?_
  refine Ac<|b _ _ ?_
  refine AZ Z ?_
  cases c
  exact aR eE2
 ·replace c:=Aa1.on_t374 a c
  refine r_W (vT #[vA #[vI 0,vI 0],vB false]) Z (AJ (congrArg Aa1.v a) Z) ?_
  refine rn 3 Z<|rA Z λf=>ry [0] Z<|d _ _ ?_
  refine AZ Z<|Ch Z ?_
  refine Ac<|e _ _ ?_
  refine Aa λg b=>Ad<|rn 1 Z<|r_W (vT #[vA #[vI 0,vI 0],vB false]) Z (AJ (congrArg Aa1.v a) Z) ?_
  refine rn 3 Z<|rA Z λh=>ry [0] Z<|AZ Z<|Ch Z ?_
  refine Ac<|b _ _ ?_
  refine AZ Z ?_
  cases c
  exact aR eE2
 ·replace c:=Aa1.on_t375 a c
  refine r_W (vT #[vA #[vI 0,vI 0],vB false]) Z (AJ (congrArg Aa1.v a) Z) ?_
  refine rn 3 Z<|rA Z λf=>ry [0] Z<|d _ _ ?_
  refine AZ Z<|Ch Z ?_
  refine Ac<|e _ _ ?_
  refine Aa λg b=>Ad<|rn 1 Z<|r_W (vT #[vA #[vI 0,vI 0],vB false]) Z (AJ (congrArg Aa1.v a) Z) ?_
  refine rn 3 Z<|rA Z λh=>ry [0] Z<|AZ Z<|Ch Z ?_
  refine Ac<|b _ _ ?_
  refine AZ Z ?_
  cases c
  exact aR eE2
 ·replace c:=Aa1.on_t376 a c
  refine r_W (vT #[vA #[vI 0,vI 0],vB false]) Z (AJ (congrArg Aa1.v a) Z) ?_
  refine rn 3 Z<|rA Z λf=>ry [0] Z<|d _ _ ?_
  refine AZ Z<|Ch Z ?_
  refine Ac<|e _ _ ?_
  refine Aa λg b=>Ad<|rn 1 Z<|r_W (vT #[vA #[vI 0,vI 0],vB false]) Z (AJ (congrArg Aa1.v a) Z) ?_
  refine rn 3 Z<|rA Z λh=>ry [0] Z<|AZ Z<|Ch Z ?_
  refine Ac<|b _ _ ?_
  refine AZ Z ?_
  cases c
  exact aR eE2
 ·replace c:=Aa1.on_t378 a c
  refine r_W (vT #[vA #[vI 0,vI 0],vB false]) Z (AJ (congrArg Aa1.v a) Z) ?_
  refine rn 3 Z<|rA Z λf=>ry [0] Z<|d _ _ ?_
  refine AZ Z<|Ch Z ?_
  refine Ac<|e _ _ ?_
  refine Aa λg b=>Ad<|rn 1 Z<|r_W (vT #[vA #[vI 0,vI 0],vB false]) Z (AJ (congrArg Aa1.v a) Z) ?_
  refine rn 3 Z<|rA Z λh=>ry [0] Z<|AZ Z<|Ch Z ?_
  refine Ac<|b _ _ ?_
  refine AZ Z ?_
  cases c
  exact aR eE2
 replace c:=Aa1.on_t380 a c
 refine r_W (vT #[vA #[vI 0,vI 0],vB false]) Z (AJ (congrArg Aa1.v a) Z) ?_
 refine rn 3 Z<|rA Z λf=>ry [0] Z<|d _ _ ?_
 refine AZ Z<|Ch Z ?_
 refine Ac<|e _ _ ?_
 refine Aa λg b=>Ad<|rn 1 Z<|r_W (vT #[vA #[vI 0,vI 0],vB false]) Z (AJ (congrArg Aa1.v a) Z) ?_
 refine rn 3 Z<|rA Z λh=>ry [0] Z<|AZ Z<|Ch Z ?_
 refine Ac<|b _ _ ?_
 refine AZ Z ?_
 cases c
 exact aR eE2
def QG(N:Nat)(s:Aa1):Y1 (Int×Y3):=(SN N s).bind λa=>some (a.1,a.2)
theorem gr(N s r)(a:QG N s=some r):Gives prog 249 #[Aa1.v s] (vT #[vI r.1,vB r.2]):=by
 unfold QG at a
 refine Au follows func249 Z 8 Z _ fz1 (λb=> ?_)
 refine AZ Z<|Ad<|rn 1 Z<|kB a λd c a=>rc _ (cF oo) (gp N s _ c)<|rz Z ?_
 cases a
 exact aR eE2
def HD(N:Nat)(s:Aa1)(a b:Int):Y1 Y3:=(QG N s).bind λc=>if c.2=true then ck (R64 (a+1)) ((AG N c.1 (a+1) b).bind λd=>some d)else some true
theorem Wv(N s e b r)(a:HD N s e b=some r):Gives prog 220 #[Aa1.v s,vI e,vI b] (vB r):=by
 unfold HD at a
 refine Au follows func220 Z 23 Z _ fz3 (λf=> ?_)
 refine AZ Z<|Ad<|rn 1 Z<|kB a λj g a=>rc _ (cF oJ) (gr N s _ g)<|rz Z<|Aa λk c=>Ah<|rn 3 Z ?_
 rcases d:(!(j.2))with _|_
 ·replace a:=ifp (DH d) a
  refine rn 2 Z<|r_y Z<|kC a λh a=>rX h Z<|rn 1 Z<|r_y Z<|kB a λl i a=>rc _ (cF FK) (Ba N j.1 _ b _ i)<|rz Z<|c _ _ ?_
  cases a
  exact aR eE1
 replace a:=ifn (Bool.eq_false_iff.1 (DG d)) a
 refine rz Z<|c _ _ ?_
 cases a
 exact aR eE1
def Hu(N:Nat)(i:Int)(s:Aa1)(d:Ao)(e:Y0 Int)(a:Y0 (W1)):Y1 Int:=ck (0<=i/\i<(a.length:Int)) ((SH N d e ((a[i.toNat]!).1) ((a[i.toNat]!).2.1) ((a[i.toNat]!).2.2.1) ((a[i.toNat]!).2.2.2.1) ((a[i.toNat]!).2.2.2.2)).bind λh=>(Ap N h 5).bind λg=>(HD N s i (a.length:Int)).bind λf=>(Ap N f 12).bind λc=>(AO N ([g,c])).bind λb=>some b)
theorem Yn(N i s c g a r)(f:Hu N i s c g a=some r)(B)(q:Nat)(d:AC)(C:Aa2 B d c)(x:Blk B q (Hr c d))(t:Nat)(e)(D:Rd Ca B e g)(y:Blk B t [e])(u:Nat)(b)(h:Rd Ad5 B b a)(j:Blk B u [b]):DoesI prog 218 #[vI i,Aa1.v s,vP q 0,vP t 0,vP u 0] Gt B [] (pV (vI r)):=by
 unfold Hu at f
 refine Bq follows func218 Z 24 Z _ fz5 Bm (λK=> ?_)
 refine AZ Z<|Aa λU L=> ?_
 refine BO [(some 14,false),(some 22,false),(some 23,false)] (conG prog [(14,cV (SH N c g ((a[i.toNat]!).1) ((a[i.toNat]!).2.1) ((a[i.toNat]!).2.2.1) ((a[i.toNat]!).2.2.2.1) ((a[i.toNat]!).2.2.2.2)) λn=>vB n),(23,λ_ _ v_ L_ U_=> ∀n,SH N c g ((a[i.toNat]!).1) ((a[i.toNat]!).2.1) ((a[i.toNat]!).2.2.1) ((a[i.toNat]!).2.2.2.1) ((a[i.toNat]!).2.2.2.2)=some n-> ∀E,Ap N n 5=some E-> ∀F,HD N s i (a.length:Int)=some F-> ∀G,Ap N F 12=some G-> ∀H,AO N ([E,G])=some H->(pV (vI H)) v_ L_ U_)]) [] (by decide+kernel) (λV=>AN) ?_
 refine Ii (vA (Ab c d)) (vs:=(Hr c d)) (o:=0) Z Z (Bg x) Z<|Ii e (vs:=[e]) (o:=0) Z Z (Bg y) Z<|Ii b (vs:=[b]) (o:=0) Z Z (Bg j) Z<|rn 1 Z<|kC f λI f=>rI (W8 h) I Z<|rE (Ay h) I 0 Z<|kB f λR p f=>rg _ (cF pk) (λo w z_=>wL N c g _ _ _ _ _ _ p z_.view d (Aa2.mono z_.ro_cell C) e (z_.r D)) (Hq p)<|kB f λQ z f=>rc _ (cF Bw) (AE N R 5 _ z)<|rn 2 Z<|Ii b (vs:=[b]) (o:=0) Z Z (Bg j) Z<|rL (W8 h) Z<|kB f λS A f=>rc _ (cF pj) (Wv N s i _ _ A)<|kB f λJ l f=>rc _ (cF Bw) (AE N S 12 _ l) ?_
 refine KP (Ls:=[]) 51 Ca [Q,J] [vI Q,vI J] [vI 0,vI 0] Z Z Z Z Z Z Z (by kernel_rfl) (by kernel_rfl) Z Z Z (λM O P=> ?_)
 refine kB f λT m f=>rg _ (cF Fo) (λo w z_=>(V3 (Co N _ _ m z_.view M ((AB P (Al (Ls:=[O]) (k:=0) Z Z)) o w z_)) _)) (λ_ _ v_ L_ U_=>⟨λh_=>h_ _ p _ z _ A _ l _ m,λh_=>by intro _ e_;cases q3 (e_.symm.trans p);intro _ e_;cases q3 (e_.symm.trans z);intro _ e_;cases q3 (e_.symm.trans A);intro _ e_;cases q3 (e_.symm.trans l);intro _ e_;cases q3 (e_.symm.trans m);exact h_⟩) ?_
 refine rz Z<|L _ _ ?_
 cases f
 exact aR eV1
def FP(N:Nat)(e:Y0 Aa1)(c:Ao)(d:Y0 Int)(b:Y0 (W1)):Nat->Int->Y1 (Int×Int)
  |0,_=>none
  |g+1,a=>if a<(e.length:Int)then ck (0<=a/\a<(e.length:Int)) ((Hu N a (e[a.toNat]!) c d b).bind λf=>if(f:Int)≠0 then some (a,f)else ck (R64 (a+1)) ((FP N e c d b g) (a+1)))else some (0,0)
def IP(N:Nat)(e:Y0 Aa1)(d:Int)(b:Ao)(c:Y0 Int)(a:Y0 (W1)):Y1 (Int×Int):=if(e.length:Int)>d then some (0,2)else FP N e b c a N 0
theorem Tq(N J y e f g r)(d:IP N J y e f g=some r)(z B)(v:Rd PW z B J)(a:Nat)(h:AC)(q:Aa2 z h e)(k:Blk z a (Hr e h))(b:Nat)(i)(s:Rd Ca z i f)(m:Blk z b [i])(c:Nat)(j)(u:Rd Ad5 z j g)(n:Blk z c [j]):DoesI prog 217 #[B,vI y,vF 218 #[] #[vP a 0,vP b 0,vP c 0]] Gt z [] (pV (vT #[vI r.1,vI r.2])):=by
 unfold IP at d
 refine Bq follows func217 Z 31 Z _ fz3 Bm (λI=> ?_)
 refine AZ Z<|Aa λR K=>Ad<|rn 1 Z<|rL (W8 v) Z<|rz Z<|aD d Z (λL d=> ?_) (λL d=> ?_)
 ·refine AZ Z ?_
  cases d
  exact aR eV2
 refine Ac<|K _ _ ?_
 refine Aa λS M=>Ad<|rn 1 Z<|rL (W8 v) Z<|rz Z<|Ai<|AL (λtt ll nn=> ∃(A:Nat) (p:Int),(FP N J e f g A p=some r)/\Is [(2,vF 218 #[] #[vP a 0,vP b 0,vP c 0]),(15,B),(16,vI (J.length:Int)),(17,vI p)] [] tt ll/\nn=A+1) (N+1) ?_ ?_
 ·exact⟨N,0,d,Ag Z Z,Z⟩
 clear d;rintro t l _ ⟨A,p,d,⟨⟨T,rfl⟩,rfl⟩,rfl⟩
 rcases A with _|A
 ·exact absurd d (by simp [FP])
 rw [FP] at d
 refine AZ Z<|Aa λO C=>aD d Z (λD d=> ?_) (λD d=> ?_)
 ·refine Ac<|C _ _ ?_
  refine Aa λP E=>Ai<|Ad<|rn 1 Z<|kC d λx d=>rI (W8 v) x Z<|rE (Ay v) x 0 Z<|rz Z<|Ad<|rn 3 Z<|kB d λQ F d=>gV _ (Cc (caps:=[vP a 0,vP b 0,vP c 0]) Z pm Z) (λo w z_=>Yn N p _ e f g _ F z_.view a h (Aa2.mono z_.ro_cell q) (Bg k o w z_) b i (z_.r s) (Bg m o w z_) c j (z_.r u) (Bg n o w z_))<|rz Z<|AZ Z<|aN d Z (λG d=> ?_) (λG d=> ?_)
  ·refine AZ Z ?_
   cases d
   exact aR eV2
  refine Ac<|E _ _ ?_
  refine Ah<|kC d λH d=>rX H Z<|rz Z<|fg _ (Sub.of suN) ?_
  exact⟨A+1,by omega,A,(p+1),d,Ag Z Z,Z⟩
 refine AM<|M _ _ ?_
 refine AZ Z ?_
 cases d
 exact aR eV2
def HY(N:Nat)(m:Ao)(a:Y0 Int)(c:Y0 (W1)):Y1 Int:=if(a.length:Int)>8 then some 2 else(RR N c).bind λb=>if(b.2.2:Int)≠0 then some b.2.2 else(IP N b.1 64 m a c).bind λd=>some d.2
theorem Rs(N m c t r)(e:HY N m c t=some r)(u)(l:AC)(E:Aa2 u l m)(a)(b:Rd Ca u a c)(d)(f:Rd Ad5 u d t):DoesI prog 153 #[vA (Ab m l),a,d] Gt u [] (pV (vI r)):=by
 unfold HY at e
 refine Bq follows func153 Z 29 Z _ fz3 Bm (λn=> ?_)
 refine Ad<|rA Z λp=>r_a (29, #[a]) Z Z (Oz Z (W8 b)) (λq=> ?_) (.inr Z)
 refine r_a (85, #[d]) Z Z (Oz Z (W8 f)) (λs=> ?_) (.inr Z)
 refine rz Z<|Aa λF v=>Ad<|rm 1 [1] Z<|rL (W8 b) Z<|rz Z<|aD e Z (λx e=> ?_) (λx e=> ?_)
 ·refine AZ Z ?_
  cases e
  exact aR eV1
 refine Ac<|v _ _ ?_
 refine Ad<|rm 1 [0] Z<|kB e λy g e=>gS (Ls:=[(iy s d),(iz q a),[(p,35,(Ab m l))]]) (cF eA) (λo w z_=>(V3 (ja N t _ g z_.view d ((Ay f) o w z_)) _)) (λz A B=> ?_)
 refine rz Z<|Aa λD h=>AZ Z<|aN e Z (λi e=> ?_) (λi e=> ?_)
 ·refine AZ Z ?_
  cases e
  exact aR eV1
 refine Ac<|h _ _ ?_
 refine Ad<|rn 1 Z<|r_W (vF 218 #[] #[vP p 0,vP q 0,vP s 0]) Z (Jt Z)<|kB e λC j e=>gV _ (cF pn) (λo w z_=>Tq N y.1 64 m c t _ j z_.view z ((AB B (Al (Ls:=[(iy s d),(iz q a),[(p,35,(Ab m l))],A]) (k:=3) Z Z)) o w z_) p l (Aa2.mono z_.ro_cell E) (Da 2 Z Z o w z_) q a (z_.r b) (Da 1 Z Z o w z_) s d ((Ay f) o w z_) (Da 0 Z Z o w z_))<|rz Z<|CJ [(9,vI C.2)] Z (λT=> ?_)
 refine AZ Z ?_
 cases e
 exact aR eV1
def IY(N:Nat)(c:Ao)(_:W2)(a:Y0 Int)(b:Y0 (W1)):Y1 Int:=(OQ N a 8).bind λf=>(HY N c a b).bind λe=>(AO N ([f.2,e])).bind λd=>some d
theorem YK(N c d e h r)(f:IY N c d e h=some r)(n)(j:AC)(B:Aa2 n j c)(a)(g:Rd Ca n a e)(b)(l:Rd Ad5 n b h):DoesI prog 85 #[vA (Ab c j),vA #[vS d,a,b]] Gt n [] (pV (vI r)):=by
 unfold IY at f
 refine Bq follows func85 Z 23 Z _ fz2 Bm (λm=> ?_)
 refine Ad<|rA Z λv=>rA Z λx=>rz Z<|Ad<|rm 2 [0] Z<|kB f λy p f=>gV _ (cF Vt) (λo w z_=>(V3 (da N e 8 _ p z_.view a (z_.r g)) _))<|rz Z<|Ad<|rm 7 [1,0,0] Z<|kB f λz q f=>gV _ (cF Xs) (λo w z_=>Rs N c e h _ q z_.view j (Aa2.mono z_.ro_cell B) a (z_.r g) b (z_.r l))<|gB (Ls:=[(Rq x d a b),[(v,75,(Ab c j))]]) 51 Ca [y.2,z] (λs t u=> ?_)
 refine kB f λA i f=>gV _ (cF Fo) (λo w z_=>(V3 (Co N _ _ i z_.view s ((AB u (Al (Ls:=[(Rq x d a b),[(v,75,(Ab c j))],t]) (k:=2) Z Z)) o w z_)) _))<|rz Z ?_
 cases f
 exact aR eV1
def KV(N:Nat)(i:Int)(d:W2)(e:Y0 Int)(g:Y0 (W1))(b:Y0 (W2))(a:Ao):Y1 Int:=ck (0<=i/\i<(b.length:Int)) ((Fl N (b[i.toNat]!)).bind λj=>(Ap N j 4).bind λk=>(Bk N b i).bind λh=>(IY N a d e g).bind λc=>(AO N ([k,h,c])).bind λf=>some f)
theorem Um(N i f t u m a r)(h:KV N i f t u m a=some r)(B d)(I:Rd Ca B d t)(e)(J:Rd Ad5 B e u)(v:Nat)(c)(p:Rd Aa4 B c m)(q:Blk B v [c])(x:Nat)(b:AC)(g:Aa2 B b a)(y:Blk B x [vF 85 #[vA (Ab a b)] #[]]):DoesI prog 151 #[vI i,vA #[vS f,d,e],vP v 0,vP x 0] Gt B [] (pV (vI r)):=by
 unfold KV at h
 refine Bq follows func151 Z 21 Z _ fz4 Bm (λK=> ?_)
 refine Ad<|rA Z λQ=>rz Z<|Aa λV L=> ?_
 refine BO [(some 15,false),(some 18,false),(some 19,false),(some 20,false)] (conG prog [(15,cV (Bk N m i) λn=>vI n),(18,cV (IY N a f t u) λn=>vI n),(20,λ_ _ v_ L_ U_=> ∀n,Fl N (m[i.toNat]!)=some n-> ∀C,Ap N n 4=some C-> ∀D,Bk N m i=some D-> ∀E,IY N a f t u=some E-> ∀F,AO N ([C,D,E])=some F->(pV (vI F)) v_ L_ U_)]) [] (by decide+kernel) (λW=>AN) ?_
 refine Ii c (vs:=[c]) (o:=0) Z Z (Bg q) Z<|rn 1 Z<|kC h λG h=>rI (W8 p) G Z<|rE (Ay p) G 0 Z<|kB h λT z h=>rc _ (cF Oy) (MH N _ _ z)<|kB h λR A h=>rc _ (cF Bw) (AE N T 4 _ A)<|Ii c (vs:=[c]) (o:=0) Z Z (Bg q) Z<|rn 1 Z<|kB h λS j h=>rg _ (cF Pc) (λo w z_=>(V3 (IL N m i _ j z_.view c (z_.r p)) _)) (Hq j)<|Ii (vF 85 #[vA (Ab a b)] #[]) (vs:=[vF 85 #[vA (Ab a b)] #[]]) (o:=0) Z Z (Bg y) Z<|rm 1 [0] Z<|kB h λH l h=>rg _ (RB (bd:=[vA (Ab a b)]) (caps:=[]) Z tF Z) (λo w z_=>YK N _ f t u _ l z_.view b (Aa2.mono z_.ro_cell g) d (z_.r I) e (z_.r J)) (Hq l) ?_
 refine KP (Ls:=[(Rq Q f d e)]) 51 Ca [R,S,H] [vI R,vI S,vI H] [vI 0,vI 0,vI 0] Z Z Z Z Z Z Z (by kernel_rfl) (by kernel_rfl) Z Z Z (λM O P=> ?_)
 refine kB h λU s h=>rg _ (cF Fo) (λo w z_=>(V3 (Co N _ _ s z_.view M ((AB P (Al (Ls:=[(Rq Q f d e),O]) (k:=1) Z Z)) o w z_)) _)) (λ_ _ v_ L_ U_=>⟨λh_=>h_ _ z _ A _ j _ l _ s,λh_=>by intro _ e_;cases q3 (e_.symm.trans z);intro _ e_;cases q3 (e_.symm.trans A);intro _ e_;cases q3 (e_.symm.trans j);intro _ e_;cases q3 (e_.symm.trans l);intro _ e_;cases q3 (e_.symm.trans s);exact h_⟩) ?_
 refine rz Z<|L _ _ ?_
 cases h
 exact aR eV1
def IA(N:Nat)(d:Y0 ((W2)×(Y0 Int)×(Y0 (W1))))(c:Y0 (W2))(b:Ao):Nat->Int->Y1 (Int×Int)
  |0,_=>none
  |f+1,a=>if a<(d.length:Int)then ck (0<=a/\a<(d.length:Int)) ((KV N a (d[a.toNat]!.1) (d[a.toNat]!.2.1) (d[a.toNat]!.2.2) c b).bind λe=>if(e:Int)≠0 then some (a,e)else ck (R64 (a+1)) ((IA N d c b f) (a+1)))else some (0,0)
def Mx(N:Nat)(d:Y0 ((W2)×(Y0 Int)×(Y0 (W1))))(c:Int)(b:Y0 (W2))(a:Ao):Y1 (Int×Int):=if(d.length:Int)>c then some (0,2)else IA N d b a N 0
theorem WG(N x y g a r)(e:Mx N x y g a=some r)(B A)(q:RdN Ac7 B A x)(c:Nat)(h)(p:Rd Aa4 B h g)(j:Blk B c [h])(d:Nat)(b:AC)(i:Aa2 B b a)(k:Blk B d [vF 85 #[vA (Ab a b)] #[]]):DoesI prog 150 #[A,vI y,vF 151 #[] #[vP c 0,vP d 0]] Gt B [] (pV (vT #[vI r.1,vI r.2])):=by
 unfold Mx at e
 refine Bq follows func150 Z 31 Z _ fz3 Bm (λJ=> ?_)
 refine AZ Z<|Aa λS K=>Ad<|rn 1 Z<|rL (W9 q) Z<|rz Z<|aD e Z (λL e=> ?_) (λL e=> ?_)
 ·refine AZ Z ?_
  cases e
  exact aR eV2
 refine Ac<|K _ _ ?_
 refine Aa λU M=>Ad<|rn 1 Z<|rL (W9 q) Z<|rz Z<|Ai<|AL (λtt ll nn=> ∃(z:Nat) (f:Int),(IA N x g a z f=some r)/\Is [(2,vF 151 #[] #[vP c 0,vP d 0]),(15,A),(16,vI (x.length:Int)),(17,vI f)] [] tt ll/\nn=z+1) (N+1) ?_ ?_
 ·exact⟨N,0,e,Ag Z Z,Z⟩
 clear e;rintro t l _ ⟨z,f,e,⟨⟨T,rfl⟩,rfl⟩,rfl⟩
 rcases z with _|z
 ·exact absurd e (by simp [IA])
 rw [IA] at e
 refine AZ Z<|Aa λP C=>aD e Z (λD e=> ?_) (λD e=> ?_)
 ·refine Ac<|C _ _ ?_
  refine Aa λQ F=>Ai<|Ad<|rn 1 Z<|kC e λs e=> ?_
  obtain⟨_,⟨m,n,u,v,rfl⟩,hat19⟩:=RdN.at (E:=Ac7) q (Cp s)
  refine rI (W9 q) s Z<|Mk (vA #[vS (x[f.toNat]!.1),m,n]) (vs:=[vS (x[f.toNat]!.1),m,n]) (f.toNat*3) 0 Z Z (λo w z_=>At.mono z_.ro_cell hat19) Z<|rA Z λO=>rn 1 Z<|r_s (Rq O (x[f.toNat]!.1) m n) 0 _ _ _ _ _ (#[vS (x[f.toNat]!.1),m,n]) Z Z Z Z (.ofS Z Z (Ae Z (sR u (sR v AD)))) Z Z<|Aj<|Ad<|rm 3 [0] Z<|kB e λR G e=>gV _ (Cc (caps:=[vP c 0,vP d 0]) Z qn Z) (λo w z_=>Um N f _ _ _ g _ _ G z_.view m (z_.r u) n (z_.r v) c h (z_.r p) (Bg j o w z_) d b (Aa2.mono z_.ro_cell i) (Bg k o w z_))<|rz Z<|AZ Z<|aN e Z (λH e=> ?_) (λH e=> ?_)
  ·refine AZ Z ?_
   cases e
   exact aR eV2
  refine Ac<|F _ _ ?_
  refine Ah<|kC e λI e=>rX I Z<|rz Z<|fg _ (Sub.of (suC _ suN)) ?_
  exact⟨z+1,by omega,z,(f+1),e,Ag Z Z,Z⟩
 refine AM<|M _ _ ?_
 refine AZ Z ?_
 cases e
 exact aR eV2
def Ok(N:Nat)(d:Y0 ((W2)×(Y0 Int)×(Y0 (W1))))(c:Int)(a:Ao):Y1 (Int×Int):=(Ol N d).bind λe=>(Mx N d c e a).bind λb=>some (b.1,b.2)
theorem WC(N n c b r)(f:Ok N n c b=some r)(s e)(i:RdN Ac7 s e n)(a:AC)(d:Aa2 s a b):DoesI prog 83 #[e,vI c,vF 84 #[] #[],vF 85 #[vA (Ab b a)] #[]] Gt s [] (pV (vT #[vI r.1,vI r.2])):=by
 unfold Ok at f
 refine Bq follows func83 Z 20 Z _ fz4 Bm (λj=> ?_)
 refine Ad<|rA Z λg=>rz Z<|Ad<|rn 2 Z<|kB f λu p f=>gS (Ls:=[(Wr g (vF 85 #[vA (Ab b a)] #[]))]) (cF qp) (λo w z_=>(V3 (WE N n _ p z_.view e (V1 z_.ro_cell i)) _)) (λl t q=> ?_)
 refine rA Z λm=>r_s (V2 [(cO m l),(Wr g (vF 85 #[vA (Ab b a)] #[])),t]) 0 _ _ _ _ _ (#[l]) Z Z Z (CR Z (W7 q)) (.ofS Z Z (sS q AD)) Z Z<|Aj<|Ad<|rn 2 Z<|r_W (vF 151 #[] #[vP m 0,vP g 0]) Z (Jt Z)<|kB f λv h f=>gV _ (cF qo) (λo w z_=>WG N n c u b _ h z_.view e (V1 z_.ro_cell i) m l ((AB q (Al (Ls:=[(cO m l),(Wr g (vF 85 #[vA (Ab b a)] #[])),t]) (k:=2) Z Z)) o w z_) (Da 0 Z Z o w z_) g a (Aa2.mono z_.ro_cell d) (Da 1 Z Z o w z_))<|rz Z ?_
 cases f
 exact aR eV2
end Go.Proofs.YtjnanfkpdhmnpaaGreatDoor
