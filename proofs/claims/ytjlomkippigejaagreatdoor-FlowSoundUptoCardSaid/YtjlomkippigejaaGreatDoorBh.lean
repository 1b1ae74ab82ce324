import Derived.Test.YtjlomkippigejaaGreatDoorBg
namespace Go.Proofs.YtjlomkippigejaaGreatDoor
open Go Go.RowKit Go.Eng _root_.Go.Proofs.Tryz
set_option linter.unusedSimpArgs false
set_option linter.unusedVariables false
set_option maxRecDepth 100000
set_option maxHeartbeats 80000000
abbrev LR(b:Nat)(x0:Int)(x1:Int)(x2:Int)(x3:Int)(x4:W4)(x5:W4):List Bl:=[(b,53, #[vI x0,vI x1,vI x2,vI x3,U x4,U x5])]
abbrev gF(b:Nat)(x0:Value):List Bl:=[(b,36, #[x0])]
abbrev gG(b:Nat)(x0:Value):List Bl:=[(b,29, #[x0])]
abbrev QM(b:Nat)(x0:W2)(x1:Value)(x2:Value):List Bl:=[(b,185, #[vS x0,x1,x2])]
abbrev VT(b:Nat)(x0:Value):List Bl:=[(b,208, #[x0])]
abbrev cf(b:Nat)(x0:Value):List Bl:=[(b,134, #[x0])]
def Ra(_:Nat)(o:Int):Option Bool:=if o>=0 then some (decide (o<35))else some false
theorem mB(N o r)(a:Ra N o=some r):Gives prog 137 #[vI o] (vB r):=by
 unfold Ra at a
 refine Aq follows func137 Z 9 Z _ fz1 (λd=> ?_)
 refine AZ Z<|Aa λe b=>Ah<|rn 3 Z ?_
 rcases c:(decide (o>=0))with _|_
 ·replace a:=iF c a
  refine rz Z<|b _ _ ?_
  cases a
  exact aR eE1
 replace a:=iD c a
 refine rz Z<|b _ _ ?_
 cases a
 exact aR eE1
def Jw(_:Nat)(a:Int)(b:Int)(n:Int):Option Bool:=if n>=a then some (decide (n<=b))else some false
theorem Tb(N b e n r)(a:Jw N b e n=some r):Gives prog 138 #[vA #[vI b,vI e],vI n] (vB r):=by
 unfold Jw at a
 refine Aq follows func138 Z 15 Z _ fz2 (λf=> ?_)
 refine Ad<|rA Z λg=>rz Z<|Aa λh c=>Ah<|rm 5 [0] Z ?_
 rcases d:(decide (n>=b))with _|_
 ·replace a:=iF d a
  refine rz Z<|c _ _ ?_
  cases a
  exact aR eE1
 replace a:=iD d a
 refine rn 2 Z<|r_y Z<|ry [0] Z<|c _ _ ?_
 cases a
 exact aR eE1
def KW(N:Nat)(c:Int)(_:Int)(_:Int)(b:Int)(a:W3):Option Bool:=if c=0 then(Nu N b a).bind λd=>some d else some ((b==0)&&(a==((0#64)++(0#64))))
theorem Yo(N e f g b a r)(d:KW N e f g b a=some r):Gives prog 139 #[vA #[vI e,vI f,vI g,vI b,U (hi a),U (lo a)]] (vB r):=by
 unfold KW at d
 refine Aq follows func139 Z 13 Z _ fz1 (λh=> ?_)
 refine Ad<|rA Z λl=>rz Z<|Aa λm i=>AY [0] Z<|aE d Z (λj d=> ?_) (λj d=> ?_)
 ·refine Ad<|rm 2 [0] Z<|kB d λn k d=>rc _ (cF dH) (Yq N b a _ k)<|rz Z ?_
  cases d
  exact aR eE1
 refine Ab<|i _ _ ?_
 refine Ad<|r_V (vP l 3) Z<|rl (vA #[vI b,U (hi a),U (lo a)]) 0<|r_W (vA #[vI 0,U (0#64),U (0#64)]) Z (Ar Z Z Z Z)<|r_W (vB ((b==0)&&(a==((0#64)++(0#64))))) Z (WC Z Z mm (by have h_:=λc=>aL (c:=c) b 0 a ((0#64)++(0#64));simp only [Br] at h_;exact h_ _)) ?_
 refine rz Z ?_
 cases d
 exact aR eE1
def MS(N:Nat)(b:Int)(d:Int)(c:Int)(e:Int)(g:W3)(a:Bool):Option Int:=if a=true then some 7 else(KW N b d c e g).bind λf=>if f=true then some 0 else some 1
def Td(N:Nat)(a:Int)(c:Int)(b:Int)(d:Int)(e:W3):Option Int:=(NY N a c b d e).bind λf=>(Ra N a).bind λg=>if g=true then(Jw N f.1 f.2.1 c).bind λh=>if h=true then(Jw N f.2.2.1 f.2.2.2 b).bind λi=>MS N a c b d e (!(i))else MS N a c b d e true else some 10
theorem rV(N d e f g c r)(a:Td N d e f g c=some r):Gives prog 77 #[vA #[vI d,vI e,vI f,vI g,U (hi c),U (lo c)]] (vI r):=by
 unfold Td at a
 refine Aq follows func77 Z 32 Z _ fz1 (λq=> ?_)
 refine Ad<|rA Z λy=>rz Z<|Ad<|rm 1 [0] Z<|kB a λs u a=>rc _ (cF pb) (mC N d e f g c _ u)<|rn 3 Z<|rA Z λB=>rA Z λC=>ry [1,0] Z<|Aa λD v=>Ai<|Ad<|rm 2 [2] Z<|kB a λz k a=>rc _ (cF pa) (mB N d _ k)<|rz Z<|BI _ Z (λh=> ?_) (λh=> ?_)
 ·replace a:=ifn (Bool.eq_false_iff.1 (Dk h)) a
  refine AZ Z ?_
  cases a
  exact aR eE1
 replace a:=ifp (Dl h) a
 refine Cb (λtt ll=> ∃(j:Bool),(MS N d e f g c j=some r)/\Is [(1,vP y 0),(15,vB j)] (LR y d e f g (hi c) (lo c)) tt ll) ?_ ?_
 ·refine Ah<|rm 3 [1,2] Z<|kB a λw m a=>rc _ (cF dW) (Tb N s.1 s.2.1 e _ m)<|rn 2 Z ?_
  rcases b:(!(w))with _|_
  ·replace a:=ifp (Dl b) a
   refine r_y Z<|rm 2 [0] Z<|r_y Z<|rm 1 [2] Z<|r_y Z<|kB a λx n a=>rc _ (cF dW) (Tb N s.2.2.1 s.2.2.2 f _ n)<|rz Z<|fg _ (Sub.of (suC _ (suC _ (suK _ suN)))) ?_
   exact⟨!(x),a,Ag (by first|rfl|(simp only [b];done)|(simp only [b];rfl)|(simp only [Br];rfl)) Z⟩
  replace a:=ifn (Bool.eq_false_iff.1 (Dk b)) a
  refine rz Z<|fg _ (Sub.of (suC _ (suC _ (suK _ suN)))) ?_
  exact⟨true,a,Ag (by first|rfl|(simp only [b];done)|(simp only [b];rfl)|(simp only [Br];rfl)) Z⟩
 clear a;rintro t l ⟨j,a,⟨T,rfl⟩,rfl⟩
 unfold MS at a
 refine aB a Z (λo a=> ?_) (λo a=> ?_)
 ·refine AZ Z ?_
  cases a
  exact aR eE1
 refine Ad<|rm 1 [0] Z<|kB a λA p a=>rc _ (cF oZ) (Yo N d e f g c _ p)<|rz Z<|BI _ Z (λi=> ?_) (λi=> ?_)
 ·replace a:=ifn (Bool.eq_false_iff.1 (Dk i)) a
  refine AZ Z ?_
  cases a
  exact aR eE1
 replace a:=ifp (Dl i) a
 refine Ab<|v _ _ ?_
 refine AZ Z ?_
 cases a
 exact aR eE1
inductive Aa0 where
  |nil
  |t121 (x0:Int) (x1:Int)
  |t123 (x0:Int) (x1:Int)
  |t125 
  |t164 (x0:Int) (x1:Int) (x2:Int)
  |t166 (x0:Int) (x1:Int)
  |t169 (x0:Int) (x1:Int) (x2:Int)
  |t241 (x0:Int) (x1:W3)
  |t242 (x0:Int) (x1:Int)
  |t243 (x0:Int) (x1:Int)
  |t245 (x0:Int) (x1:Int)
  |t247 (x0:Int)
  deriving Inhabited
def Aa0.on{β:Type}(x:Aa0)(a:β)(j:Int->Int->β)(g:Int->Int->β)(h:β)(l:Int->Int->Int->β)(d:Int->Int->β)(e:Int->Int->Int->β)(i:Int->(W3)->β)(f:Int->Int->β)(b:Int->Int->β)(k:Int->Int->β)(c:Int->β):β:=match x with| .nil=>a| .t121 x0 x1=>j x0 x1| .t123 x0 x1=>g x0 x1| .t125  =>h  | .t164 x0 x1 x2=>l x0 x1 x2| .t166 x0 x1=>d x0 x1| .t169 x0 x1 x2=>e x0 x1 x2| .t241 x0 x1=>i x0 x1| .t242 x0 x1=>f x0 x1| .t243 x0 x1=>b x0 x1| .t245 x0 x1=>k x0 x1| .t247 x0=>c x0
theorem Aa0.on_nil {β:Type}{x:Aa0}{a r:β}{b:Int->Int->β}{c:Int->Int->β}{d:β}{f:Int->Int->Int->β}{g:Int->Int->β}{i:Int->Int->Int->β}{j:Int->(W3)->β}{k:Int->Int->β}{l:Int->Int->β}{m:Int->Int->β}{n:Int->β}(h:x= .nil)(e:Aa0.on x a b c d f g i j k l m n=r):a=r:=by subst h;exact e
theorem Aa0.on_t121 {β:Type}{x:Aa0}{a r:β}{b:Int->Int->β}{c:Int->Int->β}{d:β}{f:Int->Int->Int->β}{g:Int->Int->β}{i:Int->Int->Int->β}{j:Int->(W3)->β}{k:Int->Int->β}{l:Int->Int->β}{m:Int->Int->β}{n:Int->β}{o:Int}{p:Int}(h:x= .t121 o p)(e:Aa0.on x a b c d f g i j k l m n=r):b o p=r:=by subst h;exact e
theorem Aa0.on_t123 {β:Type}{x:Aa0}{a r:β}{c:Int->Int->β}{b:Int->Int->β}{d:β}{f:Int->Int->Int->β}{g:Int->Int->β}{i:Int->Int->Int->β}{j:Int->(W3)->β}{k:Int->Int->β}{l:Int->Int->β}{m:Int->Int->β}{n:Int->β}{o:Int}{p:Int}(h:x= .t123 o p)(e:Aa0.on x a c b d f g i j k l m n=r):b o p=r:=by subst h;exact e
theorem Aa0.on_t125 {β:Type}{x:Aa0}{a r:β}{c:Int->Int->β}{d:Int->Int->β}{b:β}{f:Int->Int->Int->β}{g:Int->Int->β}{i:Int->Int->Int->β}{j:Int->(W3)->β}{k:Int->Int->β}{l:Int->Int->β}{m:Int->Int->β}{n:Int->β}(h:x= .t125)(e:Aa0.on x a c d b f g i j k l m n=r):b  =r:=by subst h;exact e
theorem Aa0.on_t164 {β:Type}{x:Aa0}{a r:β}{c:Int->Int->β}{d:Int->Int->β}{f:β}{b:Int->Int->Int->β}{g:Int->Int->β}{i:Int->Int->Int->β}{j:Int->(W3)->β}{k:Int->Int->β}{l:Int->Int->β}{m:Int->Int->β}{n:Int->β}{o:Int}{p:Int}{x2:Int}(h:x= .t164 o p x2)(e:Aa0.on x a c d f b g i j k l m n=r):b o p x2=r:=by subst h;exact e
theorem Aa0.on_t166 {β:Type}{x:Aa0}{a r:β}{c:Int->Int->β}{d:Int->Int->β}{f:β}{g:Int->Int->Int->β}{b:Int->Int->β}{i:Int->Int->Int->β}{j:Int->(W3)->β}{k:Int->Int->β}{l:Int->Int->β}{m:Int->Int->β}{n:Int->β}{o:Int}{p:Int}(h:x= .t166 o p)(e:Aa0.on x a c d f g b i j k l m n=r):b o p=r:=by subst h;exact e
theorem Aa0.on_t169 {β:Type}{x:Aa0}{a r:β}{c:Int->Int->β}{d:Int->Int->β}{f:β}{g:Int->Int->Int->β}{i:Int->Int->β}{b:Int->Int->Int->β}{j:Int->(W3)->β}{k:Int->Int->β}{l:Int->Int->β}{m:Int->Int->β}{n:Int->β}{o:Int}{p:Int}{x2:Int}(h:x= .t169 o p x2)(e:Aa0.on x a c d f g i b j k l m n=r):b o p x2=r:=by subst h;exact e
theorem Aa0.on_t241 {β:Type}{x:Aa0}{a r:β}{c:Int->Int->β}{d:Int->Int->β}{f:β}{g:Int->Int->Int->β}{i:Int->Int->β}{j:Int->Int->Int->β}{b:Int->(W3)->β}{k:Int->Int->β}{l:Int->Int->β}{m:Int->Int->β}{n:Int->β}{o:Int}{p:W3}(h:x= .t241 o p)(e:Aa0.on x a c d f g i j b k l m n=r):b o p=r:=by subst h;exact e
theorem Aa0.on_t242 {β:Type}{x:Aa0}{a r:β}{c:Int->Int->β}{d:Int->Int->β}{f:β}{g:Int->Int->Int->β}{i:Int->Int->β}{j:Int->Int->Int->β}{k:Int->(W3)->β}{b:Int->Int->β}{l:Int->Int->β}{m:Int->Int->β}{n:Int->β}{o:Int}{p:Int}(h:x= .t242 o p)(e:Aa0.on x a c d f g i j k b l m n=r):b o p=r:=by subst h;exact e
theorem Aa0.on_t243 {β:Type}{x:Aa0}{a r:β}{c:Int->Int->β}{d:Int->Int->β}{f:β}{g:Int->Int->Int->β}{i:Int->Int->β}{j:Int->Int->Int->β}{k:Int->(W3)->β}{l:Int->Int->β}{b:Int->Int->β}{m:Int->Int->β}{n:Int->β}{o:Int}{p:Int}(h:x= .t243 o p)(e:Aa0.on x a c d f g i j k l b m n=r):b o p=r:=by subst h;exact e
theorem Aa0.on_t245 {β:Type}{x:Aa0}{a r:β}{c:Int->Int->β}{d:Int->Int->β}{f:β}{g:Int->Int->Int->β}{i:Int->Int->β}{j:Int->Int->Int->β}{k:Int->(W3)->β}{l:Int->Int->β}{m:Int->Int->β}{b:Int->Int->β}{n:Int->β}{o:Int}{p:Int}(h:x= .t245 o p)(e:Aa0.on x a c d f g i j k l m b n=r):b o p=r:=by subst h;exact e
theorem Aa0.on_t247 {β:Type}{x:Aa0}{a r:β}{c:Int->Int->β}{d:Int->Int->β}{f:β}{g:Int->Int->Int->β}{i:Int->Int->β}{j:Int->Int->Int->β}{k:Int->(W3)->β}{l:Int->Int->β}{m:Int->Int->β}{n:Int->Int->β}{b:Int->β}{o:Int}(h:x= .t247 o)(e:Aa0.on x a c d f g i j k l m n b=r):b o=r:=by subst h;exact e
def Aa0.onP(x:Aa0)(a:PO)(j:Int->Int->PO)(g:Int->Int->PO)(h:PO)(l:Int->Int->Int->PO)(d:Int->Int->PO)(e:Int->Int->Int->PO)(i:Int->(W3)->PO)(f:Int->Int->PO)(b:Int->Int->PO)(k:Int->Int->PO)(c:Int->PO):PO:=match x with| .nil=>a| .t121 x0 x1=>j x0 x1| .t123 x0 x1=>g x0 x1| .t125  =>h  | .t164 x0 x1 x2=>l x0 x1 x2| .t166 x0 x1=>d x0 x1| .t169 x0 x1 x2=>e x0 x1 x2| .t241 x0 x1=>i x0 x1| .t242 x0 x1=>f x0 x1| .t243 x0 x1=>b x0 x1| .t245 x0 x1=>k x0 x1| .t247 x0=>c x0
theorem Aa0.cases(x:Aa0):x= .nil\/(∃a b,x= .t121 a b)\/(∃a b,x= .t123 a b)\/(x= .t125)\/(∃a b x2,x= .t164 a b x2)\/(∃a b,x= .t166 a b)\/(∃a b x2,x= .t169 a b x2)\/(∃a b,x= .t241 a b)\/(∃a b,x= .t242 a b)\/(∃a b,x= .t243 a b)\/(∃a b,x= .t245 a b)\/(∃a,x= .t247 a):=by cases x<;>simp
def Aa0.v:Aa0->Value
  | .nil=>Value.nilIface
  | .t121 a b=>Value.iface 121 (vA #[vI a,vI b])
  | .t123 a b=>Value.iface 123 (vA #[vI a,vI b])
  | .t125  =>Value.iface 125 (vA #[])
  | .t164 a b c=>Value.iface 164 (vA #[vI a,vI b,vI c])
  | .t166 a b=>Value.iface 166 (vA #[vI a,vI b])
  | .t169 a b c=>Value.iface 169 (vA #[vI a,vI b,vI c])
  | .t241 a b=>Value.iface 241 (vA #[vI a,U (hi b),U (lo b)])
  | .t242 a b=>Value.iface 242 (vA #[vI a,vI b])
  | .t243 a b=>Value.iface 243 (vA #[vI a,vI b])
  | .t245 a b=>Value.iface 245 (vA #[vI a,vI b])
  | .t247 a=>Value.iface 247 (vA #[vI a])
theorem Aa0.cells(x:Aa0):(Aa0.v x).cells= #[Aa0.v x]:=by cases x<;>rfl
theorem Aa0.one(x:Aa0):(Aa0.v x).oneCell'=true:=by cases x<;>rfl
def QY:Enc Aa0:=⟨λx=> [Aa0.v x],1,Nat.one_pos,λ_=>Z,λx v h=>by rw [zc] at h;rw [h];exact Aa0.one x,True⟩
def PZ(a:Int)(b:Int)(d:Int)(c:Bool):Option Aa0:=if c=true then some (Aa0.t121 a b)else if a=33 then some (Aa0.t123 b d)else if a=34 then some Aa0.t125 else some (Aa0.t247 a)
def Qa(a:Int)(c:Int)(b:Int)(d:Bool):Option Aa0:=if d=true then some (Aa0.t169 a c b)else if a=31 then PZ a c b (a==31)else PZ a c b (a==32)
def Mu(a:Int)(b:Int)(c:Int)(d:Bool):Option Aa0:=if d=true then some (Aa0.t243 a b)else if a=10 then some (Aa0.t245 b c)else if a=27 then Qa a b c (a==27)else Qa a b c (a==28)
def Pw(a:Int)(b:Int)(c:Int)(d:Bool):Option Aa0:=if d=true then some (Aa0.t166 a b)else if a=6 then Mu a b c (a==6)else if a=7 then Mu a b c (a==7)else if a=8 then Mu a b c (a==8)else if a=9 then Mu a b c (a==9)else Mu a b c (a==11)
def KM(a:Int)(b:Int)(c:Int)(d:Bool):Option Aa0:=if d=true then some (Aa0.t242 a b)else if a=4 then Pw a b c (a==4)else if a=25 then Pw a b c (a==25)else Pw a b c (a==26)
def Rr(a:Int)(c:Int)(b:Int)(d:Bool):Option Aa0:=if d=true then some (Aa0.t164 a c b)else if a=2 then KM a c b (a==2)else if a=23 then KM a c b (a==23)else if a=3 then KM a c b (a==3)else if a=5 then KM a c b (a==5)else if a=24 then KM a c b (a==24)else if a=29 then KM a c b (a==29)else KM a c b (a==30)
def QZ(_:Nat)(a:Int)(c:Int)(b:Int)(d:Int)(e:W3):Option Aa0:=if a=0 then some (Aa0.t241 d e)else if a=1 then Rr a c b (a==1)else Rr a c b (a==22)
theorem mz(N b c d g e r)(a:QZ N b c d g e=some r):Gives prog 78 #[vA #[vI b,vI c,vI d,vI g,U (hi e),U (lo e)]] (Aa0.v r):=by
 unfold QZ at a
 refine Aq follows func78 Z 102 Z _ fz1 (λP=> ?_)
 refine Ad<|rA Z λf=>rz Z<|Aa λV Q=>AY [0] Z<|Ai<|AZ Z<|aE a Z (λR a=> ?_) (λR a=> ?_)
 ·refine Ad<|r_V (vP f 3) Z<|rl (vA #[vI g,U (hi e),U (lo e)]) 0<|r_W (vA #[vI g,U (hi e),U (lo e)]) Z (Ar Z Z Z Z)<|rz Z ?_
  cases a
  exact aR eE1
 refine Cb (λtt ll=> ∃(i:Bool),(Rr b c d i=some r)/\Is [(1,vP f 0),(4,vI b),(11,vB i)] (LR f b c d g (hi e) (lo e)) tt ll) ?_ ?_
 ·refine AZ Z<|aE a Z (λo a=> ?_) (λo a=> ?_)
  ·refine Ab<|fg _ (Sub.of (suK _ suN)) ?_
   exact⟨(b==1),a,Ag Z Z⟩
  refine Ah<|rz Z<|fg _ (Sub.of (suK _ suN)) ?_
  exact⟨(b==22),a,Ag Z Z⟩
 clear a;rintro t l ⟨i,a,⟨T,rfl⟩,rfl⟩
 unfold Rr at a
 refine aB a Z (λS a=> ?_) (λS a=> ?_)
 ·refine Ad<|r_V (vP f 0) Z<|rl (vI b) 0<|r_V (vP f 1) Z<|rl (vI c) 0<|r_V (vP f 2) Z<|rl (vI d) 0<|r_W (vA #[vI b,vI c,vI d]) Z (Ar Z Z Z Z)<|rz Z ?_
  cases a
  exact aR eE1
 refine Cb (λtt ll=> ∃(j:Bool),(KM b c d j=some r)/\Is [(1,vP f 0),(4,vI b),(22,vB j)] (LR f b c d g (hi e) (lo e)) tt ll) ?_ ?_
 ·refine AZ Z<|aE a Z (λp a=> ?_) (λp a=> ?_)
  ·refine Ab<|fg _ (Sub.of (suK _ suN)) ?_
   exact⟨(b==2),a,Ag Z Z⟩
  refine AZ Z<|aE a Z (λq a=> ?_) (λq a=> ?_)
  ·refine Ab<|fg _ (Sub.of (suK _ suN)) ?_
   exact⟨(b==23),a,Ag Z Z⟩
  refine AZ Z<|aE a Z (λs a=> ?_) (λs a=> ?_)
  ·refine Ab<|fg _ (Sub.of (suK _ suN)) ?_
   exact⟨(b==3),a,Ag Z Z⟩
  refine AZ Z<|aE a Z (λu a=> ?_) (λu a=> ?_)
  ·refine Ab<|fg _ (Sub.of (suK _ suN)) ?_
   exact⟨(b==5),a,Ag Z Z⟩
  refine AZ Z<|aE a Z (λw a=> ?_) (λw a=> ?_)
  ·refine Ab<|fg _ (Sub.of (suK _ suN)) ?_
   exact⟨(b==24),a,Ag Z Z⟩
  refine AZ Z<|aE a Z (λx a=> ?_) (λx a=> ?_)
  ·refine Ab<|fg _ (Sub.of (suK _ suN)) ?_
   exact⟨(b==29),a,Ag Z Z⟩
  refine Ah<|rz Z<|fg _ (Sub.of (suK _ suN)) ?_
  exact⟨(b==30),a,Ag Z Z⟩
 clear a;rintro t l ⟨j,a,⟨T,rfl⟩,rfl⟩
 unfold KM at a
 refine aB a Z (λy a=> ?_) (λy a=> ?_)
 ·refine Ad<|r_V (vP f 0) Z<|rl (vI b) 0<|r_V (vP f 1) Z<|rl (vI c) 0<|r_W (vA #[vI b,vI c]) Z (Ar Z Z Z Z)<|rz Z ?_
  cases a
  exact aR eE1
 refine Cb (λtt ll=> ∃(k:Bool),(Pw b c d k=some r)/\Is [(1,vP f 0),(4,vI b),(36,vB k)] (LR f b c d g (hi e) (lo e)) tt ll) ?_ ?_
 ·refine AZ Z<|aE a Z (λz a=> ?_) (λz a=> ?_)
  ·refine Ab<|fg _ (Sub.of (suK _ suN)) ?_
   exact⟨(b==4),a,Ag Z Z⟩
  refine AZ Z<|aE a Z (λA a=> ?_) (λA a=> ?_)
  ·refine Ab<|fg _ (Sub.of (suK _ suN)) ?_
   exact⟨(b==25),a,Ag Z Z⟩
  refine Ah<|rz Z<|fg _ (Sub.of (suK _ suN)) ?_
  exact⟨(b==26),a,Ag Z Z⟩
 clear a;rintro t l ⟨k,a,⟨T,rfl⟩,rfl⟩
 unfold Pw at a
 refine aB a Z (λB a=> ?_) (λB a=> ?_)
 ·refine Ad<|r_V (vP f 0) Z<|rl (vI b) 0<|r_V (vP f 1) Z<|rl (vI c) 0<|r_W (vA #[vI b,vI c]) Z (Ar Z Z Z Z)<|rz Z ?_
  cases a
  exact aR eE1
 refine Cb (λtt ll=> ∃(m:Bool),(Mu b c d m=some r)/\Is [(1,vP f 0),(4,vI b),(46,vB m)] (LR f b c d g (hi e) (lo e)) tt ll) ?_ ?_
 ·refine AZ Z<|aE a Z (λC a=> ?_) (λC a=> ?_)
  ·refine Ab<|fg _ (Sub.of (suK _ suN)) ?_
   exact⟨(b==6),a,Ag Z Z⟩
  refine AZ Z<|aE a Z (λD a=> ?_) (λD a=> ?_)
  ·refine Ab<|fg _ (Sub.of (suK _ suN)) ?_
   exact⟨(b==7),a,Ag Z Z⟩
  refine AZ Z<|aE a Z (λE a=> ?_) (λE a=> ?_)
  ·refine Ab<|fg _ (Sub.of (suK _ suN)) ?_
   exact⟨(b==8),a,Ag Z Z⟩
  refine AZ Z<|aE a Z (λF a=> ?_) (λF a=> ?_)
  ·refine Ab<|fg _ (Sub.of (suK _ suN)) ?_
   exact⟨(b==9),a,Ag Z Z⟩
  refine Ah<|rz Z<|fg _ (Sub.of (suK _ suN)) ?_
  exact⟨(b==11),a,Ag Z Z⟩
 clear a;rintro t l ⟨m,a,⟨T,rfl⟩,rfl⟩
 unfold Mu at a
 refine aB a Z (λG a=> ?_) (λG a=> ?_)
 ·refine Ad<|r_V (vP f 0) Z<|rl (vI b) 0<|r_V (vP f 1) Z<|rl (vI c) 0<|r_W (vA #[vI b,vI c]) Z (Ar Z Z Z Z)<|rz Z ?_
  cases a
  exact aR eE1
 refine AZ Z<|aE a Z (λH a=> ?_) (λH a=> ?_)
 ·refine Ad<|r_V (vP f 1) Z<|rl (vI c) 0<|r_V (vP f 2) Z<|rl (vI d) 0<|r_W (vA #[vI c,vI d]) Z (Ar Z Z Z Z)<|rz Z ?_
  cases a
  exact aR eE1
 refine Cb (λtt ll=> ∃(n:Bool),(Qa b c d n=some r)/\Is [(1,vP f 0),(4,vI b),(66,vB n)] (LR f b c d g (hi e) (lo e)) tt ll) ?_ ?_
 ·refine AZ Z<|aE a Z (λI a=> ?_) (λI a=> ?_)
  ·refine Ab<|fg _ (Sub.of (suK _ suN)) ?_
   exact⟨(b==27),a,Ag Z Z⟩
  refine Ah<|rz Z<|fg _ (Sub.of (suK _ suN)) ?_
  exact⟨(b==28),a,Ag Z Z⟩
 clear a;rintro t l ⟨n,a,⟨T,rfl⟩,rfl⟩
 unfold Qa at a
 refine aB a Z (λJ a=> ?_) (λJ a=> ?_)
 ·refine Ad<|r_V (vP f 0) Z<|rl (vI b) 0<|r_V (vP f 1) Z<|rl (vI c) 0<|r_V (vP f 2) Z<|rl (vI d) 0<|r_W (vA #[vI b,vI c,vI d]) Z (Ar Z Z Z Z)<|rz Z ?_
  cases a
  exact aR eE1
 refine Cb (λtt ll=> ∃(h:Bool),(PZ b c d h=some r)/\Is [(1,vP f 0),(4,vI b),(77,vB h)] (LR f b c d g (hi e) (lo e)) tt ll) ?_ ?_
 ·refine AZ Z<|aE a Z (λK a=> ?_) (λK a=> ?_)
  ·refine Ab<|fg _ (Sub.of (suK _ suN)) ?_
   exact⟨(b==31),a,Ag Z Z⟩
  refine Ah<|rz Z<|fg _ (Sub.of (suK _ suN)) ?_
  exact⟨(b==32),a,Ag Z Z⟩
 clear a;rintro t l ⟨h,a,⟨T,rfl⟩,rfl⟩
 unfold PZ at a
 refine aB a Z (λL a=> ?_) (λL a=> ?_)
 ·refine Ad<|r_V (vP f 0) Z<|rl (vI b) 0<|r_V (vP f 1) Z<|rl (vI c) 0<|r_W (vA #[vI b,vI c]) Z (Ar Z Z Z Z)<|rz Z ?_
  cases a
  exact aR eE1
 refine AZ Z<|aE a Z (λM a=> ?_) (λM a=> ?_)
 ·refine Ad<|r_V (vP f 1) Z<|rl (vI c) 0<|r_V (vP f 2) Z<|rl (vI d) 0<|r_W (vA #[vI c,vI d]) Z (Ar Z Z Z Z)<|rz Z ?_
  cases a
  exact aR eE1
 refine AZ Z<|aE a Z (λO a=> ?_) (λO a=> ?_)
 ·refine Ad<|r_W (vA #[]) Z (Ar Z Z Z Z)<|rz Z ?_
  cases a
  exact aR eE1
 refine Ab<|Q _ _ ?_
 refine Ad<|r_V (vP f 0) Z<|rl (vI b) 0<|r_W (vA #[vI b]) Z (Ar Z Z Z Z)<|rz Z ?_
 cases a
 exact aR eE1
def Rb(N:Nat)(a:Int)(c:Int)(b:Int)(d:Int)(e:W3):Option (Aa0×Int):=(Td N a c b d e).bind λg=>if(g:Int)≠0 then some (Aa0.nil,g)else(QZ N a c b d e).bind λf=>some (f,0)
theorem mD(N c d e f a r)(b:Rb N c d e f a=some r):Gives prog 36 #[vA #[vI c,vI d,vI e,vI f,U (hi a),U (lo a)]] (vT #[Aa0.v r.1,vI r.2]):=by
 unfold Rb at b
 refine Aq follows func36 Z 12 Z _ fz1 (λh=> ?_)
 refine Ad<|rA Z λm=>rz Z<|Aa λn i=>Ad<|rm 1 [0] Z<|kB b λo j b=>rc _ (cF sq) (rV N c d e f a _ j)<|rz Z<|AZ Z<|aN b Z (λk b=> ?_) (λk b=> ?_)
 ·refine AZ Z ?_
  cases b
  exact aR eE2
 refine Ab<|i _ _ ?_
 refine Ad<|rm 1 [0] Z<|kB b λl g b=>rc _ (cF sp) (mz N c d e f a _ g)<|rz Z ?_
 cases b
 exact aR eE2
def MT(N:Nat)(c:List (W1)):Nat->List Aa0->Int->Option ((List Aa0)×Int×Int)
  |0,_,_=>none
  |e+1,b,a=>if a<(c.length:Int)then ck (0<=a/\a<(c.length:Int)) (if a=64 then some ([],a,2)else(Rb N ((c[a.toNat]!).1) ((c[a.toNat]!).2.1) ((c[a.toNat]!).2.2.1) ((c[a.toNat]!).2.2.2.1) ((c[a.toNat]!).2.2.2.2)).bind λd=>if(d.2:Int)≠0 then some ([],a,d.2)else ck ((b).length+([d.1]).length<=8796093022208) (ck (R64 (a+1)) ((MT N c e) (b++([d.1])) (a+1))))else some (b,(b.length:Int),0)
def Rs(N:Nat)(a:List (W1)):Option ((List Aa0)×Int×Int):=MT N a N ([]) 0
theorem gZ(N e r)(f:Rs N e=some r)(K p)(q:Rd Ac8 K p e):Does prog 21 #[p] K [] (p1 (λs_=>vT #[s_,vI r.2.1,vI r.2.2]) 84 QY r.1):=by
 unfold Rs at f
 refine Al follows func21 Z 37 Z _ fz1 (λB=> ?_)
 refine AZ Z<|AZ Z<|Aa λP C=>Ad<|rn 1 Z<|rL (Rd.shp q) Z<|rz Z<|Ai<|Bs _ (Sub.pickE (Ls:=[[]]) (Ls0:=[]) Z [0] Z)<|AH (λtt ll nn=> ∃(n:Nat) (c:List Aa0) (a:Int),(MT N e n c a=some r)/\ ∃(d:Value) (b:List Bl),Sl 84 QY d c b/\Is [(5,d),(10,p),(11,vI (e.length:Int)),(12,vI a)] (List.flatten [b]) tt ll/\nn=n+1) (N+1) ?_ ?_
 ·exact⟨N,[],0,f,nS,[],Sl.nil,Ag Z Z,Z⟩
 clear f;rintro t l _ ⟨n,c,a,f,d,b,g,⟨⟨T,rfl⟩,rfl⟩,rfl⟩
 rcases n with _|n
 ·exact absurd f (by simp [MT])
 rw [MT] at f
 refine AZ Z<|Aa λQ D=>aD f Z (λE f=> ?_) (λE f=> ?_)
 ·refine Ab<|D _ _ ?_
  refine Aa λR F=>Ai<|Ad<|rn 1 Z<|kC f λj f=>rI (Rd.shp q) j Z<|rE (Aw q) j 0 Z<|rA Z λi=>ry [0] Z<|Aa λL s=>AZ Z<|aE f Z (λu f=> ?_) (λu f=> ?_)
  ·refine AZ Z ?_
   cases f
   refine Bh (λJ=>GZ (v0:=vT #[nS,vI a,vI 2]) Sl.nil (Sub.nil _) Z (iU Z Z Z))
  refine Ab<|s _ _ ?_
  refine Ad<|rm 1 [0] Z<|kB f λh w f=>rc _ (cF sZ) (mD N ((e[a.toNat]!).1) ((e[a.toNat]!).2.1) ((e[a.toNat]!).2.2.1) ((e[a.toNat]!).2.2.2.1) ((e[a.toNat]!).2.2.2.2) _ w)<|rz Z<|Aa λM x=>AZ Z<|aN f Z (λy f=> ?_) (λy f=> ?_)
  ·refine AZ Z ?_
   cases f
   refine Bh (λJ=>GZ (v0:=vT #[nS,vI a,vI h.2]) Sl.nil (Sub.nil _) Z (iU Z Z Z))
  refine Ab<|x _ _ ?_
  refine Ah<|rn 2 Z<|cD 31<|Ke (cs0:=[]) (Ls:=[(LR i ((e[a.toNat]!).1) ((e[a.toNat]!).2.1) ((e[a.toNat]!).2.2.1) ((e[a.toNat]!).2.2.2.1) (hi ((e[a.toNat]!).2.2.2.2)) (lo ((e[a.toNat]!).2.2.2.2))),b]) 84 QY [h.1] [Aa0.v h.1] [Value.nilIface] Z Z Z Z Z Z Z (by kernel_rfl) ((QU _ _ _ _ (Jo (jz (v:=Aa0.v h.1) Z (Aa0.cells h.1)) QI)).trans (by kernel_rfl)) Z Z Z (λO o G=> ?_)
  refine kC f λm f=>cC 32 ?_
  refine LK (cs0:=[]) (Ls:=[(LR i ((e[a.toNat]!).1) ((e[a.toNat]!).2.1) ((e[a.toNat]!).2.2.1) ((e[a.toNat]!).2.2.2.1) (hi ((e[a.toNat]!).2.2.2.2)) (lo ((e[a.toNat]!).2.2.2.2))),b,o]) 1 (En:=QY) Z Z Z Z Z g Z (Ax G (Aj (Ls:=[(LR i ((e[a.toNat]!).1) ((e[a.toNat]!).2.1) ((e[a.toNat]!).2.2.1) ((e[a.toNat]!).2.2.2.1) (hi ((e[a.toNat]!).2.2.2.2)) (lo ((e[a.toNat]!).2.2.2.2))),b,o]) (k:=2) Z Z)) Z Z Z Z Z (Mf m Z) (Me m Z) Z (λH z I=> ?_)
  refine rz Z<|F _ _ ?_
  refine Ah<|kC f λA f=>rX A Z<|rz Z<|fg _ (Sub.pick [(LR i ((e[a.toNat]!).1) ((e[a.toNat]!).2.1) ((e[a.toNat]!).2.2.1) ((e[a.toNat]!).2.2.2.1) (hi ((e[a.toNat]!).2.2.2.2)) (lo ((e[a.toNat]!).2.2.2.2))),z,o] [1] Z) ?_
  exact⟨n+1,by omega,n,(c++([h.1])),(a+1),f,H,z,I,Ag Z Z,Z⟩
 refine AG<|C _ _ ?_
 refine Ad<|rn 2 Z<|rL (Sl.shp g) Z<|rz Z ?_
 cases f
 refine Bh (λJ=>GZ (v0:=vT #[d,vI (c.length:Int),vI 0]) g (Dy (Sub.pick [b] [0] Z)) Z (iU Z Z Z))
def SQ(N:Nat)(a:List Int)(i:Int):Option Bool:=ck ((R64 ((a.length:Int) - 1))) ((AA N i 0 ((a.length:Int) - 1)).bind λb=>some b)
theorem lO(N f i r)(a:SQ N f i=some r)(h b)(g:Rd BE h b f):Does prog 68 #[b,vI i] h [] (pV (vB r)):=by
 unfold SQ at a
 refine Al follows func68 Z 10 Z _ fz2 (λc=> ?_)
 refine AZ Z<|Ad<|rn 2 Z<|rL (Rd.shp g) Z<|kC a λd a=>rX d Z<|kB a λj e a=>rc _ (cF Fz) (AR N i 0 ((f.length:Int) - 1) _ e)<|rz Z ?_
 cases a
 exact aR eV1
def No(N:Nat)(a:List (W2×Int×Int))(i:Int):Option Bool:=ck ((R64 ((a.length:Int) - 1))) ((AA N i 0 ((a.length:Int) - 1)).bind λb=>some b)
theorem ZV(N f i r)(a:No N f i=some r)(h b)(g:Rd Af0 h b f):Does prog 69 #[b,vI i] h [] (pV (vB r)):=by
 unfold No at a
 refine Al follows func69 Z 10 Z _ fz2 (λc=> ?_)
 refine AZ Z<|Ad<|rn 2 Z<|rL (Rd.shp g) Z<|kC a λd a=>rX d Z<|kB a λj e a=>rc _ (cF Fz) (AR N i 0 ((f.length:Int) - 1) _ e)<|rz Z ?_
 cases a
 exact aR eV1
def KA(N:Nat)(a:List (W2×Int))(i:Int):Option Bool:=ck ((R64 ((a.length:Int) - 1))) ((AA N i 0 ((a.length:Int) - 1)).bind λb=>some b)
theorem TN(N f i r)(a:KA N f i=some r)(h b)(g:Rd Af1 h b f):Does prog 70 #[b,vI i] h [] (pV (vB r)):=by
 unfold KA at a
 refine Al follows func70 Z 10 Z _ fz2 (λc=> ?_)
 refine AZ Z<|Ad<|rn 2 Z<|rL (Rd.shp g) Z<|kC a λd a=>rX d Z<|kB a λj e a=>rc _ (cF Fz) (AR N i 0 ((f.length:Int) - 1) _ e)<|rz Z ?_
 cases a
 exact aR eV1
def LV(N:Nat)(a:List (W2×Int×Int×Int))(i:Int):Option Bool:=ck ((R64 ((a.length:Int) - 1))) ((AA N i 0 ((a.length:Int) - 1)).bind λb=>some b)
theorem Wd(N f i r)(a:LV N f i=some r)(h b)(g:Rd Af2 h b f):Does prog 71 #[b,vI i] h [] (pV (vB r)):=by
 unfold LV at a
 refine Al follows func71 Z 10 Z _ fz2 (λc=> ?_)
 refine AZ Z<|Ad<|rn 2 Z<|rL (Rd.shp g) Z<|kC a λd a=>rX d Z<|kB a λj e a=>rc _ (cF Fz) (AR N i 0 ((f.length:Int) - 1) _ e)<|rz Z ?_
 cases a
 exact aR eV1
def Ha(N:Nat)(m:Ao)(a:Int):Option Bool:=(RP N m.2.2.1 a).bind λb=>some b.2.2
theorem OM(N m a r)(b:Ha N m a=some r)(f)(e:AB)(g:Aa1 f e m):Does prog 72 #[vA (Ac m e),vI a] f [] (pV (vB r)):=by
 unfold Ha at b
 refine Al follows func72 Z 17 Z _ fz2 (λc=> ?_)
 refine Ad<|rA Z λh=>rz Z<|Ad<|rm 3 [0] Z<|kB b λi d b=>gV _ (cF WU) (λo w z_=>eP N m.2.2.1 a _ d z_.view e.2.1 ((Aw g.2.1) o w z_))<|rz Z<|AZ Z ?_
 cases b
 exact aR eV1
def Pv(N:Nat)(m:Ao)(c:Int)(b:Bool):Option Bool:=if b=true then(ED N m c).bind λa=>some a.2.2 else some true
def Ov(N:Nat)(m:Ao)(a:Int)(b:Int)(c:Bool):Option Bool:=if c=true then(Ha N m b).bind λd=>some d else if a=27 then Pv N m b (a==27)else Pv N m b (a==28)
def Ow(N:Nat)(m:Ao)(a:Int)(b:Int)(c:Bool):Option Bool:=if c=true then(No N m.2.2.2.2.2.2.2.2.2.2.2.2.1 b).bind λd=>some d else if a=29 then(KA N m.2.2.2.2.2.2.2.2.2.2.2.2.2.1 b).bind λf=>some f else if a=30 then(LV N m.2.2.2.2.2.2.2.2.2.2.2.2.2.2.1 b).bind λe=>some e else if a=4 then Ov N m a b (a==4)else if a=25 then Ov N m a b (a==25)else if a=26 then Ov N m a b (a==26)else Ov N m a b (a==33)
def Ox(N:Nat)(m:Ao)(c:List Int)(a:Int)(b:Int)(e:Bool):Option Bool:=if e=true then(Iw N m b).bind λd=>some d.2 else if a=3 then(SQ N c b).bind λf=>some f else if a=5 then Ow N m a b (a==5)else Ow N m a b (a==24)
def Oy(N:Nat)(m:Ao)(b:List Int)(a:Int)(c:Int)(d:Int)(e:Bool):Option Bool:=if e=true then(Hb N m c d).bind λf=>some f.2 else if a=2 then Ox N m b a c (a==2)else Ox N m b a c (a==23)
def Sa(N:Nat)(m:Ao)(a:List Int)(b:Int)(d:Int)(c:Int)(_:Int)(_:W3):Option Bool:=if b=1 then Oy N m a b d c (b==1)else Oy N m a b d c (b==22)
theorem vC(N m e b c h i f r)(a:Sa N m e b c h i f=some r)(ro)(j:AB)(y:Aa1 ro j m)(d)(k:Rd BE ro d e):DoesI prog 33 #[vA (Ac m j),d,vA #[vI b,vI c,vI h,vI i,U (hi f),U (lo f)]] Ho ro [] (pV (vB r)):=by
 unfold Sa at a
 refine Be follows func33 Z 81 Z _ fz3 Bi (λX=> ?_)
 refine Ad<|rA Z λn=>rA Z λp=>rz Z<|AZ Z<|Aa λK5 g=>AY [0] Z<|Ai<|Cb (λtt ll=> ∃(q:Bool),(Oy N m e b c h q=some r)/\Is [(1,d),(3,vP n 0),(5,vP p 0),(7,vB true),(9,vI b),(10,vB q)] [(p,53, #[vI b,vI c,vI h,vI i,U (hi f),U (lo f)]),(n,35,(Ac m j))] tt ll) ?_ ?_
 ·refine AZ Z<|aE a Z (λz a=> ?_) (λz a=> ?_)
  ·refine Ab<|fg _ (Sub.of (suK _ (suK _ suN))) ?_
   exact⟨(b==1),a,Ag Z Z⟩
  refine Ah<|rz Z<|fg _ (Sub.of (suK _ (suK _ suN))) ?_
  exact⟨(b==22),a,Ag Z Z⟩
 clear a;rintro t l ⟨q,a,⟨T,rfl⟩,rfl⟩
 unfold Oy at a
 refine aB a Z (λY a=> ?_) (λY a=> ?_)
 ·refine Ah<|rm 5 [1,0,0] Z<|kB a λr8 aa a=>gV _ (cF aU) (λo w z_=>(Does.inv (PV N m c h _ aa z_.view j (Aa1.mono z_.ro_cell y)) _))<|rz Z<|g _ _ ?_
  refine AZ Z ?_
  cases a
  exact aR eV1
 refine Cb (λtt ll=> ∃(s:Bool),(Ox N m e b c s=some r)/\Is [(1,d),(3,vP n 0),(5,vP p 0),(7,vB true),(9,vI b),(22,vB s)] [(p,53, #[vI b,vI c,vI h,vI i,U (hi f),U (lo f)]),(n,35,(Ac m j))] tt ll) ?_ ?_
 ·refine AZ Z<|aE a Z (λA a=> ?_) (λA a=> ?_)
  ·refine Ab<|fg _ (Sub.of (suK _ (suK _ suN))) ?_
   exact⟨(b==2),a,Ag Z Z⟩
  refine Ah<|rz Z<|fg _ (Sub.of (suK _ (suK _ suN))) ?_
  exact⟨(b==23),a,Ag Z Z⟩
 clear a;rintro t l ⟨s,a,⟨T,rfl⟩,rfl⟩
 unfold Ox at a
 refine aB a Z (λB a=> ?_) (λB a=> ?_)
 ·refine Ah<|rm 3 [1,0] Z<|kB a λac C a=>gV _ (cF ie) (λo w z_=>Um N m c _ C z_.view j (Aa1.mono z_.ro_cell y))<|rz Z<|g _ _ ?_
  refine AZ Z ?_
  cases a
  exact aR eV1
 refine AZ Z<|aE a Z (λD a=> ?_) (λD a=> ?_)
 ·refine Ah<|rm 3 [0] Z<|kB a λad E a=>gV _ (cF sB) (λo w z_=>(Does.inv (lO N e c _ E z_.view d (z_.r k)) _))<|rz Z<|g _ _ ?_
  refine AZ Z ?_
  cases a
  exact aR eV1
 refine Cb (λtt ll=> ∃(u:Bool),(Ow N m b c u=some r)/\Is [(3,vP n 0),(5,vP p 0),(7,vB true),(9,vI b),(38,vB u)] [(p,53, #[vI b,vI c,vI h,vI i,U (hi f),U (lo f)]),(n,35,(Ac m j))] tt ll) ?_ ?_
 ·refine AZ Z<|aE a Z (λF a=> ?_) (λF a=> ?_)
  ·refine Ab<|fg _ (Sub.of (suK _ (suK _ suN))) ?_
   exact⟨(b==5),a,Ag Z Z⟩
  refine Ah<|rz Z<|fg _ (Sub.of (suK _ (suK _ suN))) ?_
  exact⟨(b==24),a,Ag Z Z⟩
 clear a;rintro t l ⟨u,a,⟨T,rfl⟩,rfl⟩
 unfold Ow at a
 refine aB a Z (λG a=> ?_) (λG a=> ?_)
 ·refine Ah<|rm 4 [1,0] Z<|kB a λae H a=>gV _ (cF sA) (λo w z_=>(Does.inv (ZV N m.2.2.2.2.2.2.2.2.2.2.2.2.1 c _ H z_.view j.2.2.2.2.2.2.2.2.2.2.2.1 ((Aw y.2.2.2.2.2.2.2.2.2.2.2.1) o w z_)) _))<|rz Z<|g _ _ ?_
  refine AZ Z ?_
  cases a
  exact aR eV1
 refine AZ Z<|aE a Z (λI a=> ?_) (λI a=> ?_)
 ·refine Ah<|rm 4 [1,0] Z<|kB a λaf J a=>gV _ (cF sy) (λo w z_=>(Does.inv (TN N m.2.2.2.2.2.2.2.2.2.2.2.2.2.1 c _ J z_.view j.2.2.2.2.2.2.2.2.2.2.2.2.1 ((Aw y.2.2.2.2.2.2.2.2.2.2.2.2.1) o w z_)) _))<|rz Z<|g _ _ ?_
  refine AZ Z ?_
  cases a
  exact aR eV1
 refine AZ Z<|aE a Z (λK a=> ?_) (λK a=> ?_)
 ·refine Ah<|rm 4 [1,0] Z<|kB a λag L a=>gV _ (cF sx) (λo w z_=>(Does.inv (Wd N m.2.2.2.2.2.2.2.2.2.2.2.2.2.2.1 c _ L z_.view j.2.2.2.2.2.2.2.2.2.2.2.2.2 ((Aw y.2.2.2.2.2.2.2.2.2.2.2.2.2) o w z_)) _))<|rz Z<|g _ _ ?_
  refine AZ Z ?_
  cases a
  exact aR eV1
 refine Cb (λtt ll=> ∃(v:Bool),(Ov N m b c v=some r)/\Is [(3,vP n 0),(5,vP p 0),(7,vB true),(9,vI b),(60,vB v)] [(p,53, #[vI b,vI c,vI h,vI i,U (hi f),U (lo f)]),(n,35,(Ac m j))] tt ll) ?_ ?_
 ·refine AZ Z<|aE a Z (λM a=> ?_) (λM a=> ?_)
  ·refine Ab<|fg _ (Sub.of (suK _ (suK _ suN))) ?_
   exact⟨(b==4),a,Ag Z Z⟩
  refine AZ Z<|aE a Z (λO a=> ?_) (λO a=> ?_)
  ·refine Ab<|fg _ (Sub.of (suK _ (suK _ suN))) ?_
   exact⟨(b==25),a,Ag Z Z⟩
  refine AZ Z<|aE a Z (λP a=> ?_) (λP a=> ?_)
  ·refine Ab<|fg _ (Sub.of (suK _ (suK _ suN))) ?_
   exact⟨(b==26),a,Ag Z Z⟩
  refine Ah<|rz Z<|fg _ (Sub.of (suK _ (suK _ suN))) ?_
  exact⟨(b==33),a,Ag Z Z⟩
 clear a;rintro t l ⟨v,a,⟨T,rfl⟩,rfl⟩
 unfold Ov at a
 refine aB a Z (λQ a=> ?_) (λQ a=> ?_)
 ·refine Ah<|rm 3 [1,0] Z<|kB a λah R a=>gV _ (cF aT) (λo w z_=>(Does.inv (OM N m c _ R z_.view j (Aa1.mono z_.ro_cell y)) _))<|rz Z<|g _ _ ?_
  refine AZ Z ?_
  cases a
  exact aR eV1
 refine Cb (λtt ll=> ∃(x:Bool),(Pv N m c x=some r)/\Is [(3,vP n 0),(5,vP p 0),(7,vB true),(69,vB x)] [(p,53, #[vI b,vI c,vI h,vI i,U (hi f),U (lo f)]),(n,35,(Ac m j))] tt ll) ?_ ?_
 ·refine AZ Z<|aE a Z (λS a=> ?_) (λS a=> ?_)
  ·refine Ab<|fg _ (Sub.of (suK _ (suK _ suN))) ?_
   exact⟨(b==27),a,Ag Z Z⟩
  refine Ah<|rz Z<|fg _ (Sub.of (suK _ (suK _ suN))) ?_
  exact⟨(b==28),a,Ag Z Z⟩
 clear a;rintro t l ⟨x,a,⟨T,rfl⟩,rfl⟩
 unfold Pv at a
 refine aB a Z (λV a=> ?_) (λV a=> ?_)
 ·refine Ah<|rm 3 [1,0] Z<|kB a λai W a=>gV _ (cF aS) (λo w z_=>(Does.inv (NN N m c _ W z_.view j (Aa1.mono z_.ro_cell y)) _))<|rz Z<|g _ _ ?_
  refine AZ Z ?_
  cases a
  exact aR eV1
 refine Ab<|g _ _ ?_
 refine AZ Z ?_
 cases a
 exact aR eV1
def Sk(_:Nat)(s:Aa0):Option (Int×Bool):=Aa0.on s (some (0,false)) (λ_ b=>some (b,true)) (λ_ a=>some (a,true)) (some (0,false)) (λ_ _ _=>some (0,false)) (λ_ _=>some (0,false)) (λ_ _ _=>some (0,false)) (λ_ _=>some (0,false)) (λ_ _=>some (0,false)) (λ_ _=>some (0,false)) (λ_ _=>some (0,false)) (λ_=>some (0,false))
theorem fH(N s r)(c:Sk N s=some r):Gives prog 133 #[Aa0.v s] (vT #[vI r.1,vB r.2]):=by
 unfold Sk at c
 refine Aq follows func133 Z 24 Z _ fz1 (λi=> ?_)
 refine AZ Z<|Aa λj e=>Aa λk d=>Ah<|rn 1 Z ?_
 rcases Aa0.cases s with a|⟨x5_0,x6_1,a⟩|⟨x7_0,x8_1,a⟩|a|⟨x9_0,x10_1,x11_2,a⟩|⟨x12_0,x13_1,a⟩|⟨x14_0,x15_1,x16_2,a⟩|⟨x17_0,x18_1,a⟩|⟨x19_0,x20_1,a⟩|⟨x21_0,x22_1,a⟩|⟨x23_0,x24_1,a⟩|⟨x25_0,a⟩
 ·replace c:=Aa0.on_nil a c
  refine r_W (vT #[vA #[vI 0,vI 0],vB false]) Z (AE (congrArg Aa0.v a) Z) ?_
  refine rn 3 Z<|rA Z λf=>ry [0] Z<|d _ _ ?_
  refine AZ Z<|Co Z ?_
  refine Ab<|e _ _ ?_
  refine Aa λg b=>Ad<|rn 1 Z<|r_W (vT #[vA #[vI 0,vI 0],vB false]) Z (AE (congrArg Aa0.v a) Z) ?_
  refine rn 3 Z<|rA Z λh=>ry [0] Z<|AZ Z<|Co Z ?_
  refine Ab<|b _ _ ?_
  refine AZ Z ?_
  cases c
  exact aR eE2
 ·replace c:=Aa0.on_t121 a c
  refine r_W (vT #[vA #[vI x5_0,vI x6_1],vB true]) Z (AE (congrArg Aa0.v a) Z) ?_
  refine rn 3 Z<|rA Z λf=>ry [0] Z<|d _ _ ?_
  refine AZ Z<|Nt Z ?_
  refine AY [0] Z ?_
  cases c
  exact aR eE2
 ·replace c:=Aa0.on_t123 a c
  refine r_W (vT #[vA #[vI 0,vI 0],vB false]) Z (AE (congrArg Aa0.v a) Z) ?_
  refine rn 3 Z<|rA Z λf=>ry [0] Z<|d _ _ ?_
  refine AZ Z<|Co Z ?_
  refine Ab<|e _ _ ?_
  refine Aa λg b=>Ad<|rn 1 Z<|r_W (vT #[vA #[vI x7_0,vI x8_1],vB true]) Z (AE (congrArg Aa0.v a) Z) ?_
  refine rn 3 Z<|rA Z λh=>ry [0] Z<|AZ Z<|Nt Z ?_
  refine AY [0] Z ?_
  cases c
  exact aR eE2
 ·replace c:=Aa0.on_t125 a c
  refine r_W (vT #[vA #[vI 0,vI 0],vB false]) Z (AE (congrArg Aa0.v a) Z) ?_
  refine rn 3 Z<|rA Z λf=>ry [0] Z<|d _ _ ?_
  refine AZ Z<|Co Z ?_
  refine Ab<|e _ _ ?_
  refine Aa λg b=>Ad<|rn 1 Z<|r_W (vT #[vA #[vI 0,vI 0],vB false]) Z (AE (congrArg Aa0.v a) Z) ?_
  refine rn 3 Z<|rA Z λh=>ry [0] Z<|AZ Z<|Co Z ?_
  refine Ab<|b _ _ ?_
  refine AZ Z ?_
  cases c
  exact aR eE2
 ·replace c:=Aa0.on_t164 a c
  refine r_W (vT #[vA #[vI 0,vI 0],vB false]) Z (AE (congrArg Aa0.v a) Z) ?_
  refine rn 3 Z<|rA Z λf=>ry [0] Z<|d _ _ ?_
  refine AZ Z<|Co Z ?_
  refine Ab<|e _ _ ?_
  refine Aa λg b=>Ad<|rn 1 Z<|r_W (vT #[vA #[vI 0,vI 0],vB false]) Z (AE (congrArg Aa0.v a) Z) ?_
  refine rn 3 Z<|rA Z λh=>ry [0] Z<|AZ Z<|Co Z ?_
  refine Ab<|b _ _ ?_
  refine AZ Z ?_
  cases c
  exact aR eE2
 ·replace c:=Aa0.on_t166 a c
  refine r_W (vT #[vA #[vI 0,vI 0],vB false]) Z (AE (congrArg Aa0.v a) Z) ?_
  refine rn 3 Z<|rA Z λf=>ry [0] Z<|d _ _ ?_
  refine AZ Z<|Co Z ?_
  refine Ab<|e _ _ ?_
  refine Aa λg b=>Ad<|rn 1 Z<|r_W (vT #[vA #[vI 0,vI 0],vB false]) Z (AE (congrArg Aa0.v a) Z) ?_
  refine rn 3 Z<|rA Z λh=>ry [0] Z<|AZ Z<|Co Z ?_
  refine Ab<|b _ _ ?_
  refine AZ Z ?_
  cases c
  exact aR eE2
 ·replace c:=Aa0.on_t169 a c
  refine r_W (vT #[vA #[vI 0,vI 0],vB false]) Z (AE (congrArg Aa0.v a) Z) ?_
  refine rn 3 Z<|rA Z λf=>ry [0] Z<|d _ _ ?_
  refine AZ Z<|Co Z ?_
  refine Ab<|e _ _ ?_
  refine Aa λg b=>Ad<|rn 1 Z<|r_W (vT #[vA #[vI 0,vI 0],vB false]) Z (AE (congrArg Aa0.v a) Z) ?_
  refine rn 3 Z<|rA Z λh=>ry [0] Z<|AZ Z<|Co Z ?_
  refine Ab<|b _ _ ?_
  refine AZ Z ?_
  cases c
  exact aR eE2
 ·replace c:=Aa0.on_t241 a c
  refine r_W (vT #[vA #[vI 0,vI 0],vB false]) Z (AE (congrArg Aa0.v a) Z) ?_
  refine rn 3 Z<|rA Z λf=>ry [0] Z<|d _ _ ?_
  refine AZ Z<|Co Z ?_
  refine Ab<|e _ _ ?_
  refine Aa λg b=>Ad<|rn 1 Z<|r_W (vT #[vA #[vI 0,vI 0],vB false]) Z (AE (congrArg Aa0.v a) Z) ?_
  refine rn 3 Z<|rA Z λh=>ry [0] Z<|AZ Z<|Co Z ?_
  refine Ab<|b _ _ ?_
  refine AZ Z ?_
  cases c
  exact aR eE2
 ·replace c:=Aa0.on_t242 a c
  refine r_W (vT #[vA #[vI 0,vI 0],vB false]) Z (AE (congrArg Aa0.v a) Z) ?_
  refine rn 3 Z<|rA Z λf=>ry [0] Z<|d _ _ ?_
  refine AZ Z<|Co Z ?_
  refine Ab<|e _ _ ?_
  refine Aa λg b=>Ad<|rn 1 Z<|r_W (vT #[vA #[vI 0,vI 0],vB false]) Z (AE (congrArg Aa0.v a) Z) ?_
  refine rn 3 Z<|rA Z λh=>ry [0] Z<|AZ Z<|Co Z ?_
  refine Ab<|b _ _ ?_
  refine AZ Z ?_
  cases c
  exact aR eE2
 ·replace c:=Aa0.on_t243 a c
  refine r_W (vT #[vA #[vI 0,vI 0],vB false]) Z (AE (congrArg Aa0.v a) Z) ?_
  refine rn 3 Z<|rA Z λf=>ry [0] Z<|d _ _ ?_
  refine AZ Z<|Co Z ?_
  refine Ab<|e _ _ ?_
  refine Aa λg b=>Ad<|rn 1 Z<|r_W (vT #[vA #[vI 0,vI 0],vB false]) Z (AE (congrArg Aa0.v a) Z) ?_
  refine rn 3 Z<|rA Z λh=>ry [0] Z<|AZ Z<|Co Z ?_
  refine Ab<|b _ _ ?_
  refine AZ Z ?_
  cases c
  exact aR eE2
 ·replace c:=Aa0.on_t245 a c
  refine r_W (vT #[vA #[vI 0,vI 0],vB false]) Z (AE (congrArg Aa0.v a) Z) ?_
  refine rn 3 Z<|rA Z λf=>ry [0] Z<|d _ _ ?_
  refine AZ Z<|Co Z ?_
  refine Ab<|e _ _ ?_
  refine Aa λg b=>Ad<|rn 1 Z<|r_W (vT #[vA #[vI 0,vI 0],vB false]) Z (AE (congrArg Aa0.v a) Z) ?_
  refine rn 3 Z<|rA Z λh=>ry [0] Z<|AZ Z<|Co Z ?_
  refine Ab<|b _ _ ?_
  refine AZ Z ?_
  cases c
  exact aR eE2
 replace c:=Aa0.on_t247 a c
 refine r_W (vT #[vA #[vI 0,vI 0],vB false]) Z (AE (congrArg Aa0.v a) Z) ?_
 refine rn 3 Z<|rA Z λf=>ry [0] Z<|d _ _ ?_
 refine AZ Z<|Co Z ?_
 refine Ab<|e _ _ ?_
 refine Aa λg b=>Ad<|rn 1 Z<|r_W (vT #[vA #[vI 0,vI 0],vB false]) Z (AE (congrArg Aa0.v a) Z) ?_
 refine rn 3 Z<|rA Z λh=>ry [0] Z<|AZ Z<|Co Z ?_
 refine Ab<|b _ _ ?_
 refine AZ Z ?_
 cases c
 exact aR eE2
def Qc(N:Nat)(s:Aa0):Option (Int×Bool):=(Sk N s).bind λa=>some (a.1,a.2)
theorem fJ(N s r)(a:Qc N s=some r):Gives prog 74 #[Aa0.v s] (vT #[vI r.1,vB r.2]):=by
 unfold Qc at a
 refine Aq follows func74 Z 8 Z _ fz1 (λb=> ?_)
 refine AZ Z<|Ad<|rn 1 Z<|kB a λd c a=>rc _ (cF pe) (fH N s _ c)<|rz Z ?_
 cases a
 exact aR eE2
def Hm(N:Nat)(s:Aa0)(a:Int)(b:Int):Option Bool:=(Qc N s).bind λc=>if c.2=true then ck (R64 (a+1)) ((AA N c.1 (a+1) b).bind λd=>some d)else some true
theorem VY(N s c b r)(a:Hm N s c b=some r):Gives prog 34 #[Aa0.v s,vI c,vI b] (vB r):=by
 unfold Hm at a
 refine Aq follows func34 Z 23 Z _ fz3 (λf=> ?_)
 refine AZ Z<|Ad<|rn 1 Z<|kB a λj g a=>rc _ (cF su) (fJ N s _ g)<|rz Z<|Aa λk d=>Ah<|rn 3 Z ?_
 rcases e:(!(j.2))with _|_
 ·replace a:=ifp (Dl e) a
  refine rn 2 Z<|r_y Z<|kC a λh a=>rX h Z<|rn 1 Z<|r_y Z<|kB a λl i a=>rc _ (cF Fz) (AR N j.1 (c+1) b _ i)<|rz Z<|d _ _ ?_
  cases a
  exact aR eE1
 replace a:=ifn (Bool.eq_false_iff.1 (Dk e)) a
 refine rz Z<|d _ _ ?_
 cases a
 exact aR eE1
def Hc(N:Nat)(i:Int)(s:Aa0)(c:Ao)(d:List Int)(a:List (W1)):Option Int:=ck (0<=i/\i<(a.length:Int)) ((Sa N c d ((a[i.toNat]!).1) ((a[i.toNat]!).2.1) ((a[i.toNat]!).2.2.1) ((a[i.toNat]!).2.2.2.1) ((a[i.toNat]!).2.2.2.2)).bind λf=>(Ap N f 5).bind λh=>(Hm N s i (a.length:Int)).bind λg=>(Ap N g 12).bind λe=>(AI N ([h,e])).bind λb=>some b)
theorem Xt(N i s c g a r)(f:Hc N i s c g a=some r)(C)(q:Nat)(d:AB)(D:Aa1 C d c)(x:Blk C q (GY c d))(t:Nat)(e)(E:Rd BE C e g)(y:Blk C t [e])(u:Nat)(b)(h:Rd Ac8 C b a)(j:Blk C u [b]):DoesI prog 30 #[vI i,Aa0.v s,vP q 0,vP t 0,vP u 0] Ho C [] (pV (vI r)):=by
 unfold Hc at f
 refine Be follows func30 Z 24 Z _ fz5 Bi (λK=> ?_)
 refine AZ Z<|Aa λU L=> ?_
 refine BB [(some 14,false),(some 22,false),(some 23,false)] (conG prog [(14,cV (Sa N c g ((a[i.toNat]!).1) ((a[i.toNat]!).2.1) ((a[i.toNat]!).2.2.1) ((a[i.toNat]!).2.2.2.1) ((a[i.toNat]!).2.2.2.2)) λn=>vB n),(23,λ_ _ v_ L_ U_=> ∀n,Sa N c g ((a[i.toNat]!).1) ((a[i.toNat]!).2.1) ((a[i.toNat]!).2.2.1) ((a[i.toNat]!).2.2.2.1) ((a[i.toNat]!).2.2.2.2)=some n-> ∀F,Ap N n 5=some F-> ∀G,Hm N s i (a.length:Int)=some G-> ∀H,Ap N G 12=some H-> ∀I,AI N ([F,H])=some I->(pV (vI I)) v_ L_ U_)]) [] (by decide+kernel) (λV=>AK) ?_
 refine HO (vA (Ac c d)) (vs:=(GY c d)) (o:=0) Z Z (AT x) Z<|HO e (vs:=[e]) (o:=0) Z Z (AT y) Z<|HO b (vs:=[b]) (o:=0) Z Z (AT j) Z<|rn 1 Z<|kC f λJ f=>rI (Rd.shp h) J Z<|rE (Aw h) J 0 Z<|kB f λR p f=>rg _ (cF td) (λo w z_=>vC N c g ((a[i.toNat]!).1) ((a[i.toNat]!).2.1) ((a[i.toNat]!).2.2.1) ((a[i.toNat]!).2.2.2.1) ((a[i.toNat]!).2.2.2.2) _ p z_.view d (Aa1.mono z_.ro_cell D) e (z_.r E)) (GQ p)<|kB f λM z f=>rc _ (cF Bk) (Az N R 5 _ z)<|rn 2 Z<|HO b (vs:=[b]) (o:=0) Z Z (AT j) Z<|rL (Rd.shp h) Z<|kB f λS A f=>rc _ (cF tc) (VY N s i (a.length:Int) _ A)<|kB f λB l f=>rc _ (cF Bk) (Az N S 12 _ l) ?_
 refine Ke (Ls:=[]) 43 BE [M,B] [vI M,vI B] [vI 0,vI 0] Z Z Z Z Z Z Z (by kernel_rfl) (by kernel_rfl) Z Z Z (λO P Q=> ?_)
 refine kB f λT m f=>rg _ (cF Fb) (λo w z_=>(Does.inv (Cc N ([M,B]) _ m z_.view O ((Ax Q (Aj (Ls:=[P]) (k:=0) Z Z)) o w z_)) _)) (λ_ _ v_ L_ U_=>⟨λh_=>h_ _ p _ z _ A _ l _ m,λh_=>by intro _ e_;cases q1 (e_.symm.trans p);intro _ e_;cases q1 (e_.symm.trans z);intro _ e_;cases q1 (e_.symm.trans A);intro _ e_;cases q1 (e_.symm.trans l);intro _ e_;cases q1 (e_.symm.trans m);exact h_⟩) ?_
 refine rz Z<|L _ _ ?_
 cases f
 exact aR eV1
def FA(N:Nat)(e:List Aa0)(d:Ao)(c:List Int)(b:List (W1)):Nat->Int->Option (Int×Int)
  |0,_=>none
  |g+1,a=>if a<(e.length:Int)then ck (0<=a/\a<(e.length:Int)) ((Hc N a (e[a.toNat]!) d c b).bind λf=>if(f:Int)≠0 then some (a,f)else ck (R64 (a+1)) ((FA N e d c b g) (a+1)))else some (0,0)
def Ix(N:Nat)(e:List Aa0)(d:Int)(c:Ao)(b:List Int)(a:List (W1)):Option (Int×Int):=if(e.length:Int)>d then some (0,2)else FA N e c b a N 0
theorem SP(N I y e f g r)(d:Ix N I y e f g=some r)(z B)(v:Rd QY z B I)(a:Nat)(h:AB)(q:Aa1 z h e)(m:Blk z a (GY e h))(b:Nat)(i)(s:Rd BE z i f)(n:Blk z b [i])(c:Nat)(j)(u:Rd Ac8 z j g)(p:Blk z c [j]):DoesI prog 29 #[B,vI y,vF 30 #[] #[vP a 0,vP b 0,vP c 0]] Ho z [] (pV (vT #[vI r.1,vI r.2])):=by
 unfold Ix at d
 refine Be follows func29 Z 31 Z _ fz3 Bi (λJ=> ?_)
 refine AZ Z<|Aa λR K=>Ad<|rn 1 Z<|rL (Rd.shp v) Z<|rz Z<|aD d Z (λL d=> ?_) (λL d=> ?_)
 ·refine AZ Z ?_
  cases d
  exact aR eV2
 refine Ab<|K _ _ ?_
 refine Aa λS M=>Ad<|rn 1 Z<|rL (Rd.shp v) Z<|rz Z<|Ai<|AH (λtt ll nn=> ∃(A:Nat) (k:Int),(FA N I e f g A k=some r)/\Is [(2,vF 30 #[] #[vP a 0,vP b 0,vP c 0]),(15,B),(16,vI (I.length:Int)),(17,vI k)] [] tt ll/\nn=A+1) (N+1) ?_ ?_
 ·exact⟨N,0,d,Ag Z Z,Z⟩
 clear d;rintro t l _ ⟨A,k,d,⟨⟨T,rfl⟩,rfl⟩,rfl⟩
 rcases A with _|A
 ·exact absurd d (by simp [FA])
 rw [FA] at d
 refine AZ Z<|Aa λO C=>aD d Z (λD d=> ?_) (λD d=> ?_)
 ·refine Ab<|C _ _ ?_
  refine Aa λP E=>Ai<|Ad<|rn 1 Z<|kC d λx d=>rI (Rd.shp v) x Z<|rE (Aw v) x 0 Z<|rz Z<|Ad<|rn 3 Z<|kB d λQ F d=>gV _ (BO (caps:=[vP a 0,vP b 0,vP c 0]) Z te Z) (λo w z_=>Xt N k (I[k.toNat]!) e f g _ F z_.view a h (Aa1.mono z_.ro_cell q) (AT m o w z_) b i (z_.r s) (AT n o w z_) c j (z_.r u) (AT p o w z_))<|rz Z<|AZ Z<|aN d Z (λG d=> ?_) (λG d=> ?_)
  ·refine AZ Z ?_
   cases d
   exact aR eV2
  refine Ab<|E _ _ ?_
  refine Ah<|kC d λH d=>rX H Z<|rz Z<|fg _ (Sub.of suN) ?_
  exact⟨A+1,by omega,A,(k+1),d,Ag Z Z,Z⟩
 refine AG<|M _ _ ?_
 refine AZ Z ?_
 cases d
 exact aR eV2
def HD(N:Nat)(m:Ao)(a:List Int)(c:List (W1)):Option Int:=if(a.length:Int)>8 then some 2 else(Rs N c).bind λb=>if(b.2.2:Int)≠0 then some b.2.2 else(Ix N b.1 64 m a c).bind λd=>some d.2
theorem QN(N m c t r)(e:HD N m c t=some r)(u)(l:AB)(E:Aa1 u l m)(a)(b:Rd BE u a c)(d)(f:Rd Ac8 u d t):DoesI prog 19 #[vA (Ac m l),a,d] Ho u [] (pV (vI r)):=by
 unfold HD at e
 refine Be follows func19 Z 29 Z _ fz3 Bi (λn=> ?_)
 refine Ad<|rA Z λp=>r_a (29, #[a]) Z Z (Od Z (Rd.shp b)) (λq=> ?_) (.inr Z)
 refine r_a (36, #[d]) Z Z (Od Z (Rd.shp f)) (λs=> ?_) (.inr Z)
 refine rz Z<|Aa λF v=>Ad<|rm 1 [1] Z<|rL (Rd.shp b) Z<|rz Z<|aD e Z (λx e=> ?_) (λx e=> ?_)
 ·refine AZ Z ?_
  cases e
  exact aR eV1
 refine Ab<|v _ _ ?_
 refine Ad<|rm 1 [0] Z<|kB e λy g e=>gS (Ls:=[(gF s d),(gG q a),[(p,35,(Ac m l))]]) (cF ip) (λo w z_=>(Does.inv (gZ N t _ g z_.view d ((Aw f) o w z_)) _)) (λz A B=> ?_)
 refine rz Z<|Aa λD h=>AZ Z<|aN e Z (λi e=> ?_) (λi e=> ?_)
 ·refine AZ Z ?_
  cases e
  exact aR eV1
 refine Ab<|h _ _ ?_
 refine Ad<|rn 1 Z<|r_W (vF 30 #[] #[vP p 0,vP q 0,vP s 0]) Z (Jc Z)<|kB e λC j e=>gV _ (cF tf) (λo w z_=>SP N y.1 64 m c t _ j z_.view z ((Ax B (Aj (Ls:=[(gF s d),(gG q a),[(p,35,(Ac m l))],A]) (k:=3) Z Z)) o w z_) p l (Aa1.mono z_.ro_cell E) (CN 2 Z Z o w z_) q a (z_.r b) (CN 1 Z Z o w z_) s d ((Aw f) o w z_) (CN 0 Z Z o w z_))<|rz Z<|GS [(9,vI C.2)] Z (λT=> ?_)
 refine AZ Z ?_
 cases e
 exact aR eV1
def IG(N:Nat)(c:Ao)(_:W2)(a:List Int)(b:List (W1)):Option Int:=(Ou N a 8).bind λf=>(HD N c a b).bind λe=>(AI N ([f.2,e])).bind λd=>some d
theorem XQ(N c d e h r)(f:IG N c d e h=some r)(n)(j:AB)(B:Aa1 n j c)(a)(g:Rd BE n a e)(b)(l:Rd Ac8 n b h):DoesI prog 110 #[vA (Ac c j),vA #[vS d,a,b]] Ho n [] (pV (vI r)):=by
 unfold IG at f
 refine Be follows func110 Z 23 Z _ fz2 Bi (λm=> ?_)
 refine Ad<|rA Z λv=>rA Z λx=>rz Z<|Ad<|rm 2 [0] Z<|kB f λy p f=>gV _ (cF Th) (λo w z_=>(Does.inv (cu N e 8 _ p z_.view a (z_.r g)) _))<|rz Z<|Ad<|rm 7 [1,0,0] Z<|kB f λz q f=>gV _ (cF aY) (λo w z_=>QN N c e h _ q z_.view j (Aa1.mono z_.ro_cell B) a (z_.r g) b (z_.r l))<|gB (Ls:=[(QM x d a b),[(v,104,(Ac c j))]]) 43 BE [y.2,z] (λs t u=> ?_)
 refine kB f λA i f=>gV _ (cF Fb) (λo w z_=>(Does.inv (Cc N ([y.2,z]) _ i z_.view s ((Ax u (Aj (Ls:=[(QM x d a b),[(v,104,(Ac c j))],t]) (k:=2) Z Z)) o w z_)) _))<|rz Z ?_
 cases f
 exact aR eV1
def KB(N:Nat)(i:Int)(c:W2)(e:List Int)(d:List (W1))(b:List (W2))(a:Ao):Option Int:=ck (0<=i/\i<(b.length:Int)) ((EZ N (b[i.toNat]!)).bind λj=>(Ap N j 4).bind λk=>(Ba N b i).bind λh=>(IG N a c e d).bind λg=>(AI N ([k,h,g])).bind λf=>some f)
theorem TO(N i g t u f a r)(j:KB N i g t u f a=some r)(C d)(I:Rd BE C d t)(e)(J:Rd Ac8 C e u)(v:Nat)(c)(p:Rd Aa3 C c f)(q:Blk C v [c])(x:Nat)(b:AB)(h:Aa1 C b a)(y:Blk C x [vF 110 #[vA (Ac a b)] #[]]):DoesI prog 178 #[vI i,vA #[vS g,d,e],vP v 0,vP x 0] Ho C [] (pV (vI r)):=by
 unfold KB at j
 refine Be follows func178 Z 21 Z _ fz4 Bi (λK=> ?_)
 refine Ad<|rA Z λS=>rz Z<|Aa λV L=> ?_
 refine BB [(some 15,false),(some 18,false),(some 19,false),(some 20,false)] (conG prog [(15,cV (Ba N f i) λn=>vI n),(18,cV (IG N a g t u) λn=>vI n),(20,λ_ _ v_ L_ U_=> ∀n,EZ N (f[i.toNat]!)=some n-> ∀D,Ap N n 4=some D-> ∀E,Ba N f i=some E-> ∀F,IG N a g t u=some F-> ∀G,AI N ([D,E,F])=some G->(pV (vI G)) v_ L_ U_)]) [] (by decide+kernel) (λW=>AK) ?_
 refine HO c (vs:=[c]) (o:=0) Z Z (AT q) Z<|rn 1 Z<|kC j λH j=>rI (Rd.shp p) H Z<|rE (Aw p) H 0 Z<|kB j λT z j=>rc _ (cF Oc) (Mo N (f[i.toNat]!) _ z)<|kB j λM A j=>rc _ (cF Bk) (Az N T 4 _ A)<|HO c (vs:=[c]) (o:=0) Z Z (AT q) Z<|rn 1 Z<|kB j λO l j=>rg _ (cF OI) (λo w z_=>(Does.inv (Iu N f i _ l z_.view c (z_.r p)) _)) (GQ l)<|HO (vF 110 #[vA (Ac a b)] #[]) (vs:=[vF 110 #[vA (Ac a b)] #[]]) (o:=0) Z Z (AT y) Z<|rm 1 [0] Z<|kB j λB m j=>rg _ (QW (bd:=[vA (Ac a b)]) (caps:=[]) Z pz Z) (λo w z_=>XQ N a g t u _ m z_.view b (Aa1.mono z_.ro_cell h) d (z_.r I) e (z_.r J)) (GQ m) ?_
 refine Ke (Ls:=[(QM S g d e)]) 43 BE [M,O,B] [vI M,vI O,vI B] [vI 0,vI 0,vI 0] Z Z Z Z Z Z Z (by kernel_rfl) (by kernel_rfl) Z Z Z (λP Q R=> ?_)
 refine kB j λU s j=>rg _ (cF Fb) (λo w z_=>(Does.inv (Cc N ([M,O,B]) _ s z_.view P ((Ax R (Aj (Ls:=[(QM S g d e),Q]) (k:=1) Z Z)) o w z_)) _)) (λ_ _ v_ L_ U_=>⟨λh_=>h_ _ z _ A _ l _ m _ s,λh_=>by intro _ e_;cases q1 (e_.symm.trans z);intro _ e_;cases q1 (e_.symm.trans A);intro _ e_;cases q1 (e_.symm.trans l);intro _ e_;cases q1 (e_.symm.trans m);intro _ e_;cases q1 (e_.symm.trans s);exact h_⟩) ?_
 refine rz Z<|L _ _ ?_
 cases j
 exact aR eV1
def Ih(N:Nat)(d:List ((W2)×(List Int)×(List (W1))))(c:List (W2))(b:Ao):Nat->Int->Option (Int×Int)
  |0,_=>none
  |f+1,a=>if a<(d.length:Int)then ck (0<=a/\a<(d.length:Int)) ((KB N a (d[a.toNat]!.1) (d[a.toNat]!.2.1) (d[a.toNat]!.2.2) c b).bind λe=>if(e:Int)≠0 then some (a,e)else ck (R64 (a+1)) ((Ih N d c b f) (a+1)))else some (0,0)
def Ma(N:Nat)(d:List ((W2)×(List Int)×(List (W1))))(c:Int)(b:List (W2))(a:Ao):Option (Int×Int):=if(d.length:Int)>c then some (0,2)else Ih N d b a N 0
theorem Wj(N p y g a r)(f:Ma N p y g a=some r)(B A)(s:RdN Ad7 B A p)(c:Nat)(h)(q:Rd Aa3 B h g)(j:Blk B c [h])(d:Nat)(b:AB)(i:Aa1 B b a)(k:Blk B d [vF 110 #[vA (Ac a b)] #[]]):DoesI prog 177 #[A,vI y,vF 178 #[] #[vP c 0,vP d 0]] Ho B [] (pV (vT #[vI r.1,vI r.2])):=by
 unfold Ma at f
 refine Be follows func177 Z 31 Z _ fz3 Bi (λJ=> ?_)
 refine AZ Z<|Aa λS K=>Ad<|rn 1 Z<|rL (RdN.shp s) Z<|rz Z<|aD f Z (λL f=> ?_) (λL f=> ?_)
 ·refine AZ Z ?_
  cases f
  exact aR eV2
 refine Ab<|K _ _ ?_
 refine Aa λU M=>Ad<|rn 1 Z<|rL (RdN.shp s) Z<|rz Z<|Ai<|AH (λtt ll nn=> ∃(z:Nat) (e:Int),(Ih N p g a z e=some r)/\Is [(2,vF 178 #[] #[vP c 0,vP d 0]),(15,A),(16,vI (p.length:Int)),(17,vI e)] [] tt ll/\nn=z+1) (N+1) ?_ ?_
 ·exact⟨N,0,f,Ag Z Z,Z⟩
 clear f;rintro t l _ ⟨z,e,f,⟨⟨T,rfl⟩,rfl⟩,rfl⟩
 rcases z with _|z
 ·exact absurd f (by simp [Ih])
 rw [Ih] at f
 refine AZ Z<|Aa λP C=>aD f Z (λD f=> ?_) (λD f=> ?_)
 ·refine Ab<|C _ _ ?_
  refine Aa λQ F=>Ai<|Ad<|rn 1 Z<|kC f λu f=> ?_
  obtain⟨_,⟨m,n,v,x,rfl⟩,hat19⟩:=RdN.at (E:=Ad7) s (Dx u)
  refine rI (RdN.shp s) u Z<|Oe (vA #[vS (p[e.toNat]!.1),m,n]) (vs:=[vS (p[e.toNat]!.1),m,n]) (e.toNat*3) 0 Z Z (λo w z_=>At.mono z_.ro_cell hat19) Z<|rA Z λO=>rn 1 Z<|r_s (QM O (p[e.toNat]!.1) m n) 0 _ _ _ _ _ (#[vS (p[e.toNat]!.1),m,n]) Z Z Z Z (.ofS Z Z (Ae Z (Ae (Shp.one (Rd.shp v)) (Ae (Shp.one (Rd.shp x)) BA)))) Z Z<|Ak<|Ad<|rm 3 [0] Z<|kB f λR G f=>gV _ (BO (caps:=[vP c 0,vP d 0]) Z ou Z) (λo w z_=>TO N e (p[e.toNat]!.1) (p[e.toNat]!.2.1) (p[e.toNat]!.2.2) g a _ G z_.view m (z_.r v) n (z_.r x) c h (z_.r q) (AT j o w z_) d b (Aa1.mono z_.ro_cell i) (AT k o w z_))<|rz Z<|AZ Z<|aN f Z (λH f=> ?_) (λH f=> ?_)
  ·refine AZ Z ?_
   cases f
   exact aR eV2
  refine Ab<|F _ _ ?_
  refine Ah<|kC f λI f=>rX I Z<|rz Z<|fg _ (Sub.of (suC _ suN)) ?_
  exact⟨z+1,by omega,z,(e+1),f,Ag Z Z,Z⟩
 refine AG<|M _ _ ?_
 refine AZ Z ?_
 cases f
 exact aR eV2
def NP(N:Nat)(d:List ((W2)×(List Int)×(List (W1))))(c:Int)(a:Ao):Option (Int×Int):=(NQ N d).bind λe=>(Ma N d c e a).bind λb=>some (b.1,b.2)
theorem Wf(N n c b r)(f:NP N n c b=some r)(s e)(i:RdN Ad7 s e n)(a:AB)(d:Aa1 s a b):DoesI prog 108 #[e,vI c,vF 109 #[] #[],vF 110 #[vA (Ac b a)] #[]] Ho s [] (pV (vT #[vI r.1,vI r.2])):=by
 unfold NP at f
 refine Be follows func108 Z 20 Z _ fz4 Bi (λj=> ?_)
 refine Ad<|rA Z λg=>rz Z<|Ad<|rn 2 Z<|kB f λu p f=>gS (Ls:=[(VT g (vF 110 #[vA (Ac b a)] #[]))]) (cF oz) (λo w z_=>(Does.inv (Wh N n _ p z_.view e (RdN.mono z_.ro_cell i)) _)) (λl t q=> ?_)
 refine rA Z λm=>r_s (List.flatten [(cf m l),(VT g (vF 110 #[vA (Ac b a)] #[])),t]) 0 _ _ _ _ _ (#[l]) Z Z Z (Gs Z (Sl.shp q)) (.ofS Z Z (Ae (Shp.one (Sl.shp q)) BA)) Z Z<|Ak<|Ad<|rn 2 Z<|r_W (vF 178 #[] #[vP m 0,vP g 0]) Z (Jc Z)<|kB f λv h f=>gV _ (cF ow) (λo w z_=>Wj N n c u b _ h z_.view e (RdN.mono z_.ro_cell i) m l ((Ax q (Aj (Ls:=[(cf m l),(VT g (vF 110 #[vA (Ac b a)] #[])),t]) (k:=2) Z Z)) o w z_) (CN 0 Z Z o w z_) g a (Aa1.mono z_.ro_cell d) (CN 1 Z Z o w z_))<|rz Z ?_
 cases f
 exact aR eV2
end Go.Proofs.YtjlomkippigejaaGreatDoor
