import Derived.Test.YthmpbldidnmenaaGreatDoorBg
namespace Go.Proofs.YthmpbldidnmenaaGreatDoor
open Go Go.RowKit Go.Eng _root_.Go.Proofs.Tryz
set_option linter.unusedSimpArgs false
set_option linter.unusedVariables false
set_option maxRecDepth 100000
set_option maxHeartbeats 80000000
abbrev JG(b:Nat)(x0:Int)(x1:Int)(x2:Int)(x3:Int)(x4:BitVec 64)(x5:BitVec 64):List Bl:=[(b,41, #[vI x0,vI x1,vI x2,vI x3,U x4,U x5])]
abbrev dY(b:Nat)(x0:Value):List Bl:=[(b,64, #[x0])]
abbrev dZ(b:Nat)(x0:Value):List Bl:=[(b,29, #[x0])]
abbrev Pz(b:Nat)(x0:List UInt8)(x1:Value)(x2:Value):List Bl:=[(b,188, #[vS x0,x1,x2])]
abbrev UD(b:Nat)(x0:Value):List Bl:=[(b,245, #[x0])]
abbrev ai(b:Nat)(x0:Value):List Bl:=[(b,136, #[x0])]
def Qb(_:Nat)(o:Int):Option Bool:=if o≥0 then some (decide (o<35))else some false
theorem jt(N o r)(a:Qb N o=some r):Gives prog 62 #[vI o] (vB r):=by
 unfold Qb at a
 refine As follows func62 rfl 9 rfl _ fz1 (fun d=> ?_)
 refine AZ rfl<|Aa fun e b=>Ag<|rn 3 rfl ?_
 rcases c:(decide (o≥0))with _|_
 ·replace a:=iF c a
  refine rz rfl<|b _ _ ?_
  cases a
  exact aR eE1
 replace a:=iD c a
 refine rz rfl<|b _ _ ?_
 cases a
 exact aR eE1
def HP(_:Nat)(b:Int)(a:Int)(n:Int):Option Bool:=if n≥b then some (decide (n≤a))else some false
theorem RQ(N s_0 s_1 n r)(a:HP N s_0 s_1 n=some r):Gives prog 63 #[vA #[vI s_0,vI s_1],vI n] (vB r):=by
 unfold HP at a
 refine As follows func63 rfl 15 rfl _ fz2 (fun d=> ?_)
 refine Ad<|rA rfl fun e=>rz rfl<|Aa fun f b=>Ag<|rm 5 [0] rfl ?_
 rcases c:(decide (n≥s_0))with _|_
 ·replace a:=iF c a
  refine rz rfl<|b _ _ ?_
  cases a
  exact aR eE1
 replace a:=iD c a
 refine rn 2 rfl<|r_y rfl<|ry [0] rfl<|b _ _ ?_
 cases a
 exact aR eE1
def Jf(N:Nat)(c:Int)(_:Int)(_:Int)(a:Int)(b:BitVec 128):Option Bool:=if c=0 then(LJ N a b).bind fun d=>some d else some ((a==0)&&(b==((0#64)++(0#64))))
theorem Xd(N x_0 x_1 x_2 x_3 x_4 r)(a:Jf N x_0 x_1 x_2 x_3 x_4=some r):Gives prog 64 #[vA #[vI x_0,vI x_1,vI x_2,vI x_3,U (hi x_4),U (lo x_4)]] (vB r):=by
 unfold Jf at a
 refine As follows func64 rfl 13 rfl _ fz1 (fun b=> ?_)
 refine Ad<|rA rfl fun g=>rz rfl<|Aa fun h d=>AY [0] rfl<|aE a rfl (fun e a=> ?_) (fun e a=> ?_)
 ·refine Ad<|rm 2 [0] rfl<|kB a fun i f a=>rc _ (cF bO) (Xf N x_3 x_4 _ f)<|rz rfl ?_
  cases a
  exact aR eE1
 refine Ab<|d _ _ ?_
 refine Ad<|r_V (vP g 3) rfl<|rl (vA #[vI x_3,U (hi x_4),U (lo x_4)]) 0<|r_W (vA #[vI 0,U (0#64),U (0#64)]) rfl (Ap rfl rfl rfl rfl)<|r_W (vB ((x_3==0)&&(x_4==((0#64)++(0#64))))) rfl (Vm rfl rfl jk (by have h_:=fun c=>Zd (c:=c) x_3 0 x_4 ((0#64)++(0#64));simp only [Bn] at h_;exact h_ _)) ?_
 refine rz rfl ?_
 cases a
 exact aR eE1
def KT(N:Nat)(d:Int)(e:Int)(b:Int)(a:Int)(f:BitVec 128)(g:Bool):Option Int:=if g=true then some 7 else(Jf N d e b a f).bind fun c=>if c=true then some 0 else some 1
def RR(N:Nat)(b:Int)(c:Int)(a:Int)(d:Int)(e:BitVec 128):Option Int:=(MA N b c a d e).bind fun f=>(Qb N b).bind fun h=>if h=true then(HP N f.1 f.2.1 c).bind fun i=>if i=true then(HP N f.2.2.1 f.2.2.2 a).bind fun g=>KT N b c a d e (!(g))else KT N b c a d e true else some 10
theorem og(N x_0 x_1 x_2 x_3 x_4 r)(a:RR N x_0 x_1 x_2 x_3 x_4=some r):Gives prog 35 #[vA #[vI x_0,vI x_1,vI x_2,vI x_3,U (hi x_4),U (lo x_4)]] (vI r):=by
 unfold RR at a
 refine As follows func35 rfl 32 rfl _ fz1 (fun k=> ?_)
 refine Ad<|rA rfl fun s=>rz rfl<|Ad<|rm 1 [0] rfl<|kB a fun m n a=>rc _ (cF oZ) (ju N x_0 x_1 x_2 x_3 x_4 _ n)<|rn 3 rfl<|rA rfl fun w=>rA rfl fun x=>ry [1,0] rfl<|Aa fun y o=>Ah<|Ad<|rm 2 [2] rfl<|kB a fun u f a=>rc _ (cF oY) (jt N x_0 _ f)<|rz rfl<|Bv _ rfl (fun c=> ?_) (fun c=> ?_)
 ·replace a:=ifn (Bool.eq_false_iff.1 (CM c)) a
  refine AZ rfl ?_
  cases a
  exact aR eE1
 replace a:=ifp (CN c) a
 refine BR (fun tt ll=> ∃(e:Bool),(KT N x_0 x_1 x_2 x_3 x_4 e=some r)∧Is [(1,vP s 0),(15,vB e)] (JG s x_0 x_1 x_2 x_3 (hi x_4) (lo x_4)) tt ll) ?_ ?_
 ·refine Ag<|rm 3 [1,2] rfl<|kB a fun p g a=>rc _ (cF eE) (RQ N m.1 m.2.1 x_1 _ g)<|rn 2 rfl ?_
  rcases b:(!(p))with _|_
  ·replace a:=ifp (CN b) a
   refine r_y rfl<|rm 2 [0] rfl<|r_y rfl<|rm 1 [2] rfl<|r_y rfl<|kB a fun q h a=>rc _ (cF eE) (RQ N m.2.2.1 m.2.2.2 x_2 _ h)<|rz rfl<|fg _ (Sub.of (suC _ (suC _ (suK _ suN)))) ?_
   exact⟨!(q),a,Af (by first|rfl|(simp only [b];done)|(simp only [b];rfl)|(simp only [Bn];rfl)) rfl⟩
  replace a:=ifn (Bool.eq_false_iff.1 (CM b)) a
  refine rz rfl<|fg _ (Sub.of (suC _ (suC _ (suK _ suN)))) ?_
  exact⟨true,a,Af (by first|rfl|(simp only [b];done)|(simp only [b];rfl)|(simp only [Bn];rfl)) rfl⟩
 clear a;rintro t l ⟨e,a,⟨T,rfl⟩,rfl⟩
 unfold KT at a
 refine aB a rfl (fun i a=> ?_) (fun i a=> ?_)
 ·refine AZ rfl ?_
  cases a
  exact aR eE1
 refine Ad<|rm 1 [0] rfl<|kB a fun v j a=>rc _ (cF oX) (Xd N x_0 x_1 x_2 x_3 x_4 _ j)<|rz rfl<|Bv _ rfl (fun d=> ?_) (fun d=> ?_)
 ·replace a:=ifn (Bool.eq_false_iff.1 (CM d)) a
  refine AZ rfl ?_
  cases a
  exact aR eE1
 replace a:=ifp (CN d) a
 refine Ab<|o _ _ ?_
 refine AZ rfl ?_
 cases a
 exact aR eE1
inductive Aa0 where
  |nil
  |t114 (x0:Int) (x1:Int) (x2:Int)
  |t116 (x0:Int) (x1:Int)
  |t119 (x0:Int) (x1:Int) (x2:Int)
  |t122 (x0:Int) (x1:Int)
  |t157 (x0:Int) (x1:Int)
  |t159 
  |t167 (x0:Int) (x1:BitVec 128)
  |t168 (x0:Int) (x1:Int)
  |t169 (x0:Int) (x1:Int)
  |t171 (x0:Int) (x1:Int)
  |t173 (x0:Int)
  deriving Inhabited
def Aa0.on{β:Type}(x:Aa0)(a:β)(l:Int→Int→Int→β)(f:Int→Int→β)(e:Int→Int→Int→β)(b:Int→Int→β)(h:Int→Int→β)(c:β)(k:Int→(BitVec 128)→β)(d:Int→Int→β)(i:Int→Int→β)(j:Int→Int→β)(g:Int→β):β:=match x with| .nil=>a| .t114 x0 x1 x2=>l x0 x1 x2| .t116 x0 x1=>f x0 x1| .t119 x0 x1 x2=>e x0 x1 x2| .t122 x0 x1=>b x0 x1| .t157 x0 x1=>h x0 x1| .t159  =>c  | .t167 x0 x1=>k x0 x1| .t168 x0 x1=>d x0 x1| .t169 x0 x1=>i x0 x1| .t171 x0 x1=>j x0 x1| .t173 x0=>g x0
theorem Aa0.on_nil {β:Type}{x:Aa0}{a r:β}{f114:Int→Int→Int→β}{f116:Int→Int→β}{f119:Int→Int→Int→β}{f122:Int→Int→β}{f157:Int→Int→β}{f159:β}{f167:Int→(BitVec 128)→β}{f168:Int→Int→β}{f169:Int→Int→β}{f171:Int→Int→β}{f173:Int→β}(h:x= .nil)(e:Aa0.on x a f114 f116 f119 f122 f157 f159 f167 f168 f169 f171 f173=r):a=r:=by subst h;exact e
theorem Aa0.on_t114 {β:Type}{x:Aa0}{a r:β}{f114:Int→Int→Int→β}{f116:Int→Int→β}{f119:Int→Int→Int→β}{f122:Int→Int→β}{f157:Int→Int→β}{f159:β}{f167:Int→(BitVec 128)→β}{f168:Int→Int→β}{f169:Int→Int→β}{f171:Int→Int→β}{f173:Int→β}{b:Int}{c:Int}{x2:Int}(h:x= .t114 b c x2)(e:Aa0.on x a f114 f116 f119 f122 f157 f159 f167 f168 f169 f171 f173=r):f114 b c x2=r:=by subst h;exact e
theorem Aa0.on_t116 {β:Type}{x:Aa0}{a r:β}{f114:Int→Int→Int→β}{f116:Int→Int→β}{f119:Int→Int→Int→β}{f122:Int→Int→β}{f157:Int→Int→β}{f159:β}{f167:Int→(BitVec 128)→β}{f168:Int→Int→β}{f169:Int→Int→β}{f171:Int→Int→β}{f173:Int→β}{b:Int}{c:Int}(h:x= .t116 b c)(e:Aa0.on x a f114 f116 f119 f122 f157 f159 f167 f168 f169 f171 f173=r):f116 b c=r:=by subst h;exact e
theorem Aa0.on_t119 {β:Type}{x:Aa0}{a r:β}{f114:Int→Int→Int→β}{f116:Int→Int→β}{f119:Int→Int→Int→β}{f122:Int→Int→β}{f157:Int→Int→β}{f159:β}{f167:Int→(BitVec 128)→β}{f168:Int→Int→β}{f169:Int→Int→β}{f171:Int→Int→β}{f173:Int→β}{b:Int}{c:Int}{x2:Int}(h:x= .t119 b c x2)(e:Aa0.on x a f114 f116 f119 f122 f157 f159 f167 f168 f169 f171 f173=r):f119 b c x2=r:=by subst h;exact e
theorem Aa0.on_t122 {β:Type}{x:Aa0}{a r:β}{f114:Int→Int→Int→β}{f116:Int→Int→β}{f119:Int→Int→Int→β}{f122:Int→Int→β}{f157:Int→Int→β}{f159:β}{f167:Int→(BitVec 128)→β}{f168:Int→Int→β}{f169:Int→Int→β}{f171:Int→Int→β}{f173:Int→β}{b:Int}{c:Int}(h:x= .t122 b c)(e:Aa0.on x a f114 f116 f119 f122 f157 f159 f167 f168 f169 f171 f173=r):f122 b c=r:=by subst h;exact e
theorem Aa0.on_t157 {β:Type}{x:Aa0}{a r:β}{f114:Int→Int→Int→β}{f116:Int→Int→β}{f119:Int→Int→Int→β}{f122:Int→Int→β}{f157:Int→Int→β}{f159:β}{f167:Int→(BitVec 128)→β}{f168:Int→Int→β}{f169:Int→Int→β}{f171:Int→Int→β}{f173:Int→β}{b:Int}{c:Int}(h:x= .t157 b c)(e:Aa0.on x a f114 f116 f119 f122 f157 f159 f167 f168 f169 f171 f173=r):f157 b c=r:=by subst h;exact e
theorem Aa0.on_t159 {β:Type}{x:Aa0}{a r:β}{f114:Int→Int→Int→β}{f116:Int→Int→β}{f119:Int→Int→Int→β}{f122:Int→Int→β}{f157:Int→Int→β}{f159:β}{f167:Int→(BitVec 128)→β}{f168:Int→Int→β}{f169:Int→Int→β}{f171:Int→Int→β}{f173:Int→β}(h:x= .t159)(e:Aa0.on x a f114 f116 f119 f122 f157 f159 f167 f168 f169 f171 f173=r):f159  =r:=by subst h;exact e
theorem Aa0.on_t167 {β:Type}{x:Aa0}{a r:β}{f114:Int→Int→Int→β}{f116:Int→Int→β}{f119:Int→Int→Int→β}{f122:Int→Int→β}{f157:Int→Int→β}{f159:β}{f167:Int→(BitVec 128)→β}{f168:Int→Int→β}{f169:Int→Int→β}{f171:Int→Int→β}{f173:Int→β}{b:Int}{c:BitVec 128}(h:x= .t167 b c)(e:Aa0.on x a f114 f116 f119 f122 f157 f159 f167 f168 f169 f171 f173=r):f167 b c=r:=by subst h;exact e
theorem Aa0.on_t168 {β:Type}{x:Aa0}{a r:β}{f114:Int→Int→Int→β}{f116:Int→Int→β}{f119:Int→Int→Int→β}{f122:Int→Int→β}{f157:Int→Int→β}{f159:β}{f167:Int→(BitVec 128)→β}{f168:Int→Int→β}{f169:Int→Int→β}{f171:Int→Int→β}{f173:Int→β}{b:Int}{c:Int}(h:x= .t168 b c)(e:Aa0.on x a f114 f116 f119 f122 f157 f159 f167 f168 f169 f171 f173=r):f168 b c=r:=by subst h;exact e
theorem Aa0.on_t169 {β:Type}{x:Aa0}{a r:β}{f114:Int→Int→Int→β}{f116:Int→Int→β}{f119:Int→Int→Int→β}{f122:Int→Int→β}{f157:Int→Int→β}{f159:β}{f167:Int→(BitVec 128)→β}{f168:Int→Int→β}{f169:Int→Int→β}{f171:Int→Int→β}{f173:Int→β}{b:Int}{c:Int}(h:x= .t169 b c)(e:Aa0.on x a f114 f116 f119 f122 f157 f159 f167 f168 f169 f171 f173=r):f169 b c=r:=by subst h;exact e
theorem Aa0.on_t171 {β:Type}{x:Aa0}{a r:β}{f114:Int→Int→Int→β}{f116:Int→Int→β}{f119:Int→Int→Int→β}{f122:Int→Int→β}{f157:Int→Int→β}{f159:β}{f167:Int→(BitVec 128)→β}{f168:Int→Int→β}{f169:Int→Int→β}{f171:Int→Int→β}{f173:Int→β}{b:Int}{c:Int}(h:x= .t171 b c)(e:Aa0.on x a f114 f116 f119 f122 f157 f159 f167 f168 f169 f171 f173=r):f171 b c=r:=by subst h;exact e
theorem Aa0.on_t173 {β:Type}{x:Aa0}{a r:β}{f114:Int→Int→Int→β}{f116:Int→Int→β}{f119:Int→Int→Int→β}{f122:Int→Int→β}{f157:Int→Int→β}{f159:β}{f167:Int→(BitVec 128)→β}{f168:Int→Int→β}{f169:Int→Int→β}{f171:Int→Int→β}{f173:Int→β}{b:Int}(h:x= .t173 b)(e:Aa0.on x a f114 f116 f119 f122 f157 f159 f167 f168 f169 f171 f173=r):f173 b=r:=by subst h;exact e
def Aa0.onP(x:Aa0)(a:PO)(l:Int→Int→Int→PO)(f:Int→Int→PO)(e:Int→Int→Int→PO)(b:Int→Int→PO)(h:Int→Int→PO)(c:PO)(k:Int→(BitVec 128)→PO)(d:Int→Int→PO)(i:Int→Int→PO)(j:Int→Int→PO)(g:Int→PO):PO:=match x with| .nil=>a| .t114 x0 x1 x2=>l x0 x1 x2| .t116 x0 x1=>f x0 x1| .t119 x0 x1 x2=>e x0 x1 x2| .t122 x0 x1=>b x0 x1| .t157 x0 x1=>h x0 x1| .t159  =>c  | .t167 x0 x1=>k x0 x1| .t168 x0 x1=>d x0 x1| .t169 x0 x1=>i x0 x1| .t171 x0 x1=>j x0 x1| .t173 x0=>g x0
theorem Aa0.onP_nil {x:Aa0}{a:PO}{f114:Int→Int→Int→PO}{f116:Int→Int→PO}{f119:Int→Int→Int→PO}{f122:Int→Int→PO}{f157:Int→Int→PO}{f159:PO}{f167:Int→(BitVec 128)→PO}{f168:Int→Int→PO}{f169:Int→Int→PO}{f171:Int→Int→PO}{f173:Int→PO}{v:Value}{O:List (List Bl)}(h:x= .nil)(e:Aa0.onP x a f114 f116 f119 f122 f157 f159 f167 f168 f169 f171 f173 v O):a v O:=by subst h;exact e
theorem Aa0.niceP {x:Aa0}{a:PO}{f114:Int→Int→Int→PO}{f116:Int→Int→PO}{f119:Int→Int→Int→PO}{f122:Int→Int→PO}{f157:Int→Int→PO}{f159:PO}{f167:Int→(BitVec 128)→PO}{f168:Int→Int→PO}{f169:Int→Int→PO}{f171:Int→Int→PO}{f173:Int→PO}{R:List Bl}(h:Ab8 a R)(d: ∀b c x2,Ab8 (f114 b c x2) R)(e: ∀b c,Ab8 (f116 b c) R)(f: ∀b c x2,Ab8 (f119 b c x2) R)(g: ∀b c,Ab8 (f122 b c) R)(i: ∀b c,Ab8 (f157 b c) R)(j:Ab8 (f159) R)(k: ∀b c,Ab8 (f167 b c) R)(l: ∀b c,Ab8 (f168 b c) R)(m: ∀b c,Ab8 (f169 b c) R)(n: ∀b c,Ab8 (f171 b c) R)(o: ∀b,Ab8 (f173 b) R):Ab8 (Aa0.onP x a f114 f116 f119 f122 f157 f159 f167 f168 f169 f171 f173) R:=by cases x with|nil=>exact h|t114=>exact d _ _ _|t116=>exact e _ _|t119=>exact f _ _ _|t122=>exact g _ _|t157=>exact i _ _|t159=>exact j  |t167=>exact k _ _|t168=>exact l _ _|t169=>exact m _ _|t171=>exact n _ _|t173=>exact o _
theorem Aa0.cases(x:Aa0):x= .nil∨(∃a b x2,x= .t114 a b x2)∨(∃a b,x= .t116 a b)∨(∃a b x2,x= .t119 a b x2)∨(∃a b,x= .t122 a b)∨(∃a b,x= .t157 a b)∨(x= .t159)∨(∃a b,x= .t167 a b)∨(∃a b,x= .t168 a b)∨(∃a b,x= .t169 a b)∨(∃a b,x= .t171 a b)∨(∃a,x= .t173 a):=by cases x<;>simp
def Aa0.v:Aa0→Value
  | .nil=>Value.nilIface
  | .t114 a b c=>Value.iface 114 (vA #[vI a,vI b,vI c])
  | .t116 a b=>Value.iface 116 (vA #[vI a,vI b])
  | .t119 a b c=>Value.iface 119 (vA #[vI a,vI b,vI c])
  | .t122 a b=>Value.iface 122 (vA #[vI a,vI b])
  | .t157 a b=>Value.iface 157 (vA #[vI a,vI b])
  | .t159  =>Value.iface 159 (vA #[])
  | .t167 a b=>Value.iface 167 (vA #[vI a,U (hi b),U (lo b)])
  | .t168 a b=>Value.iface 168 (vA #[vI a,vI b])
  | .t169 a b=>Value.iface 169 (vA #[vI a,vI b])
  | .t171 a b=>Value.iface 171 (vA #[vI a,vI b])
  | .t173 a=>Value.iface 173 (vA #[vI a])
theorem Aa0.cells(x:Aa0):(Aa0.v x).cells= #[Aa0.v x]:=by cases x<;>rfl
theorem Aa0.one(x:Aa0):(Aa0.v x).oneCell'=true:=by cases x<;>rfl
def PZ:Enc Aa0:=⟨fun x=> [Aa0.v x],1,Nat.one_pos,fun _=>rfl,fun x v h=>by rw [zc] at h;rw [h];exact Aa0.one x,True⟩
def OM(a:Int)(b:Int)(d:Int)(c:Bool):Option Aa0:=if c=true then some (Aa0.t157 a b)else if a=33 then some (Aa0.t122 b d)else if a=34 then some Aa0.t159 else some (Aa0.t173 a)
def ON(a:Int)(c:Int)(b:Int)(d:Bool):Option Aa0:=if d=true then some (Aa0.t119 a c b)else if a=31 then OM a c b (a==31)else OM a c b (a==32)
def Kz(a:Int)(b:Int)(c:Int)(d:Bool):Option Aa0:=if d=true then some (Aa0.t169 a b)else if a=10 then some (Aa0.t171 b c)else if a=27 then ON a b c (a==27)else ON a b c (a==28)
def NX(a:Int)(b:Int)(c:Int)(d:Bool):Option Aa0:=if d=true then some (Aa0.t116 a b)else if a=6 then Kz a b c (a==6)else if a=7 then Kz a b c (a==7)else if a=8 then Kz a b c (a==8)else if a=9 then Kz a b c (a==9)else Kz a b c (a==11)
def IT(a:Int)(b:Int)(c:Int)(d:Bool):Option Aa0:=if d=true then some (Aa0.t168 a b)else if a=4 then NX a b c (a==4)else if a=25 then NX a b c (a==25)else NX a b c (a==26)
def Qq(a:Int)(c:Int)(b:Int)(d:Bool):Option Aa0:=if d=true then some (Aa0.t114 a c b)else if a=2 then IT a c b (a==2)else if a=23 then IT a c b (a==23)else if a=3 then IT a c b (a==3)else if a=5 then IT a c b (a==5)else if a=24 then IT a c b (a==24)else if a=29 then IT a c b (a==29)else IT a c b (a==30)
def Qa(_:Nat)(a:Int)(c:Int)(b:Int)(d:Int)(e:BitVec 128):Option Aa0:=if a=0 then some (Aa0.t167 d e)else if a=1 then Qq a c b (a==1)else Qq a c b (a==22)
theorem jq(N x_0 x_1 x_2 x_3 x_4 r)(a:Qa N x_0 x_1 x_2 x_3 x_4=some r):Gives prog 36 #[vA #[vI x_0,vI x_1,vI x_2,vI x_3,U (hi x_4),U (lo x_4)]] (Aa0.v r):=by
 unfold Qa at a
 refine As follows func36 rfl 102 rfl _ fz1 (fun J=> ?_)
 refine Ad<|rA rfl fun b=>rz rfl<|Aa fun O K=>AY [0] rfl<|Ah<|AZ rfl<|aE a rfl (fun L a=> ?_) (fun L a=> ?_)
 ·refine Ad<|r_V (vP b 3) rfl<|rl (vA #[vI x_3,U (hi x_4),U (lo x_4)]) 0<|r_W (vA #[vI x_3,U (hi x_4),U (lo x_4)]) rfl (Ap rfl rfl rfl rfl)<|rz rfl ?_
  cases a
  exact aR eE1
 refine BR (fun tt ll=> ∃(d:Bool),(Qq x_0 x_1 x_2 d=some r)∧Is [(1,vP b 0),(4,vI x_0),(11,vB d)] (JG b x_0 x_1 x_2 x_3 (hi x_4) (lo x_4)) tt ll) ?_ ?_
 ·refine AZ rfl<|aE a rfl (fun i a=> ?_) (fun i a=> ?_)
  ·refine Ab<|fg _ (Sub.of (suK _ suN)) ?_
   exact⟨(x_0==1),a,Af rfl rfl⟩
  refine Ag<|rz rfl<|fg _ (Sub.of (suK _ suN)) ?_
  exact⟨(x_0==22),a,Af rfl rfl⟩
 clear a;rintro t l ⟨d,a,⟨T,rfl⟩,rfl⟩
 unfold Qq at a
 refine aB a rfl (fun M a=> ?_) (fun M a=> ?_)
 ·refine Ad<|r_V (vP b 0) rfl<|rl (vI x_0) 0<|r_V (vP b 1) rfl<|rl (vI x_1) 0<|r_V (vP b 2) rfl<|rl (vI x_2) 0<|r_W (vA #[vI x_0,vI x_1,vI x_2]) rfl (Ap rfl rfl rfl rfl)<|rz rfl ?_
  cases a
  exact aR eE1
 refine BR (fun tt ll=> ∃(e:Bool),(IT x_0 x_1 x_2 e=some r)∧Is [(1,vP b 0),(4,vI x_0),(22,vB e)] (JG b x_0 x_1 x_2 x_3 (hi x_4) (lo x_4)) tt ll) ?_ ?_
 ·refine AZ rfl<|aE a rfl (fun j a=> ?_) (fun j a=> ?_)
  ·refine Ab<|fg _ (Sub.of (suK _ suN)) ?_
   exact⟨(x_0==2),a,Af rfl rfl⟩
  refine AZ rfl<|aE a rfl (fun k a=> ?_) (fun k a=> ?_)
  ·refine Ab<|fg _ (Sub.of (suK _ suN)) ?_
   exact⟨(x_0==23),a,Af rfl rfl⟩
  refine AZ rfl<|aE a rfl (fun m a=> ?_) (fun m a=> ?_)
  ·refine Ab<|fg _ (Sub.of (suK _ suN)) ?_
   exact⟨(x_0==3),a,Af rfl rfl⟩
  refine AZ rfl<|aE a rfl (fun n a=> ?_) (fun n a=> ?_)
  ·refine Ab<|fg _ (Sub.of (suK _ suN)) ?_
   exact⟨(x_0==5),a,Af rfl rfl⟩
  refine AZ rfl<|aE a rfl (fun o a=> ?_) (fun o a=> ?_)
  ·refine Ab<|fg _ (Sub.of (suK _ suN)) ?_
   exact⟨(x_0==24),a,Af rfl rfl⟩
  refine AZ rfl<|aE a rfl (fun p a=> ?_) (fun p a=> ?_)
  ·refine Ab<|fg _ (Sub.of (suK _ suN)) ?_
   exact⟨(x_0==29),a,Af rfl rfl⟩
  refine Ag<|rz rfl<|fg _ (Sub.of (suK _ suN)) ?_
  exact⟨(x_0==30),a,Af rfl rfl⟩
 clear a;rintro t l ⟨e,a,⟨T,rfl⟩,rfl⟩
 unfold IT at a
 refine aB a rfl (fun q a=> ?_) (fun q a=> ?_)
 ·refine Ad<|r_V (vP b 0) rfl<|rl (vI x_0) 0<|r_V (vP b 1) rfl<|rl (vI x_1) 0<|r_W (vA #[vI x_0,vI x_1]) rfl (Ap rfl rfl rfl rfl)<|rz rfl ?_
  cases a
  exact aR eE1
 refine BR (fun tt ll=> ∃(f:Bool),(NX x_0 x_1 x_2 f=some r)∧Is [(1,vP b 0),(4,vI x_0),(36,vB f)] (JG b x_0 x_1 x_2 x_3 (hi x_4) (lo x_4)) tt ll) ?_ ?_
 ·refine AZ rfl<|aE a rfl (fun s a=> ?_) (fun s a=> ?_)
  ·refine Ab<|fg _ (Sub.of (suK _ suN)) ?_
   exact⟨(x_0==4),a,Af rfl rfl⟩
  refine AZ rfl<|aE a rfl (fun u a=> ?_) (fun u a=> ?_)
  ·refine Ab<|fg _ (Sub.of (suK _ suN)) ?_
   exact⟨(x_0==25),a,Af rfl rfl⟩
  refine Ag<|rz rfl<|fg _ (Sub.of (suK _ suN)) ?_
  exact⟨(x_0==26),a,Af rfl rfl⟩
 clear a;rintro t l ⟨f,a,⟨T,rfl⟩,rfl⟩
 unfold NX at a
 refine aB a rfl (fun w a=> ?_) (fun w a=> ?_)
 ·refine Ad<|r_V (vP b 0) rfl<|rl (vI x_0) 0<|r_V (vP b 1) rfl<|rl (vI x_1) 0<|r_W (vA #[vI x_0,vI x_1]) rfl (Ap rfl rfl rfl rfl)<|rz rfl ?_
  cases a
  exact aR eE1
 refine BR (fun tt ll=> ∃(g:Bool),(Kz x_0 x_1 x_2 g=some r)∧Is [(1,vP b 0),(4,vI x_0),(46,vB g)] (JG b x_0 x_1 x_2 x_3 (hi x_4) (lo x_4)) tt ll) ?_ ?_
 ·refine AZ rfl<|aE a rfl (fun x a=> ?_) (fun x a=> ?_)
  ·refine Ab<|fg _ (Sub.of (suK _ suN)) ?_
   exact⟨(x_0==6),a,Af rfl rfl⟩
  refine AZ rfl<|aE a rfl (fun y a=> ?_) (fun y a=> ?_)
  ·refine Ab<|fg _ (Sub.of (suK _ suN)) ?_
   exact⟨(x_0==7),a,Af rfl rfl⟩
  refine AZ rfl<|aE a rfl (fun z a=> ?_) (fun z a=> ?_)
  ·refine Ab<|fg _ (Sub.of (suK _ suN)) ?_
   exact⟨(x_0==8),a,Af rfl rfl⟩
  refine AZ rfl<|aE a rfl (fun A a=> ?_) (fun A a=> ?_)
  ·refine Ab<|fg _ (Sub.of (suK _ suN)) ?_
   exact⟨(x_0==9),a,Af rfl rfl⟩
  refine Ag<|rz rfl<|fg _ (Sub.of (suK _ suN)) ?_
  exact⟨(x_0==11),a,Af rfl rfl⟩
 clear a;rintro t l ⟨g,a,⟨T,rfl⟩,rfl⟩
 unfold Kz at a
 refine aB a rfl (fun B a=> ?_) (fun B a=> ?_)
 ·refine Ad<|r_V (vP b 0) rfl<|rl (vI x_0) 0<|r_V (vP b 1) rfl<|rl (vI x_1) 0<|r_W (vA #[vI x_0,vI x_1]) rfl (Ap rfl rfl rfl rfl)<|rz rfl ?_
  cases a
  exact aR eE1
 refine AZ rfl<|aE a rfl (fun C a=> ?_) (fun C a=> ?_)
 ·refine Ad<|r_V (vP b 1) rfl<|rl (vI x_1) 0<|r_V (vP b 2) rfl<|rl (vI x_2) 0<|r_W (vA #[vI x_1,vI x_2]) rfl (Ap rfl rfl rfl rfl)<|rz rfl ?_
  cases a
  exact aR eE1
 refine BR (fun tt ll=> ∃(h:Bool),(ON x_0 x_1 x_2 h=some r)∧Is [(1,vP b 0),(4,vI x_0),(66,vB h)] (JG b x_0 x_1 x_2 x_3 (hi x_4) (lo x_4)) tt ll) ?_ ?_
 ·refine AZ rfl<|aE a rfl (fun D a=> ?_) (fun D a=> ?_)
  ·refine Ab<|fg _ (Sub.of (suK _ suN)) ?_
   exact⟨(x_0==27),a,Af rfl rfl⟩
  refine Ag<|rz rfl<|fg _ (Sub.of (suK _ suN)) ?_
  exact⟨(x_0==28),a,Af rfl rfl⟩
 clear a;rintro t l ⟨h,a,⟨T,rfl⟩,rfl⟩
 unfold ON at a
 refine aB a rfl (fun E a=> ?_) (fun E a=> ?_)
 ·refine Ad<|r_V (vP b 0) rfl<|rl (vI x_0) 0<|r_V (vP b 1) rfl<|rl (vI x_1) 0<|r_V (vP b 2) rfl<|rl (vI x_2) 0<|r_W (vA #[vI x_0,vI x_1,vI x_2]) rfl (Ap rfl rfl rfl rfl)<|rz rfl ?_
  cases a
  exact aR eE1
 refine BR (fun tt ll=> ∃(c:Bool),(OM x_0 x_1 x_2 c=some r)∧Is [(1,vP b 0),(4,vI x_0),(77,vB c)] (JG b x_0 x_1 x_2 x_3 (hi x_4) (lo x_4)) tt ll) ?_ ?_
 ·refine AZ rfl<|aE a rfl (fun F a=> ?_) (fun F a=> ?_)
  ·refine Ab<|fg _ (Sub.of (suK _ suN)) ?_
   exact⟨(x_0==31),a,Af rfl rfl⟩
  refine Ag<|rz rfl<|fg _ (Sub.of (suK _ suN)) ?_
  exact⟨(x_0==32),a,Af rfl rfl⟩
 clear a;rintro t l ⟨c,a,⟨T,rfl⟩,rfl⟩
 unfold OM at a
 refine aB a rfl (fun G a=> ?_) (fun G a=> ?_)
 ·refine Ad<|r_V (vP b 0) rfl<|rl (vI x_0) 0<|r_V (vP b 1) rfl<|rl (vI x_1) 0<|r_W (vA #[vI x_0,vI x_1]) rfl (Ap rfl rfl rfl rfl)<|rz rfl ?_
  cases a
  exact aR eE1
 refine AZ rfl<|aE a rfl (fun H a=> ?_) (fun H a=> ?_)
 ·refine Ad<|r_V (vP b 1) rfl<|rl (vI x_1) 0<|r_V (vP b 2) rfl<|rl (vI x_2) 0<|r_W (vA #[vI x_1,vI x_2]) rfl (Ap rfl rfl rfl rfl)<|rz rfl ?_
  cases a
  exact aR eE1
 refine AZ rfl<|aE a rfl (fun I a=> ?_) (fun I a=> ?_)
 ·refine Ad<|r_W (vA #[]) rfl (Ap rfl rfl rfl rfl)<|rz rfl ?_
  cases a
  exact aR eE1
 refine Ab<|K _ _ ?_
 refine Ad<|r_V (vP b 0) rfl<|rl (vI x_0) 0<|r_W (vA #[vI x_0]) rfl (Ap rfl rfl rfl rfl)<|rz rfl ?_
 cases a
 exact aR eE1
def Oa(N:Nat)(c:Int)(d:Int)(b:Int)(a:Int)(e:BitVec 128):Option (Aa0×Int):=(RR N c d b a e).bind fun g=>if(g:Int)≠0 then some (Aa0.nil,g)else(Qa N c d b a e).bind fun f=>some (f,0)
theorem aY(N x_0 x_1 x_2 x_3 x_4 r)(a:Oa N x_0 x_1 x_2 x_3 x_4=some r):Gives prog 18 #[vA #[vI x_0,vI x_1,vI x_2,vI x_3,U (hi x_4),U (lo x_4)]] (vT #[Aa0.v r.1,vI r.2]):=by
 unfold Oa at a
 refine As follows func18 rfl 12 rfl _ fz1 (fun c=> ?_)
 refine Ad<|rA rfl fun h=>rz rfl<|Aa fun i d=>Ad<|rm 1 [0] rfl<|kB a fun j e a=>rc _ (cF pw) (og N x_0 x_1 x_2 x_3 x_4 _ e)<|rz rfl<|AZ rfl<|aN a rfl (fun f a=> ?_) (fun f a=> ?_)
 ·refine AZ rfl ?_
  cases a
  exact aR eE2
 refine Ab<|d _ _ ?_
 refine Ad<|rm 1 [0] rfl<|kB a fun g b a=>rc _ (cF pu) (jq N x_0 x_1 x_2 x_3 x_4 _ b)<|rz rfl ?_
 cases a
 exact aR eE2
def Qc(N:Nat)(c:List (Int×Int×Int×Int×BitVec 128)):Nat→List Aa0→Int→Option ((List Aa0)×Int×Int)
  |0,_,_=>none
  |e+1,b,a=>if a<(c.length:Int)then ck (0≤a∧a<(c.length:Int)) (if a=64 then some ([],a,2)else(Oa N ((c[a.toNat]!).1) ((c[a.toNat]!).2.1) ((c[a.toNat]!).2.2.1) ((c[a.toNat]!).2.2.2.1) ((c[a.toNat]!).2.2.2.2)).bind fun d=>if(d.2:Int)≠0 then some ([],a,d.2)else ck ((b).length+([d.1]).length≤8796093022208) (ck (R64 (a+1)) ((Qc N c e) (b++([d.1])) (a+1))))else some (b,(b.length:Int),0)
def TO(N:Nat)(a:List (Int×Int×Int×Int×BitVec 128)):Option ((List Aa0)×Int×Int):=Qc N a N ([]) 0
theorem ew(N l' r)(e:TO N l'=some r)(ro l'v)(hl':Rd Ac9 ro l'v l'):Does prog 31 #[l'v] ro [] (p1 (fun s_=>vT #[s_,vI r.2.1,vI r.2.2]) 70 PZ r.1):=by
 unfold TO at e
 refine Aj follows func31 rfl 37 rfl _ fz1 (fun y=> ?_)
 refine AZ rfl<|AZ rfl<|Aa fun K z=>Ad<|rn 1 rfl<|rL (Rd.shp hl') rfl<|rz rfl<|Ah<|Bo _ (Sub.pickE (Ls:=[[]]) (Ls0:=[]) rfl [0] rfl)<|AC (fun tt ll nn=> ∃(m:Nat) (c:List Aa0) (a:Int),(Qc N l' m c a=some r)∧ ∃(d:Value) (b:List Bl),Sl 70 PZ d c b∧Is [(5,d),(10,l'v),(11,vI (l'.length:Int)),(12,vI a)] (List.flatten [b]) tt ll∧nn=m+1) (N+1) ?_ ?_
 ·exact⟨N,[],0,e,nS,[],Sl.nil,Af rfl rfl,rfl⟩
 clear e;rintro t l _ ⟨m,c,a,e,d,b,f,⟨⟨T,rfl⟩,rfl⟩,rfl⟩
 rcases m with _|m
 ·exact absurd e (by simp [Qc])
 rw [Qc] at e
 refine AZ rfl<|Aa fun L A=>aD e rfl (fun B e=> ?_) (fun B e=> ?_)
 ·refine Ab<|A _ _ ?_
  refine Aa fun M C=>Ah<|Ad<|rn 1 rfl<|kC e fun i e=>rI (Rd.shp hl') i rfl<|rE (Au hl') i 0 rfl<|rA rfl fun h=>ry [0] rfl<|Aa fun H o=>AZ rfl<|aE e rfl (fun p e=> ?_) (fun p e=> ?_)
  ·refine AZ rfl ?_
   cases e
   refine Bi (fun G=>Ha (v0:=vT #[nS,vI a,vI 2]) Sl.nil (Sub.nil _) rfl (ff rfl rfl rfl))
  refine Ab<|o _ _ ?_
  refine Ad<|rm 1 [0] rfl<|kB e fun g q e=>rc _ (cF eL) (aY N ((l'[a.toNat]!).1) ((l'[a.toNat]!).2.1) ((l'[a.toNat]!).2.2.1) ((l'[a.toNat]!).2.2.2.1) ((l'[a.toNat]!).2.2.2.2) _ q)<|rz rfl<|Aa fun I s=>AZ rfl<|aN e rfl (fun u e=> ?_) (fun u e=> ?_)
  ·refine AZ rfl ?_
   cases e
   refine Bi (fun G=>Ha (v0:=vT #[nS,vI a,vI g.2]) Sl.nil (Sub.nil _) rfl (ff rfl rfl rfl))
  refine Ab<|s _ _ ?_
  refine Ag<|rn 2 rfl<|cD 31<|IW (cs0:=[]) (Ls:=[(JG h ((l'[a.toNat]!).1) ((l'[a.toNat]!).2.1) ((l'[a.toNat]!).2.2.1) ((l'[a.toNat]!).2.2.2.1) (hi ((l'[a.toNat]!).2.2.2.2)) (lo ((l'[a.toNat]!).2.2.2.2))),b]) 70 PZ [g.1] [Aa0.v g.1] [Value.nilIface] rfl rfl rfl rfl rfl rfl rfl (by kernel_rfl) ((PV _ _ _ _ (HL (fK (v:=Aa0.v g.1) rfl (Aa0.cells g.1)) Pw)).trans (by kernel_rfl)) rfl rfl rfl (fun J n D=> ?_)
  refine kC e fun j e=>cC 32 ?_
  refine JB (cs0:=[]) (Ls:=[(JG h ((l'[a.toNat]!).1) ((l'[a.toNat]!).2.1) ((l'[a.toNat]!).2.2.1) ((l'[a.toNat]!).2.2.2.1) (hi ((l'[a.toNat]!).2.2.2.2)) (lo ((l'[a.toNat]!).2.2.2.2))),b,n]) 1 (En:=PZ) rfl rfl rfl rfl rfl f rfl (Av D (Ai (Ls:=[(JG h ((l'[a.toNat]!).1) ((l'[a.toNat]!).2.1) ((l'[a.toNat]!).2.2.1) ((l'[a.toNat]!).2.2.2.1) (hi ((l'[a.toNat]!).2.2.2.2)) (lo ((l'[a.toNat]!).2.2.2.2))),b,n]) (k:=2) rfl rfl)) rfl rfl rfl rfl rfl (Ke j rfl) (Kc j rfl) rfl (fun E w F=> ?_)
  refine rz rfl<|C _ _ ?_
  refine Ag<|kC e fun x e=>rX x rfl<|rz rfl<|fg _ (Sub.pick [(JG h ((l'[a.toNat]!).1) ((l'[a.toNat]!).2.1) ((l'[a.toNat]!).2.2.1) ((l'[a.toNat]!).2.2.2.1) (hi ((l'[a.toNat]!).2.2.2.2)) (lo ((l'[a.toNat]!).2.2.2.2))),w,n] [1] rfl) ?_
  exact⟨m+1,by omega,m,(c++([g.1])),(a+1),e,E,w,F,Af rfl rfl,rfl⟩
 refine AD<|z _ _ ?_
 refine Ad<|rn 2 rfl<|rL (Sl.shp f) rfl<|rz rfl ?_
 cases e
 refine Bi (fun G=>Ha (v0:=vT #[d,vI (c.length:Int),vI 0]) f (EK (Sub.pick [b] [0] rfl)) rfl (ff rfl rfl rfl))
def UL(N:Nat)(a:List Int)(i:Int):Option Bool:=ck ((R64 ((a.length:Int) - 1))) ((AE N i 0 ((a.length:Int) - 1)).bind fun b=>some b)
theorem iS(N l' i r)(a:UL N l' i=some r)(ro l'v)(hl':Rd BJ ro l'v l'):Does prog 96 #[l'v,vI i] ro [] (pV (vB r)):=by
 unfold UL at a
 refine Aj follows func96 rfl 10 rfl _ fz2 (fun b=> ?_)
 refine AZ rfl<|Ad<|rn 2 rfl<|rL (Rd.shp hl') rfl<|kC a fun c a=>rX c rfl<|kB a fun e d a=>rc _ (cF Dg) (AO N i 0 ((l'.length:Int) - 1) _ d)<|rz rfl ?_
 cases a
 exact aR eV1
def Oz(N:Nat)(a:List (List UInt8×Int×Int))(i:Int):Option Bool:=ck ((R64 ((a.length:Int) - 1))) ((AE N i 0 ((a.length:Int) - 1)).bind fun b=>some b)
theorem YA(N l' i r)(a:Oz N l' i=some r)(ro l'v)(hl':Rd Ae8 ro l'v l'):Does prog 97 #[l'v,vI i] ro [] (pV (vB r)):=by
 unfold Oz at a
 refine Aj follows func97 rfl 10 rfl _ fz2 (fun b=> ?_)
 refine AZ rfl<|Ad<|rn 2 rfl<|rL (Rd.shp hl') rfl<|kC a fun c a=>rX c rfl<|kB a fun e d a=>rc _ (cF Dg) (AO N i 0 ((l'.length:Int) - 1) _ d)<|rz rfl ?_
 cases a
 exact aR eV1
def Kt(N:Nat)(a:List (List UInt8×Int))(i:Int):Option Bool:=ck ((R64 ((a.length:Int) - 1))) ((AE N i 0 ((a.length:Int) - 1)).bind fun b=>some b)
theorem SF(N l' i r)(a:Kt N l' i=some r)(ro l'v)(hl':Rd Ae9 ro l'v l'):Does prog 98 #[l'v,vI i] ro [] (pV (vB r)):=by
 unfold Kt at a
 refine Aj follows func98 rfl 10 rfl _ fz2 (fun b=> ?_)
 refine AZ rfl<|Ad<|rn 2 rfl<|rL (Rd.shp hl') rfl<|kC a fun c a=>rX c rfl<|kB a fun e d a=>rc _ (cF Dg) (AO N i 0 ((l'.length:Int) - 1) _ d)<|rz rfl ?_
 cases a
 exact aR eV1
def Mh(N:Nat)(a:List (List UInt8×Int×Int×Int))(i:Int):Option Bool:=ck ((R64 ((a.length:Int) - 1))) ((AE N i 0 ((a.length:Int) - 1)).bind fun b=>some b)
theorem UO(N l' i r)(a:Mh N l' i=some r)(ro l'v)(hl':Rd Af0 ro l'v l'):Does prog 99 #[l'v,vI i] ro [] (pV (vB r)):=by
 unfold Mh at a
 refine Aj follows func99 rfl 10 rfl _ fz2 (fun b=> ?_)
 refine AZ rfl<|Ad<|rn 2 rfl<|rL (Rd.shp hl') rfl<|kC a fun c a=>rX c rfl<|kB a fun e d a=>rc _ (cF Dg) (AO N i 0 ((l'.length:Int) - 1) _ d)<|rz rfl ?_
 cases a
 exact aR eV1
def Ht(N:Nat)(m:An)(a:Int):Option Bool:=(Uc N m.2.2.1 a).bind fun b=>some b.2.2
theorem MZ(N m slot r)(a:Ht N m slot=some r)(ro)(mv:Ay)(hm:Aa2 ro mv m):Does prog 100 #[vA (Ac m mv),vI slot] ro [] (pV (vB r)):=by
 unfold Ht at a
 refine Aj follows func100 rfl 17 rfl _ fz2 (fun b=> ?_)
 refine Ad<|rA rfl fun d=>rz rfl<|Ad<|rm 3 [0] rfl<|kB a fun e c a=>gV _ (cF VG) (fun o w z_=>ci N m.2.2.1 slot _ c z_.view mv.2.1 ((Au hm.2.1) o w z_))<|rz rfl<|AZ rfl ?_
 cases a
 exact aR eV1
def RH(N:Nat)(m:An)(a:Int)(b:Bool):Option Bool:=if b=true then(GY N m a).bind fun c=>some c.2.2 else some true
def Qm(N:Nat)(m:An)(a:Int)(b:Int)(c:Bool):Option Bool:=if c=true then(Ht N m b).bind fun d=>some d else if a=27 then RH N m b (a==27)else RH N m b (a==28)
def TH(N:Nat)(m:An)(a:Int)(b:Int)(d:Bool):Option Bool:=if d=true then(Oz N m.2.2.2.2.2.2.2.2.2.2.2.2.1 b).bind fun c=>some c else if a=29 then(Kt N m.2.2.2.2.2.2.2.2.2.2.2.2.2.1 b).bind fun e=>some e else if a=30 then(Mh N m.2.2.2.2.2.2.2.2.2.2.2.2.2.2.1 b).bind fun f=>some f else if a=4 then Qm N m a b (a==4)else if a=25 then Qm N m a b (a==25)else if a=26 then Qm N m a b (a==26)else Qm N m a b (a==33)
def TI(N:Nat)(m:An)(c:List Int)(a:Int)(b:Int)(f:Bool):Option Bool:=if f=true then(MN N m b).bind fun d=>some d.2 else if a=3 then(UL N c b).bind fun e=>some e else if a=5 then TH N m a b (a==5)else TH N m a b (a==24)
def TJ(N:Nat)(m:An)(a:List Int)(b:Int)(c:Int)(d:Int)(e:Bool):Option Bool:=if e=true then(JI N m c d).bind fun f=>some f.2 else if b=2 then TI N m a b c (b==2)else TI N m a b c (b==23)
def UK(N:Nat)(m:An)(a:List Int)(b:Int)(d:Int)(c:Int)(_:Int)(_:BitVec 128):Option Bool:=if b=1 then TJ N m a b d c (b==1)else TJ N m a b d c (b==22)
theorem re(N m params x_0 x_1 x_2 x_3 x_4 r)(a:UK N m params x_0 x_1 x_2 x_3 x_4=some r)(ro)(mv:Ay)(hm:Aa2 ro mv m)(paramsv)(hparams:Rd BJ ro paramsv params):DoesI prog 57 #[vA (Ac m mv),paramsv,vA #[vI x_0,vI x_1,vI x_2,vI x_3,U (hi x_4),U (lo x_4)]] GC ro [] (pV (vB r)):=by
 unfold UK at a
 refine AW follows func57 rfl 81 rfl _ fz3 Be (fun K=> ?_)
 refine Ad<|rA rfl fun c=>rA rfl fun d=>rz rfl<|AZ rfl<|Aa fun X b=>AY [0] rfl<|Ah<|BR (fun tt ll=> ∃(e:Bool),(TJ N m params x_0 x_1 x_2 e=some r)∧Is [(1,paramsv),(3,vP c 0),(5,vP d 0),(7,vB true),(9,vI x_0),(10,vB e)] [(d,41, #[vI x_0,vI x_1,vI x_2,vI x_3,U (hi x_4),U (lo x_4)]),(c,35,(Ac m mv))] tt ll) ?_ ?_
 ·refine AZ rfl<|aE a rfl (fun j a=> ?_) (fun j a=> ?_)
  ·refine Ab<|fg _ (Sub.of (suK _ (suK _ suN))) ?_
   exact⟨(x_0==1),a,Af rfl rfl⟩
  refine Ag<|rz rfl<|fg _ (Sub.of (suK _ (suK _ suN))) ?_
  exact⟨(x_0==22),a,Af rfl rfl⟩
 clear a;rintro t l ⟨e,a,⟨T,rfl⟩,rfl⟩
 unfold TJ at a
 refine aB a rfl (fun L a=> ?_) (fun L a=> ?_)
 ·refine Ag<|rm 5 [1,0,0] rfl<|kB a fun Y M a=>gV _ (cF Zf) (fun o w z_=>(Does.inv (Oy N m x_1 x_2 _ M z_.view mv (Aa2.mono z_.ro_cell hm)) _))<|rz rfl<|b _ _ ?_
  refine AZ rfl ?_
  cases a
  exact aR eV1
 refine BR (fun tt ll=> ∃(f:Bool),(TI N m params x_0 x_1 f=some r)∧Is [(1,paramsv),(3,vP c 0),(5,vP d 0),(7,vB true),(9,vI x_0),(22,vB f)] [(d,41, #[vI x_0,vI x_1,vI x_2,vI x_3,U (hi x_4),U (lo x_4)]),(c,35,(Ac m mv))] tt ll) ?_ ?_
 ·refine AZ rfl<|aE a rfl (fun k a=> ?_) (fun k a=> ?_)
  ·refine Ab<|fg _ (Sub.of (suK _ (suK _ suN))) ?_
   exact⟨(x_0==2),a,Af rfl rfl⟩
  refine Ag<|rz rfl<|fg _ (Sub.of (suK _ (suK _ suN))) ?_
  exact⟨(x_0==23),a,Af rfl rfl⟩
 clear a;rintro t l ⟨f,a,⟨T,rfl⟩,rfl⟩
 unfold TI at a
 refine aB a rfl (fun n a=> ?_) (fun n a=> ?_)
 ·refine Ag<|rm 3 [1,0] rfl<|kB a fun O p a=>gV _ (cF ez) (fun o w z_=>Tb N m x_1 _ p z_.view mv (Aa2.mono z_.ro_cell hm))<|rz rfl<|b _ _ ?_
  refine AZ rfl ?_
  cases a
  exact aR eV1
 refine AZ rfl<|aE a rfl (fun q a=> ?_) (fun q a=> ?_)
 ·refine Ag<|rm 3 [0] rfl<|kB a fun P s a=>gV _ (cF ot) (fun o w z_=>(Does.inv (iS N params x_1 _ s z_.view paramsv (z_.r hparams)) _))<|rz rfl<|b _ _ ?_
  refine AZ rfl ?_
  cases a
  exact aR eV1
 refine BR (fun tt ll=> ∃(g:Bool),(TH N m x_0 x_1 g=some r)∧Is [(3,vP c 0),(5,vP d 0),(7,vB true),(9,vI x_0),(38,vB g)] [(d,41, #[vI x_0,vI x_1,vI x_2,vI x_3,U (hi x_4),U (lo x_4)]),(c,35,(Ac m mv))] tt ll) ?_ ?_
 ·refine AZ rfl<|aE a rfl (fun u a=> ?_) (fun u a=> ?_)
  ·refine Ab<|fg _ (Sub.of (suK _ (suK _ suN))) ?_
   exact⟨(x_0==5),a,Af rfl rfl⟩
  refine Ag<|rz rfl<|fg _ (Sub.of (suK _ (suK _ suN))) ?_
  exact⟨(x_0==24),a,Af rfl rfl⟩
 clear a;rintro t l ⟨g,a,⟨T,rfl⟩,rfl⟩
 unfold TH at a
 refine aB a rfl (fun v a=> ?_) (fun v a=> ?_)
 ·refine Ag<|rm 4 [1,0] rfl<|kB a fun Q x a=>gV _ (cF oq) (fun o w z_=>(Does.inv (YA N m.2.2.2.2.2.2.2.2.2.2.2.2.1 x_1 _ x z_.view mv.2.2.2.2.2.2.2.2.2.2.2.1 ((Au hm.2.2.2.2.2.2.2.2.2.2.2.1) o w z_)) _))<|rz rfl<|b _ _ ?_
  refine AZ rfl ?_
  cases a
  exact aR eV1
 refine AZ rfl<|aE a rfl (fun y a=> ?_) (fun y a=> ?_)
 ·refine Ag<|rm 4 [1,0] rfl<|kB a fun R z a=>gV _ (cF oo) (fun o w z_=>(Does.inv (SF N m.2.2.2.2.2.2.2.2.2.2.2.2.2.1 x_1 _ z z_.view mv.2.2.2.2.2.2.2.2.2.2.2.2.1 ((Au hm.2.2.2.2.2.2.2.2.2.2.2.2.1) o w z_)) _))<|rz rfl<|b _ _ ?_
  refine AZ rfl ?_
  cases a
  exact aR eV1
 refine AZ rfl<|aE a rfl (fun A a=> ?_) (fun A a=> ?_)
 ·refine Ag<|rm 4 [1,0] rfl<|kB a fun S B a=>gV _ (cF om) (fun o w z_=>(Does.inv (UO N m.2.2.2.2.2.2.2.2.2.2.2.2.2.2.1 x_1 _ B z_.view mv.2.2.2.2.2.2.2.2.2.2.2.2.2 ((Au hm.2.2.2.2.2.2.2.2.2.2.2.2.2) o w z_)) _))<|rz rfl<|b _ _ ?_
  refine AZ rfl ?_
  cases a
  exact aR eV1
 refine BR (fun tt ll=> ∃(h:Bool),(Qm N m x_0 x_1 h=some r)∧Is [(3,vP c 0),(5,vP d 0),(7,vB true),(9,vI x_0),(60,vB h)] [(d,41, #[vI x_0,vI x_1,vI x_2,vI x_3,U (hi x_4),U (lo x_4)]),(c,35,(Ac m mv))] tt ll) ?_ ?_
 ·refine AZ rfl<|aE a rfl (fun C a=> ?_) (fun C a=> ?_)
  ·refine Ab<|fg _ (Sub.of (suK _ (suK _ suN))) ?_
   exact⟨(x_0==4),a,Af rfl rfl⟩
  refine AZ rfl<|aE a rfl (fun D a=> ?_) (fun D a=> ?_)
  ·refine Ab<|fg _ (Sub.of (suK _ (suK _ suN))) ?_
   exact⟨(x_0==25),a,Af rfl rfl⟩
  refine AZ rfl<|aE a rfl (fun E a=> ?_) (fun E a=> ?_)
  ·refine Ab<|fg _ (Sub.of (suK _ (suK _ suN))) ?_
   exact⟨(x_0==26),a,Af rfl rfl⟩
  refine Ag<|rz rfl<|fg _ (Sub.of (suK _ (suK _ suN))) ?_
  exact⟨(x_0==33),a,Af rfl rfl⟩
 clear a;rintro t l ⟨h,a,⟨T,rfl⟩,rfl⟩
 unfold Qm at a
 refine aB a rfl (fun F a=> ?_) (fun F a=> ?_)
 ·refine Ag<|rm 3 [1,0] rfl<|kB a fun V G a=>gV _ (cF VL) (fun o w z_=>(Does.inv (MZ N m x_1 _ G z_.view mv (Aa2.mono z_.ro_cell hm)) _))<|rz rfl<|b _ _ ?_
  refine AZ rfl ?_
  cases a
  exact aR eV1
 refine BR (fun tt ll=> ∃(i:Bool),(RH N m x_1 i=some r)∧Is [(3,vP c 0),(5,vP d 0),(7,vB true),(69,vB i)] [(d,41, #[vI x_0,vI x_1,vI x_2,vI x_3,U (hi x_4),U (lo x_4)]),(c,35,(Ac m mv))] tt ll) ?_ ?_
 ·refine AZ rfl<|aE a rfl (fun H a=> ?_) (fun H a=> ?_)
  ·refine Ab<|fg _ (Sub.of (suK _ (suK _ suN))) ?_
   exact⟨(x_0==27),a,Af rfl rfl⟩
  refine Ag<|rz rfl<|fg _ (Sub.of (suK _ (suK _ suN))) ?_
  exact⟨(x_0==28),a,Af rfl rfl⟩
 clear a;rintro t l ⟨i,a,⟨T,rfl⟩,rfl⟩
 unfold RH at a
 refine aB a rfl (fun I a=> ?_) (fun I a=> ?_)
 ·refine Ag<|rm 3 [1,0] rfl<|kB a fun W J a=>gV _ (cF Zp) (fun o w z_=>(Does.inv (Me N m x_1 _ J z_.view mv (Aa2.mono z_.ro_cell hm)) _))<|rz rfl<|b _ _ ?_
  refine AZ rfl ?_
  cases a
  exact aR eV1
 refine Ab<|b _ _ ?_
 refine AZ rfl ?_
 cases a
 exact aR eV1
def Re(_:Nat)(s:Aa0):Option (Int×Bool):=Aa0.on s (some (0,false)) (fun _ _ _=>some (0,false)) (fun _ _=>some (0,false)) (fun _ _ _=>some (0,false)) (fun _ b=>some (b,true)) (fun _ a=>some (a,true)) (some (0,false)) (fun _ _=>some (0,false)) (fun _ _=>some (0,false)) (fun _ _=>some (0,false)) (fun _ _=>some (0,false)) (fun _=>some (0,false))
theorem df(N s r)(c:Re N s=some r):Gives prog 155 #[Aa0.v s] (vT #[vI r.1,vB r.2]):=by
 unfold Re at c
 refine As follows func155 rfl 24 rfl _ fz1 (fun i=> ?_)
 refine AZ rfl<|Aa fun j e=>Aa fun k d=>Ag<|rn 1 rfl ?_
 rcases Aa0.cases s with a|⟨x5_0,x6_1,x7_2,a⟩|⟨x8_0,x9_1,a⟩|⟨x10_0,x11_1,x12_2,a⟩|⟨x13_0,x14_1,a⟩|⟨x15_0,x16_1,a⟩|a|⟨x17_0,x18_1,a⟩|⟨x19_0,x20_1,a⟩|⟨x21_0,x22_1,a⟩|⟨x23_0,x24_1,a⟩|⟨x25_0,a⟩
 ·replace c:=Aa0.on_nil a c
  refine r_W (vT #[vA #[vI 0,vI 0],vB false]) rfl (AB ((rfl:_=Aa0.v s).trans (show Aa0.v s=Value.nilIface from by rw [a];rfl)) rfl) ?_
  refine rn 3 rfl<|rA rfl fun f=>ry [0] rfl<|d _ _ ?_
  refine AZ rfl<|Ca rfl ?_
  refine Ab<|e _ _ ?_
  refine Aa fun g b=>Ad<|rn 1 rfl<|r_W (vT #[vA #[vI 0,vI 0],vB false]) rfl (AB ((rfl:_=Aa0.v s).trans (show Aa0.v s=Value.nilIface from by rw [a];rfl)) rfl) ?_
  refine rn 3 rfl<|rA rfl fun h=>ry [0] rfl<|AZ rfl<|Ca rfl ?_
  refine Ab<|b _ _ ?_
  refine AZ rfl ?_
  cases c
  exact aR eE2
 ·replace c:=Aa0.on_t114 a c
  refine r_W (vT #[vA #[vI 0,vI 0],vB false]) rfl (AB ((rfl:_=Aa0.v s).trans (show Aa0.v s=Value.iface 114 (vA #[vI x5_0,vI x6_1,vI x7_2])from by rw [a];rfl)) rfl) ?_
  refine rn 3 rfl<|rA rfl fun f=>ry [0] rfl<|d _ _ ?_
  refine AZ rfl<|Ca rfl ?_
  refine Ab<|e _ _ ?_
  refine Aa fun g b=>Ad<|rn 1 rfl<|r_W (vT #[vA #[vI 0,vI 0],vB false]) rfl (AB ((rfl:_=Aa0.v s).trans (show Aa0.v s=Value.iface 114 (vA #[vI x5_0,vI x6_1,vI x7_2])from by rw [a];rfl)) rfl) ?_
  refine rn 3 rfl<|rA rfl fun h=>ry [0] rfl<|AZ rfl<|Ca rfl ?_
  refine Ab<|b _ _ ?_
  refine AZ rfl ?_
  cases c
  exact aR eE2
 ·replace c:=Aa0.on_t116 a c
  refine r_W (vT #[vA #[vI 0,vI 0],vB false]) rfl (AB ((rfl:_=Aa0.v s).trans (show Aa0.v s=Value.iface 116 (vA #[vI x8_0,vI x9_1])from by rw [a];rfl)) rfl) ?_
  refine rn 3 rfl<|rA rfl fun f=>ry [0] rfl<|d _ _ ?_
  refine AZ rfl<|Ca rfl ?_
  refine Ab<|e _ _ ?_
  refine Aa fun g b=>Ad<|rn 1 rfl<|r_W (vT #[vA #[vI 0,vI 0],vB false]) rfl (AB ((rfl:_=Aa0.v s).trans (show Aa0.v s=Value.iface 116 (vA #[vI x8_0,vI x9_1])from by rw [a];rfl)) rfl) ?_
  refine rn 3 rfl<|rA rfl fun h=>ry [0] rfl<|AZ rfl<|Ca rfl ?_
  refine Ab<|b _ _ ?_
  refine AZ rfl ?_
  cases c
  exact aR eE2
 ·replace c:=Aa0.on_t119 a c
  refine r_W (vT #[vA #[vI 0,vI 0],vB false]) rfl (AB ((rfl:_=Aa0.v s).trans (show Aa0.v s=Value.iface 119 (vA #[vI x10_0,vI x11_1,vI x12_2])from by rw [a];rfl)) rfl) ?_
  refine rn 3 rfl<|rA rfl fun f=>ry [0] rfl<|d _ _ ?_
  refine AZ rfl<|Ca rfl ?_
  refine Ab<|e _ _ ?_
  refine Aa fun g b=>Ad<|rn 1 rfl<|r_W (vT #[vA #[vI 0,vI 0],vB false]) rfl (AB ((rfl:_=Aa0.v s).trans (show Aa0.v s=Value.iface 119 (vA #[vI x10_0,vI x11_1,vI x12_2])from by rw [a];rfl)) rfl) ?_
  refine rn 3 rfl<|rA rfl fun h=>ry [0] rfl<|AZ rfl<|Ca rfl ?_
  refine Ab<|b _ _ ?_
  refine AZ rfl ?_
  cases c
  exact aR eE2
 ·replace c:=Aa0.on_t122 a c
  refine r_W (vT #[vA #[vI 0,vI 0],vB false]) rfl (AB ((rfl:_=Aa0.v s).trans (show Aa0.v s=Value.iface 122 (vA #[vI x13_0,vI x14_1])from by rw [a];rfl)) rfl) ?_
  refine rn 3 rfl<|rA rfl fun f=>ry [0] rfl<|d _ _ ?_
  refine AZ rfl<|Ca rfl ?_
  refine Ab<|e _ _ ?_
  refine Aa fun g b=>Ad<|rn 1 rfl<|r_W (vT #[vA #[vI x13_0,vI x14_1],vB true]) rfl (AB ((rfl:_=Aa0.v s).trans (show Aa0.v s=Value.iface 122 (vA #[vI x13_0,vI x14_1])from by rw [a];rfl)) rfl) ?_
  refine rn 3 rfl<|rA rfl fun h=>ry [0] rfl<|AZ rfl<|Lq rfl ?_
  refine AY [0] rfl ?_
  cases c
  exact aR eE2
 ·replace c:=Aa0.on_t157 a c
  refine r_W (vT #[vA #[vI x15_0,vI x16_1],vB true]) rfl (AB ((rfl:_=Aa0.v s).trans (show Aa0.v s=Value.iface 157 (vA #[vI x15_0,vI x16_1])from by rw [a];rfl)) rfl) ?_
  refine rn 3 rfl<|rA rfl fun f=>ry [0] rfl<|d _ _ ?_
  refine AZ rfl<|Lq rfl ?_
  refine AY [0] rfl ?_
  cases c
  exact aR eE2
 ·replace c:=Aa0.on_t159 a c
  refine r_W (vT #[vA #[vI 0,vI 0],vB false]) rfl (AB ((rfl:_=Aa0.v s).trans (show Aa0.v s=Value.iface 159 (vA #[])from by rw [a];rfl)) rfl) ?_
  refine rn 3 rfl<|rA rfl fun f=>ry [0] rfl<|d _ _ ?_
  refine AZ rfl<|Ca rfl ?_
  refine Ab<|e _ _ ?_
  refine Aa fun g b=>Ad<|rn 1 rfl<|r_W (vT #[vA #[vI 0,vI 0],vB false]) rfl (AB ((rfl:_=Aa0.v s).trans (show Aa0.v s=Value.iface 159 (vA #[])from by rw [a];rfl)) rfl) ?_
  refine rn 3 rfl<|rA rfl fun h=>ry [0] rfl<|AZ rfl<|Ca rfl ?_
  refine Ab<|b _ _ ?_
  refine AZ rfl ?_
  cases c
  exact aR eE2
 ·replace c:=Aa0.on_t167 a c
  refine r_W (vT #[vA #[vI 0,vI 0],vB false]) rfl (AB ((rfl:_=Aa0.v s).trans (show Aa0.v s=Value.iface 167 (vA #[vI x17_0,U (hi x18_1),U (lo x18_1)])from by rw [a];rfl)) rfl) ?_
  refine rn 3 rfl<|rA rfl fun f=>ry [0] rfl<|d _ _ ?_
  refine AZ rfl<|Ca rfl ?_
  refine Ab<|e _ _ ?_
  refine Aa fun g b=>Ad<|rn 1 rfl<|r_W (vT #[vA #[vI 0,vI 0],vB false]) rfl (AB ((rfl:_=Aa0.v s).trans (show Aa0.v s=Value.iface 167 (vA #[vI x17_0,U (hi x18_1),U (lo x18_1)])from by rw [a];rfl)) rfl) ?_
  refine rn 3 rfl<|rA rfl fun h=>ry [0] rfl<|AZ rfl<|Ca rfl ?_
  refine Ab<|b _ _ ?_
  refine AZ rfl ?_
  cases c
  exact aR eE2
 ·replace c:=Aa0.on_t168 a c
  refine r_W (vT #[vA #[vI 0,vI 0],vB false]) rfl (AB ((rfl:_=Aa0.v s).trans (show Aa0.v s=Value.iface 168 (vA #[vI x19_0,vI x20_1])from by rw [a];rfl)) rfl) ?_
  refine rn 3 rfl<|rA rfl fun f=>ry [0] rfl<|d _ _ ?_
  refine AZ rfl<|Ca rfl ?_
  refine Ab<|e _ _ ?_
  refine Aa fun g b=>Ad<|rn 1 rfl<|r_W (vT #[vA #[vI 0,vI 0],vB false]) rfl (AB ((rfl:_=Aa0.v s).trans (show Aa0.v s=Value.iface 168 (vA #[vI x19_0,vI x20_1])from by rw [a];rfl)) rfl) ?_
  refine rn 3 rfl<|rA rfl fun h=>ry [0] rfl<|AZ rfl<|Ca rfl ?_
  refine Ab<|b _ _ ?_
  refine AZ rfl ?_
  cases c
  exact aR eE2
 ·replace c:=Aa0.on_t169 a c
  refine r_W (vT #[vA #[vI 0,vI 0],vB false]) rfl (AB ((rfl:_=Aa0.v s).trans (show Aa0.v s=Value.iface 169 (vA #[vI x21_0,vI x22_1])from by rw [a];rfl)) rfl) ?_
  refine rn 3 rfl<|rA rfl fun f=>ry [0] rfl<|d _ _ ?_
  refine AZ rfl<|Ca rfl ?_
  refine Ab<|e _ _ ?_
  refine Aa fun g b=>Ad<|rn 1 rfl<|r_W (vT #[vA #[vI 0,vI 0],vB false]) rfl (AB ((rfl:_=Aa0.v s).trans (show Aa0.v s=Value.iface 169 (vA #[vI x21_0,vI x22_1])from by rw [a];rfl)) rfl) ?_
  refine rn 3 rfl<|rA rfl fun h=>ry [0] rfl<|AZ rfl<|Ca rfl ?_
  refine Ab<|b _ _ ?_
  refine AZ rfl ?_
  cases c
  exact aR eE2
 ·replace c:=Aa0.on_t171 a c
  refine r_W (vT #[vA #[vI 0,vI 0],vB false]) rfl (AB ((rfl:_=Aa0.v s).trans (show Aa0.v s=Value.iface 171 (vA #[vI x23_0,vI x24_1])from by rw [a];rfl)) rfl) ?_
  refine rn 3 rfl<|rA rfl fun f=>ry [0] rfl<|d _ _ ?_
  refine AZ rfl<|Ca rfl ?_
  refine Ab<|e _ _ ?_
  refine Aa fun g b=>Ad<|rn 1 rfl<|r_W (vT #[vA #[vI 0,vI 0],vB false]) rfl (AB ((rfl:_=Aa0.v s).trans (show Aa0.v s=Value.iface 171 (vA #[vI x23_0,vI x24_1])from by rw [a];rfl)) rfl) ?_
  refine rn 3 rfl<|rA rfl fun h=>ry [0] rfl<|AZ rfl<|Ca rfl ?_
  refine Ab<|b _ _ ?_
  refine AZ rfl ?_
  cases c
  exact aR eE2
 replace c:=Aa0.on_t173 a c
 refine r_W (vT #[vA #[vI 0,vI 0],vB false]) rfl (AB ((rfl:_=Aa0.v s).trans (show Aa0.v s=Value.iface 173 (vA #[vI x25_0])from by rw [a];rfl)) rfl) ?_
 refine rn 3 rfl<|rA rfl fun f=>ry [0] rfl<|d _ _ ?_
 refine AZ rfl<|Ca rfl ?_
 refine Ab<|e _ _ ?_
 refine Aa fun g b=>Ad<|rn 1 rfl<|r_W (vT #[vA #[vI 0,vI 0],vB false]) rfl (AB ((rfl:_=Aa0.v s).trans (show Aa0.v s=Value.iface 173 (vA #[vI x25_0])from by rw [a];rfl)) rfl) ?_
 refine rn 3 rfl<|rA rfl fun h=>ry [0] rfl<|AZ rfl<|Ca rfl ?_
 refine Ab<|b _ _ ?_
 refine AZ rfl ?_
 cases c
 exact aR eE2
def Rf(N:Nat)(s:Aa0):Option (Int×Bool):=(Re N s).bind fun a=>some (a.1,a.2)
theorem dg(N s r)(a:Rf N s=some r):Gives prog 101 #[Aa0.v s] (vT #[vI r.1,vB r.2]):=by
 unfold Rf at a
 refine As follows func101 rfl 8 rfl _ fz1 (fun b=> ?_)
 refine AZ rfl<|Ad<|rn 1 rfl<|kB a fun d c a=>rc _ (cF lB) (df N s _ c)<|rz rfl ?_
 cases a
 exact aR eE2
def JH(N:Nat)(s:Aa0)(a:Int)(b:Int):Option Bool:=(Rf N s).bind fun c=>if c.2=true then ck (R64 (a+1)) ((AE N c.1 (a+1) b).bind fun d=>some d)else some true
theorem UI(N s at' end' r)(a:JH N s at' end'=some r):Gives prog 58 #[Aa0.v s,vI at',vI end'] (vB r):=by
 unfold JH at a
 refine As follows func58 rfl 23 rfl _ fz3 (fun d=> ?_)
 refine AZ rfl<|Ad<|rn 1 rfl<|kB a fun h e a=>rc _ (cF mo) (dg N s _ e)<|rz rfl<|Aa fun i b=>Ag<|rn 3 rfl ?_
 rcases c:(!(h.2))with _|_
 ·replace a:=ifp (CN c) a
  refine rn 2 rfl<|r_y rfl<|kC a fun f a=>rX f rfl<|rn 1 rfl<|r_y rfl<|kB a fun j g a=>rc _ (cF Dg) (AO N h.1 (at'+1) end' _ g)<|rz rfl<|b _ _ ?_
  cases a
  exact aR eE1
 replace a:=ifn (Bool.eq_false_iff.1 (CM c)) a
 refine rz rfl<|b _ _ ?_
 cases a
 exact aR eE1
def Nc(N:Nat)(i:Int)(s:Aa0)(d:An)(c:List Int)(a:List (Int×Int×Int×Int×BitVec 128)):Option Int:=ck (0≤i∧i<(a.length:Int)) ((UK N d c ((a[i.toNat]!).1) ((a[i.toNat]!).2.1) ((a[i.toNat]!).2.2.1) ((a[i.toNat]!).2.2.2.1) ((a[i.toNat]!).2.2.2.2)).bind fun g=>(Ao N g 5).bind fun h=>(JH N s i (a.length:Int)).bind fun f=>(Ao N f 12).bind fun b=>(AP N ([h,b])).bind fun e=>some e)
theorem Wh(N i s c g a r)(f:Nc N i s c g a=some r)(ro)(q:Nat)(d:Ay)(C:Aa2 ro d c)(x:Blk ro q (Gl c d))(t:Nat)(e)(D:Rd BJ ro e g)(y:Blk ro t [e])(u:Nat)(b)(h:Rd Ac9 ro b a)(j:Blk ro u [b]):DoesI prog 54 #[vI i,Aa0.v s,vP q 0,vP t 0,vP u 0] GC ro [] (pV (vI r)):=by
 unfold Nc at f
 refine AW follows func54 rfl 24 rfl _ fz5 Be (fun J=> ?_)
 refine AZ rfl<|Aa fun T K=> ?_
 refine Bw [(some 14,false),(some 22,false),(some 23,false)] (conG prog [(14,cV (UK N c g ((a[i.toNat]!).1) ((a[i.toNat]!).2.1) ((a[i.toNat]!).2.2.1) ((a[i.toNat]!).2.2.2.1) ((a[i.toNat]!).2.2.2.2)) fun n=>vB n),(23,fun _ _ v_ L_ U_=> ∀n,UK N c g ((a[i.toNat]!).1) ((a[i.toNat]!).2.1) ((a[i.toNat]!).2.2.1) ((a[i.toNat]!).2.2.2.1) ((a[i.toNat]!).2.2.2.2)=some n→ ∀E,Ao N n 5=some E→ ∀F,JH N s i (a.length:Int)=some F→ ∀G,Ao N F 12=some G→ ∀H,AP N ([E,G])=some H→(pV (vI H)) v_ L_ U_)]) [] (by decide+kernel) (fun U=>AH) ?_
 refine GX (vA (Ac c d)) (vs:=(Gl c d)) (o:=0) rfl rfl (AQ x) rfl<|GX e (vs:=[e]) (o:=0) rfl rfl (AQ y) rfl<|GX b (vs:=[b]) (o:=0) rfl rfl (AQ j) rfl<|rn 1 rfl<|kC f fun I f=>rI (Rd.shp h) I rfl<|rE (Au h) I 0 rfl<|kB f fun Q p f=>rg _ (cF pe) (fun o w z_=>re N c g ((a[i.toNat]!).1) ((a[i.toNat]!).2.1) ((a[i.toNat]!).2.2.1) ((a[i.toNat]!).2.2.2.1) ((a[i.toNat]!).2.2.2.2) _ p z_.view d (Aa2.mono z_.ro_cell C) e (z_.r D)) (GB p)<|kB f fun L z f=>rc _ (cF Bg) (Ax N Q 5 _ z)<|rn 2 rfl<|GX b (vs:=[b]) (o:=0) rfl rfl (AQ j) rfl<|rL (Rd.shp h) rfl<|kB f fun R A f=>rc _ (cF pd) (UI N s i (a.length:Int) _ A)<|kB f fun B l f=>rc _ (cF Bg) (Ax N R 12 _ l) ?_
 refine IW (Ls:=[]) 46 BJ [L,B] [vI L,vI B] [vI 0,vI 0] rfl rfl rfl rfl rfl rfl rfl (by kernel_rfl) (by kernel_rfl) rfl rfl rfl (fun M O P=> ?_)
 refine kB f fun S m f=>rg _ (cF EG) (fun o w z_=>(Does.inv (BS N ([L,B]) _ m z_.view M ((Av P (Ai (Ls:=[O]) (k:=0) rfl rfl)) o w z_)) _)) (fun _ _ v_ L_ U_=>⟨fun h_=>h_ _ p _ z _ A _ l _ m,fun h_=>by intro _ e_;cases q1 (e_.symm.trans p);intro _ e_;cases q1 (e_.symm.trans z);intro _ e_;cases q1 (e_.symm.trans A);intro _ e_;cases q1 (e_.symm.trans l);intro _ e_;cases q1 (e_.symm.trans m);exact h_⟩) ?_
 refine rz rfl<|K _ _ ?_
 cases f
 exact aR eV1
def GZ(N:Nat)(e:List Aa0)(c:An)(b:List Int)(d:List (Int×Int×Int×Int×BitVec 128)):Nat→Int→Option (Int×Int)
  |0,_=>none
  |g+1,a=>if a<(e.length:Int)then ck (0≤a∧a<(e.length:Int)) ((Nc N a (e[a.toNat]!) c b d).bind fun f=>if(f:Int)≠0 then some (a,f)else ck (R64 (a+1)) ((GZ N e c b d g) (a+1)))else some (0,0)
def JN(N:Nat)(e:List Aa0)(d:Int)(b:An)(a:List Int)(c:List (Int×Int×Int×Int×BitVec 128)):Option (Int×Int):=if(e.length:Int)>d then some (0,2)else GZ N e b a c N 0
theorem RG(N l' most e f g r)(d:JN N l' most e f g=some r)(ro l'v)(hl':Rd PZ ro l'v l')(a:Nat)(h:Ay)(q:Aa2 ro h e)(m:Blk ro a (Gl e h))(b:Nat)(i)(s:Rd BJ ro i f)(n:Blk ro b [i])(c:Nat)(j)(u:Rd Ac9 ro j g)(p:Blk ro c [j]):DoesI prog 53 #[l'v,vI most,vF 54 #[] #[vP a 0,vP b 0,vP c 0]] GC ro [] (pV (vT #[vI r.1,vI r.2])):=by
 unfold JN at d
 refine AW follows func53 rfl 31 rfl _ fz3 Be (fun E=> ?_)
 refine AZ rfl<|Aa fun L F=>Ad<|rn 1 rfl<|rL (Rd.shp hl') rfl<|rz rfl<|aD d rfl (fun G d=> ?_) (fun G d=> ?_)
 ·refine AZ rfl ?_
  cases d
  exact aR eV2
 refine Ab<|F _ _ ?_
 refine Aa fun M H=>Ad<|rn 1 rfl<|rL (Rd.shp hl') rfl<|rz rfl<|Ah<|AC (fun tt ll nn=> ∃(x:Nat) (k:Int),(GZ N l' e f g x k=some r)∧Is [(2,vF 54 #[] #[vP a 0,vP b 0,vP c 0]),(15,l'v),(16,vI (l'.length:Int)),(17,vI k)] [] tt ll∧nn=x+1) (N+1) ?_ ?_
 ·exact⟨N,0,d,Af rfl rfl,rfl⟩
 clear d;rintro t l _ ⟨x,k,d,⟨⟨T,rfl⟩,rfl⟩,rfl⟩
 rcases x with _|x
 ·exact absurd d (by simp [GZ])
 rw [GZ] at d
 refine AZ rfl<|Aa fun I y=>aD d rfl (fun z d=> ?_) (fun z d=> ?_)
 ·refine Ab<|y _ _ ?_
  refine Aa fun J A=>Ah<|Ad<|rn 1 rfl<|kC d fun v d=>rI (Rd.shp hl') v rfl<|rE (Au hl') v 0 rfl<|rz rfl<|Ad<|rn 3 rfl<|kB d fun K B d=>gV _ (BG (caps:=[vP a 0,vP b 0,vP c 0]) rfl pf rfl) (fun o w z_=>Wh N k (l'[k.toNat]!) e f g _ B z_.view a h (Aa2.mono z_.ro_cell q) (AQ m o w z_) b i (z_.r s) (AQ n o w z_) c j (z_.r u) (AQ p o w z_))<|rz rfl<|AZ rfl<|aN d rfl (fun C d=> ?_) (fun C d=> ?_)
  ·refine AZ rfl ?_
   cases d
   exact aR eV2
  refine Ab<|A _ _ ?_
  refine Ag<|kC d fun D d=>rX D rfl<|rz rfl<|fg _ (Sub.of suN) ?_
  exact⟨x+1,by omega,x,(k+1),d,Af rfl rfl,rfl⟩
 refine AD<|H _ _ ?_
 refine AZ rfl ?_
 cases d
 exact aR eV2
def Jm(N:Nat)(m:An)(a:List Int)(d:List (Int×Int×Int×Int×BitVec 128)):Option Int:=if(a.length:Int)>8 then some 2 else(TO N d).bind fun b=>if(b.2.2:Int)≠0 then some b.2.2 else(JN N b.1 64 m a d).bind fun c=>some c.2
theorem PB(N m params l' r)(a:Jm N m params l'=some r)(ro)(mv:Ay)(hm:Aa2 ro mv m)(paramsv)(hparams:Rd BJ ro paramsv params)(l'v)(hl':Rd Ac9 ro l'v l'):DoesI prog 29 #[vA (Ac m mv),paramsv,l'v] GC ro [] (pV (vI r)):=by
 unfold Jm at a
 refine AW follows func29 rfl 29 rfl _ fz3 Be (fun f=> ?_)
 refine Ad<|rA rfl fun g=>r_a (29, #[paramsv]) rfl rfl (MF rfl (Rd.shp hparams)) (fun h=> ?_) (.inr rfl)
 refine r_a (64, #[l'v]) rfl rfl (MF rfl (Rd.shp hl')) (fun i=> ?_) (.inr rfl)
 refine rz rfl<|Aa fun v j=>Ad<|rm 1 [1] rfl<|rL (Rd.shp hparams) rfl<|rz rfl<|aD a rfl (fun l a=> ?_) (fun l a=> ?_)
 ·refine AZ rfl ?_
  cases a
  exact aR eV1
 refine Ab<|j _ _ ?_
 refine Ad<|rm 1 [0] rfl<|kB a fun n b a=>gS (Ls:=[(dY i l'v),(dZ h paramsv),[(g,35,(Ac m mv))]]) (cF eJ) (fun o w z_=>(Does.inv (ew N l' _ b z_.view l'v ((Au hl') o w z_)) _)) (fun p q s=> ?_)
 refine rz rfl<|Aa fun u c=>AZ rfl<|aN a rfl (fun d a=> ?_) (fun d a=> ?_)
 ·refine AZ rfl ?_
  cases a
  exact aR eV1
 refine Ab<|c _ _ ?_
 refine Ad<|rn 1 rfl<|r_W (vF 54 #[] #[vP g 0,vP h 0,vP i 0]) rfl (HD rfl)<|kB a fun t e a=>gV _ (cF pg) (fun o w z_=>RG N n.1 64 m params l' _ e z_.view p ((Av s (Ai (Ls:=[(dY i l'v),(dZ h paramsv),[(g,35,(Ac m mv))],q]) (k:=3) rfl rfl)) o w z_) g mv (Aa2.mono z_.ro_cell hm) (Cw 2 rfl rfl o w z_) h paramsv (z_.r hparams) (Cw 1 rfl rfl o w z_) i l'v ((Au hl') o w z_) (Cw 0 rfl rfl o w z_))<|rz rfl<|Gm [(9,vI t.2)] rfl (fun T=> ?_)
 refine AZ rfl ?_
 cases a
 exact aR eV1
def Jc(N:Nat)(c:An)(_:List UInt8)(a:List Int)(b:List (Int×Int×Int×Int×BitVec 128)):Option Int:=(PF N a 8).bind fun f=>(Jm N c a b).bind fun e=>(AP N ([f.2,e])).bind fun d=>some d
theorem WE(N c x_0 x_1 x_2 r)(a:Jc N c x_0 x_1 x_2=some r)(ro)(cv:Ay)(hc:Aa2 ro cv c)(x_1v)(hx_1:Rd BJ ro x_1v x_1)(x_2v)(hx_2:Rd Ac9 ro x_2v x_2):DoesI prog 133 #[vA (Ac c cv),vA #[vS x_0,x_1v,x_2v]] GC ro [] (pV (vI r)):=by
 unfold Jc at a
 refine AW follows func133 rfl 23 rfl _ fz2 Be (fun d=> ?_)
 refine Ad<|rA rfl fun j=>rA rfl fun l=>rz rfl<|Ad<|rm 2 [0] rfl<|kB a fun m e a=>gV _ (cF RW) (fun o w z_=>(Does.inv (ar N x_1 8 _ e z_.view x_1v (z_.r hx_1)) _))<|rz rfl<|Ad<|rm 7 [1,0,0] rfl<|kB a fun n f a=>gV _ (cF Zl) (fun o w z_=>PB N c x_1 x_2 _ f z_.view cv (Aa2.mono z_.ro_cell hc) x_1v (z_.r hx_1) x_2v (z_.r hx_2))<|gB (Ls:=[(Pz l x_0 x_1v x_2v),[(j,143,(Ac c cv))]]) 46 BJ [m.2,n] (fun g h i=> ?_)
 refine kB a fun p b a=>gV _ (cF EG) (fun o w z_=>(Does.inv (BS N ([m.2,n]) _ b z_.view g ((Av i (Ai (Ls:=[(Pz l x_0 x_1v x_2v),[(j,143,(Ac c cv))],h]) (k:=2) rfl rfl)) o w z_)) _))<|rz rfl ?_
 cases a
 exact aR eV1
def Ku(N:Nat)(i:Int)(e:List UInt8)(g:List Int)(d:List (Int×Int×Int×Int×BitVec 128))(b:List (List UInt8))(a:An):Option Int:=ck (0≤i∧i<(b.length:Int)) ((FS N (b[i.toNat]!)).bind fun k=>(Ao N k 4).bind fun h=>(Bf N b i).bind fun j=>(Jc N a e g d).bind fun c=>(AP N ([h,j,c])).bind fun f=>some f)
theorem SG(N i x_0 x_1 x_2 b c3_p0_0_ r)(c:Ku N i x_0 x_1 x_2 b c3_p0_0_=some r)(ro x_1v)(hx_1:Rd BJ ro x_1v x_1)(x_2v)(hx_2:Rd Ac9 ro x_2v x_2)(l:Nat)(a)(g:Rd Aa4 ro a b)(h:Blk ro l [a])(m:Nat)(c3_p0_0_v:Ay)(hc3_p0_0_:Aa2 ro c3_p0_0_v c3_p0_0_)(n:Blk ro m [vF 133 #[vA (Ac c3_p0_0_ c3_p0_0_v)] #[]]):DoesI prog 190 #[vI i,vA #[vS x_0,x_1v,x_2v],vP l 0,vP m 0] GC ro [] (pV (vI r)):=by
 unfold Ku at c
 refine AW follows func190 rfl 21 rfl _ fz4 Be (fun z=> ?_)
 refine Ad<|rA rfl fun G=>rz rfl<|Aa fun J A=> ?_
 refine Bw [(some 15,false),(some 18,false),(some 19,false),(some 20,false)] (conG prog [(15,cV (Bf N b i) fun f=>vI f),(18,cV (Jc N c3_p0_0_ x_0 x_1 x_2) fun f=>vI f),(20,fun _ _ v_ L_ U_=> ∀f,FS N (b[i.toNat]!)=some f→ ∀t,Ao N f 4=some t→ ∀u,Bf N b i=some u→ ∀v,Jc N c3_p0_0_ x_0 x_1 x_2=some v→ ∀x,AP N ([t,u,v])=some x→(pV (vI x)) v_ L_ U_)]) [] (by decide+kernel) (fun K=>AH) ?_
 refine GX a (vs:=[a]) (o:=0) rfl rfl (AQ h) rfl<|rn 1 rfl<|kC c fun y c=>rI (Rd.shp g) y rfl<|rE (Au g) y 0 rfl<|kB c fun H p c=>rc _ (cF ME) (Kr N (b[i.toNat]!) _ p)<|kB c fun B q c=>rc _ (cF Bg) (Ax N H 4 _ q)<|GX a (vs:=[a]) (o:=0) rfl rfl (AQ h) rfl<|rn 1 rfl<|kB c fun C d c=>rg _ (cF KU) (fun o w z_=>(Does.inv (Hp N b i _ d z_.view a (z_.r g)) _)) (GB d)<|GX (vF 133 #[vA (Ac c3_p0_0_ c3_p0_0_v)] #[]) (vs:=[vF 133 #[vA (Ac c3_p0_0_ c3_p0_0_v)] #[]]) (o:=0) rfl rfl (AQ n) rfl<|rm 1 [0] rfl<|kB c fun s e c=>rg _ (PX (bd:=[vA (Ac c3_p0_0_ c3_p0_0_v)]) (caps:=[]) rfl lR rfl) (fun o w z_=>WE N c3_p0_0_ x_0 x_1 x_2 _ e z_.view c3_p0_0_v (Aa2.mono z_.ro_cell hc3_p0_0_) x_1v (z_.r hx_1) x_2v (z_.r hx_2)) (GB e) ?_
 refine IW (Ls:=[(Pz G x_0 x_1v x_2v)]) 46 BJ [B,C,s] [vI B,vI C,vI s] [vI 0,vI 0,vI 0] rfl rfl rfl rfl rfl rfl rfl (by kernel_rfl) (by kernel_rfl) rfl rfl rfl (fun D E F=> ?_)
 refine kB c fun I j c=>rg _ (cF EG) (fun o w z_=>(Does.inv (BS N ([B,C,s]) _ j z_.view D ((Av F (Ai (Ls:=[(Pz G x_0 x_1v x_2v),E]) (k:=1) rfl rfl)) o w z_)) _)) (fun _ _ v_ L_ U_=>⟨fun h_=>h_ _ p _ q _ d _ e _ j,fun h_=>by intro _ e_;cases q1 (e_.symm.trans p);intro _ e_;cases q1 (e_.symm.trans q);intro _ e_;cases q1 (e_.symm.trans d);intro _ e_;cases q1 (e_.symm.trans e);intro _ e_;cases q1 (e_.symm.trans j);exact h_⟩) ?_
 refine rz rfl<|A _ _ ?_
 cases c
 exact aR eV1
def HX(N:Nat)(d:List ((List UInt8)×(List Int)×(List (Int×Int×Int×Int×BitVec 128))))(c:List (List UInt8))(b:An):Nat→Int→Option (Int×Int)
  |0,_=>none
  |f+1,a=>if a<(d.length:Int)then ck (0≤a∧a<(d.length:Int)) ((Ku N a (d[a.toNat]!.1) (d[a.toNat]!.2.1) (d[a.toNat]!.2.2) c b).bind fun e=>if(e:Int)≠0 then some (a,e)else ck (R64 (a+1)) ((HX N d c b f) (a+1)))else some (0,0)
def Mn(N:Nat)(d:List ((List UInt8)×(List Int)×(List (Int×Int×Int×Int×BitVec 128))))(c:Int)(b:List (List UInt8))(a:An):Option (Int×Int):=if(d.length:Int)>c then some (0,2)else HX N d b a N 0
theorem UU(N l' most e ask1_p0_0_ r)(d:Mn N l' most e ask1_p0_0_=some r)(ro l'v)(hl':RdN Ad6 ro l'v l')(a:Nat)(f)(k:Rd Aa4 ro f e)(g:Blk ro a [f])(b:Nat)(ask1_p0_0_v:Ay)(hask1_p0_0_:Aa2 ro ask1_p0_0_v ask1_p0_0_)(h:Blk ro b [vF 133 #[vA (Ac ask1_p0_0_ ask1_p0_0_v)] #[]]):DoesI prog 189 #[l'v,vI most,vF 190 #[] #[vP a 0,vP b 0]] GC ro [] (pV (vT #[vI r.1,vI r.2])):=by
 unfold Mn at d
 refine AW follows func189 rfl 31 rfl _ fz3 Be (fun A=> ?_)
 refine AZ rfl<|Aa fun J B=>Ad<|rn 1 rfl<|rL (RdN.shp hl') rfl<|rz rfl<|aD d rfl (fun C d=> ?_) (fun C d=> ?_)
 ·refine AZ rfl ?_
  cases d
  exact aR eV2
 refine Ab<|B _ _ ?_
 refine Aa fun K D=>Ad<|rn 1 rfl<|rL (RdN.shp hl') rfl<|rz rfl<|Ah<|AC (fun tt ll nn=> ∃(q:Nat) (c:Int),(HX N l' e ask1_p0_0_ q c=some r)∧Is [(2,vF 190 #[] #[vP a 0,vP b 0]),(15,l'v),(16,vI (l'.length:Int)),(17,vI c)] [] tt ll∧nn=q+1) (N+1) ?_ ?_
 ·exact⟨N,0,d,Af rfl rfl,rfl⟩
 clear d;rintro t l _ ⟨q,c,d,⟨⟨T,rfl⟩,rfl⟩,rfl⟩
 rcases q with _|q
 ·exact absurd d (by simp [HX])
 rw [HX] at d
 refine AZ rfl<|Aa fun G s=>aD d rfl (fun u d=> ?_) (fun u d=> ?_)
 ·refine Ab<|s _ _ ?_
  refine Aa fun H v=>Ah<|Ad<|rn 1 rfl<|kC d fun m d=> ?_
  obtain⟨_,⟨i,j,n,p,rfl⟩,hat19⟩:=RdN.at (E:=Ad6) hl' (De m)
  refine rI (RdN.shp hl') m rfl<|MG (vA #[vS (l'[c.toNat]!.1),i,j]) (vs:=[vS (l'[c.toNat]!.1),i,j]) (c.toNat*3) 0 rfl rfl (fun o w z_=>At.mono z_.ro_cell hat19) rfl<|rA rfl fun F=>rn 1 rfl<|r_s (Pz F (l'[c.toNat]!.1) i j) 0 _ _ _ _ _ (#[vS (l'[c.toNat]!.1),i,j]) rfl rfl rfl rfl (.ofS rfl rfl (Ae rfl (Ae (Shp.one (Rd.shp n)) (Ae (Shp.one (Rd.shp p)) Bt)))) rfl rfl<|Ak<|Ad<|rm 3 [0] rfl<|kB d fun I x d=>gV _ (BG (caps:=[vP a 0,vP b 0]) rfl kY rfl) (fun o w z_=>SG N c (l'[c.toNat]!.1) (l'[c.toNat]!.2.1) (l'[c.toNat]!.2.2) e ask1_p0_0_ _ x z_.view i (z_.r n) j (z_.r p) a f (z_.r k) (AQ g o w z_) b ask1_p0_0_v (Aa2.mono z_.ro_cell hask1_p0_0_) (AQ h o w z_))<|rz rfl<|AZ rfl<|aN d rfl (fun y d=> ?_) (fun y d=> ?_)
  ·refine AZ rfl ?_
   cases d
   exact aR eV2
  refine Ab<|v _ _ ?_
  refine Ag<|kC d fun z d=>rX z rfl<|rz rfl<|fg _ (Sub.of (suC _ suN)) ?_
  exact⟨q+1,by omega,q,(c+1),d,Af rfl rfl,rfl⟩
 refine AD<|D _ _ ?_
 refine AZ rfl ?_
 cases d
 exact aR eV2
def Mj(N:Nat)(d:List ((List UInt8)×(List Int)×(List (Int×Int×Int×Int×BitVec 128))))(c:Int)(a:An):Option (Int×Int):=(Ml N d).bind fun e=>(Mn N d c e a).bind fun b=>some (b.1,b.2)
theorem UQ(N l' most b r)(d:Mj N l' most b=some r)(ro l'v)(hl':RdN Ad6 ro l'v l')(a:Ay)(c:Aa2 ro a b):DoesI prog 131 #[l'v,vI most,vF 132 #[] #[],vF 133 #[vA (Ac b a)] #[]] GC ro [] (pV (vT #[vI r.1,vI r.2])):=by
 unfold Mj at d
 refine AW follows func131 rfl 20 rfl _ fz4 Be (fun g=> ?_)
 refine Ad<|rA rfl fun e=>rz rfl<|Ad<|rn 2 rfl<|kB d fun n j d=>gS (Ls:=[(UD e (vF 133 #[vA (Ac b a)] #[]))]) (cF la) (fun o w z_=>(Does.inv (US N l' _ j z_.view l'v (RdN.mono z_.ro_cell hl')) _)) (fun h m l=> ?_)
 refine rA rfl fun i=>r_s (List.flatten [(ai i h),(UD e (vF 133 #[vA (Ac b a)] #[])),m]) 0 _ _ _ _ _ (#[h]) rfl rfl rfl (FM rfl (Sl.shp l)) (.ofS rfl rfl (Ae (Shp.one (Sl.shp l)) Bt)) rfl rfl<|Ak<|Ad<|rn 2 rfl<|r_W (vF 190 #[] #[vP i 0,vP e 0]) rfl (HD rfl)<|kB d fun p f d=>gV _ (cF kZ) (fun o w z_=>UU N l' most n b _ f z_.view l'v (RdN.mono z_.ro_cell hl') i h ((Av l (Ai (Ls:=[(ai i h),(UD e (vF 133 #[vA (Ac b a)] #[])),m]) (k:=2) rfl rfl)) o w z_) (Cw 0 rfl rfl o w z_) e a (Aa2.mono z_.ro_cell c) (Cw 1 rfl rfl o w z_))<|rz rfl ?_
 cases d
 exact aR eV2
end Go.Proofs.YthmpbldidnmenaaGreatDoor
