import Derived.Test.YtoolcgbcfgnipaaGreatDoorBg
namespace Go.Proofs.YtoolcgbcfgnipaaGreatDoor
open Go Go.RowKit Go.Eng _root_.Go.Proofs.Tryz
set_option linter.unusedSimpArgs false
set_option linter.unusedVariables false
set_option maxRecDepth 100000
set_option maxHeartbeats 80000000
abbrev Ln(b:Nat)(x0:Int)(x1:Int)(x2:Int)(x3:Int)(x4:BitVec 64)(x5:BitVec 64):List Bl:=[(b,53, #[vI x0,vI x1,vI x2,vI x3,U x4,U x5])]
abbrev fd(b:Nat)(x0:Value):List Bl:=[(b,36, #[x0])]
abbrev fe(b:Nat)(x0:Value):List Bl:=[(b,29, #[x0])]
abbrev Qc(b:Nat)(x0:List UInt8)(x1:Value)(x2:Value):List Bl:=[(b,172, #[vS x0,x1,x2])]
abbrev UO(b:Nat)(x0:Value):List Bl:=[(b,195, #[x0])]
abbrev aw(b:Nat)(x0:Value):List Bl:=[(b,118, #[x0])]
def Qp(_:Nat)(o:Int):Option Bool:=if o≥0 then some (decide (o<35))else some false
theorem kT(N o r)(a:Qp N o=some r):Gives prog 129 #[vI o] (vB r):=by
 unfold Qp at a
 refine Av follows func129 rfl 9 rfl _ fz1 (fun d=> ?_)
 refine AZ rfl<|Aa fun e b=>Ag<|rn 3 rfl ?_
 rcases c:(decide (o≥0))with _|_
 ·replace a:=iF c a
  refine rz rfl<|b _ _ ?_
  cases a
  exact aR eE1
 replace a:=iD c a
 refine rz rfl<|b _ _ ?_
 cases a
 exact aR eE1
def IV(_:Nat)(a:Int)(b:Int)(n:Int):Option Bool:=if n≥a then some (decide (n≤b))else some false
theorem RZ(N s_0 s_1 n r)(a:IV N s_0 s_1 n=some r):Gives prog 130 #[vA #[vI s_0,vI s_1],vI n] (vB r):=by
 unfold IV at a
 refine Av follows func130 rfl 15 rfl _ fz2 (fun d=> ?_)
 refine Ad<|rA rfl fun e=>rz rfl<|Aa fun f b=>Ag<|rm 5 [0] rfl ?_
 rcases c:(decide (n≥s_0))with _|_
 ·replace a:=iF c a
  refine rz rfl<|b _ _ ?_
  cases a
  exact aR eE1
 replace a:=iD c a
 refine rn 2 rfl<|r_y rfl<|ry [0] rfl<|b _ _ ?_
 cases a
 exact aR eE1
def Ky(N:Nat)(c:Int)(_:Int)(_:Int)(a:Int)(b:BitVec 128):Option Bool:=if c=0 then(MQ N a b).bind fun d=>some d else some ((a==0)&&(b==((0#64)++(0#64))))
theorem WN(N x_0 x_1 x_2 x_3 x_4 r)(a:Ky N x_0 x_1 x_2 x_3 x_4=some r):Gives prog 131 #[vA #[vI x_0,vI x_1,vI x_2,vI x_3,U (hi x_4),U (lo x_4)]] (vB r):=by
 unfold Ky at a
 refine Av follows func131 rfl 13 rfl _ fz1 (fun b=> ?_)
 refine Ad<|rA rfl fun g=>rz rfl<|Aa fun h d=>AY [0] rfl<|aE a rfl (fun e a=> ?_) (fun e a=> ?_)
 ·refine Ad<|rm 2 [0] rfl<|kB a fun i f a=>rc _ (cF bZ) (WP N x_3 x_4 _ f)<|rz rfl ?_
  cases a
  exact aR eE1
 refine Ab<|d _ _ ?_
 refine Ad<|r_V (vP g 3) rfl<|rl (vA #[vI x_3,U (hi x_4),U (lo x_4)]) 0<|r_W (vA #[vI 0,U (0#64),U (0#64)]) rfl (Ap rfl rfl rfl rfl)<|r_W (vB ((x_3==0)&&(x_4==((0#64)++(0#64))))) rfl (Vw rfl rfl kJ (by have h_:=fun c=>Zk (c:=c) x_3 0 x_4 ((0#64)++(0#64));simp only [Bo] at h_;exact h_ _)) ?_
 refine rz rfl ?_
 cases a
 exact aR eE1
def Mq(N:Nat)(f:Int)(g:Int)(c:Int)(d:Int)(b:BitVec 128)(e:Bool):Option Int:=if e=true then some 7 else(Ky N f g c d b).bind fun a=>if a=true then some 0 else some 1
def Sc(N:Nat)(b:Int)(c:Int)(a:Int)(e:Int)(d:BitVec 128):Option Int:=(Nv N b c a e d).bind fun f=>(Qp N b).bind fun g=>if g=true then(IV N f.1 f.2.1 c).bind fun h=>if h=true then(IV N f.2.2.1 f.2.2.2 a).bind fun i=>Mq N b c a e d (!(i))else Mq N b c a e d true else some 10
theorem qc(N x_0 x_1 x_2 x_3 x_4 r)(a:Sc N x_0 x_1 x_2 x_3 x_4=some r):Gives prog 68 #[vA #[vI x_0,vI x_1,vI x_2,vI x_3,U (hi x_4),U (lo x_4)]] (vI r):=by
 unfold Sc at a
 refine Av follows func68 rfl 32 rfl _ fz1 (fun k=> ?_)
 refine Ad<|rA rfl fun s=>rz rfl<|Ad<|rm 1 [0] rfl<|kB a fun m n a=>rc _ (cF nr) (kU N x_0 x_1 x_2 x_3 x_4 _ n)<|rn 3 rfl<|rA rfl fun w=>rA rfl fun x=>ry [1,0] rfl<|Aa fun y o=>Ai<|Ad<|rm 2 [2] rfl<|kB a fun u f a=>rc _ (cF nq) (kT N x_0 _ f)<|rz rfl<|Bf _ rfl (fun c=> ?_) (fun c=> ?_)
 ·replace a:=ifn (Bool.eq_false_iff.1 (Da c)) a
  refine AZ rfl ?_
  cases a
  exact aR eE1
 replace a:=ifp (Db c) a
 refine Cb (fun tt ll=> ∃(e:Bool),(Mq N x_0 x_1 x_2 x_3 x_4 e=some r)∧Is [(1,vP s 0),(15,vB e)] (Ln s x_0 x_1 x_2 x_3 (hi x_4) (lo x_4)) tt ll) ?_ ?_
 ·refine Ag<|rm 3 [1,2] rfl<|kB a fun p g a=>rc _ (cF ct) (RZ N m.1 m.2.1 x_1 _ g)<|rn 2 rfl ?_
  rcases b:(!(p))with _|_
  ·replace a:=ifp (Db b) a
   refine r_y rfl<|rm 2 [0] rfl<|r_y rfl<|rm 1 [2] rfl<|r_y rfl<|kB a fun q h a=>rc _ (cF ct) (RZ N m.2.2.1 m.2.2.2 x_2 _ h)<|rz rfl<|fg _ (Sub.of (suC _ (suC _ (suK _ suN)))) ?_
   exact⟨!(q),a,Ah (by first|rfl|(simp only [b];done)|(simp only [b];rfl)|(simp only [Bo];rfl)) rfl⟩
  replace a:=ifn (Bool.eq_false_iff.1 (Da b)) a
  refine rz rfl<|fg _ (Sub.of (suC _ (suC _ (suK _ suN)))) ?_
  exact⟨true,a,Ah (by first|rfl|(simp only [b];done)|(simp only [b];rfl)|(simp only [Bo];rfl)) rfl⟩
 clear a;rintro t l ⟨e,a,⟨T,rfl⟩,rfl⟩
 unfold Mq at a
 refine aB a rfl (fun i a=> ?_) (fun i a=> ?_)
 ·refine AZ rfl ?_
  cases a
  exact aR eE1
 refine Ad<|rm 1 [0] rfl<|kB a fun v j a=>rc _ (cF np) (WN N x_0 x_1 x_2 x_3 x_4 _ j)<|rz rfl<|Bf _ rfl (fun d=> ?_) (fun d=> ?_)
 ·replace a:=ifn (Bool.eq_false_iff.1 (Da d)) a
  refine AZ rfl ?_
  cases a
  exact aR eE1
 replace a:=ifp (Db d) a
 refine Ab<|o _ _ ?_
 refine AZ rfl ?_
 cases a
 exact aR eE1
inductive Aa0 where
  |nil
  |t107 (x0:Int) (x1:Int)
  |t109 (x0:Int) (x1:Int)
  |t111 
  |t150 (x0:Int) (x1:Int) (x2:Int)
  |t152 (x0:Int) (x1:Int)
  |t155 (x0:Int) (x1:Int) (x2:Int)
  |t228 (x0:Int) (x1:BitVec 128)
  |t229 (x0:Int) (x1:Int)
  |t230 (x0:Int) (x1:Int)
  |t232 (x0:Int) (x1:Int)
  |t234 (x0:Int)
  deriving Inhabited
def Aa0.on{β:Type}(x:Aa0)(a:β)(f:Int→Int→β)(c:Int→Int→β)(h:β)(g:Int→Int→Int→β)(j:Int→Int→β)(l:Int→Int→Int→β)(d:Int→(BitVec 128)→β)(k:Int→Int→β)(i:Int→Int→β)(b:Int→Int→β)(e:Int→β):β:=match x with| .nil=>a| .t107 x0 x1=>f x0 x1| .t109 x0 x1=>c x0 x1| .t111  =>h  | .t150 x0 x1 x2=>g x0 x1 x2| .t152 x0 x1=>j x0 x1| .t155 x0 x1 x2=>l x0 x1 x2| .t228 x0 x1=>d x0 x1| .t229 x0 x1=>k x0 x1| .t230 x0 x1=>i x0 x1| .t232 x0 x1=>b x0 x1| .t234 x0=>e x0
theorem Aa0.on_nil {β:Type}{x:Aa0}{a r:β}{f107:Int→Int→β}{f109:Int→Int→β}{f111:β}{f150:Int→Int→Int→β}{f152:Int→Int→β}{f155:Int→Int→Int→β}{f228:Int→(BitVec 128)→β}{f229:Int→Int→β}{f230:Int→Int→β}{f232:Int→Int→β}{f234:Int→β}(h:x= .nil)(e:Aa0.on x a f107 f109 f111 f150 f152 f155 f228 f229 f230 f232 f234=r):a=r:=by subst h;exact e
theorem Aa0.on_t107 {β:Type}{x:Aa0}{a r:β}{f107:Int→Int→β}{f109:Int→Int→β}{f111:β}{f150:Int→Int→Int→β}{f152:Int→Int→β}{f155:Int→Int→Int→β}{f228:Int→(BitVec 128)→β}{f229:Int→Int→β}{f230:Int→Int→β}{f232:Int→Int→β}{f234:Int→β}{b:Int}{c:Int}(h:x= .t107 b c)(e:Aa0.on x a f107 f109 f111 f150 f152 f155 f228 f229 f230 f232 f234=r):f107 b c=r:=by subst h;exact e
theorem Aa0.on_t109 {β:Type}{x:Aa0}{a r:β}{f107:Int→Int→β}{f109:Int→Int→β}{f111:β}{f150:Int→Int→Int→β}{f152:Int→Int→β}{f155:Int→Int→Int→β}{f228:Int→(BitVec 128)→β}{f229:Int→Int→β}{f230:Int→Int→β}{f232:Int→Int→β}{f234:Int→β}{b:Int}{c:Int}(h:x= .t109 b c)(e:Aa0.on x a f107 f109 f111 f150 f152 f155 f228 f229 f230 f232 f234=r):f109 b c=r:=by subst h;exact e
theorem Aa0.on_t111 {β:Type}{x:Aa0}{a r:β}{f107:Int→Int→β}{f109:Int→Int→β}{f111:β}{f150:Int→Int→Int→β}{f152:Int→Int→β}{f155:Int→Int→Int→β}{f228:Int→(BitVec 128)→β}{f229:Int→Int→β}{f230:Int→Int→β}{f232:Int→Int→β}{f234:Int→β}(h:x= .t111)(e:Aa0.on x a f107 f109 f111 f150 f152 f155 f228 f229 f230 f232 f234=r):f111  =r:=by subst h;exact e
theorem Aa0.on_t150 {β:Type}{x:Aa0}{a r:β}{f107:Int→Int→β}{f109:Int→Int→β}{f111:β}{f150:Int→Int→Int→β}{f152:Int→Int→β}{f155:Int→Int→Int→β}{f228:Int→(BitVec 128)→β}{f229:Int→Int→β}{f230:Int→Int→β}{f232:Int→Int→β}{f234:Int→β}{b:Int}{c:Int}{x2:Int}(h:x= .t150 b c x2)(e:Aa0.on x a f107 f109 f111 f150 f152 f155 f228 f229 f230 f232 f234=r):f150 b c x2=r:=by subst h;exact e
theorem Aa0.on_t152 {β:Type}{x:Aa0}{a r:β}{f107:Int→Int→β}{f109:Int→Int→β}{f111:β}{f150:Int→Int→Int→β}{f152:Int→Int→β}{f155:Int→Int→Int→β}{f228:Int→(BitVec 128)→β}{f229:Int→Int→β}{f230:Int→Int→β}{f232:Int→Int→β}{f234:Int→β}{b:Int}{c:Int}(h:x= .t152 b c)(e:Aa0.on x a f107 f109 f111 f150 f152 f155 f228 f229 f230 f232 f234=r):f152 b c=r:=by subst h;exact e
theorem Aa0.on_t155 {β:Type}{x:Aa0}{a r:β}{f107:Int→Int→β}{f109:Int→Int→β}{f111:β}{f150:Int→Int→Int→β}{f152:Int→Int→β}{f155:Int→Int→Int→β}{f228:Int→(BitVec 128)→β}{f229:Int→Int→β}{f230:Int→Int→β}{f232:Int→Int→β}{f234:Int→β}{b:Int}{c:Int}{x2:Int}(h:x= .t155 b c x2)(e:Aa0.on x a f107 f109 f111 f150 f152 f155 f228 f229 f230 f232 f234=r):f155 b c x2=r:=by subst h;exact e
theorem Aa0.on_t228 {β:Type}{x:Aa0}{a r:β}{f107:Int→Int→β}{f109:Int→Int→β}{f111:β}{f150:Int→Int→Int→β}{f152:Int→Int→β}{f155:Int→Int→Int→β}{f228:Int→(BitVec 128)→β}{f229:Int→Int→β}{f230:Int→Int→β}{f232:Int→Int→β}{f234:Int→β}{b:Int}{c:BitVec 128}(h:x= .t228 b c)(e:Aa0.on x a f107 f109 f111 f150 f152 f155 f228 f229 f230 f232 f234=r):f228 b c=r:=by subst h;exact e
theorem Aa0.on_t229 {β:Type}{x:Aa0}{a r:β}{f107:Int→Int→β}{f109:Int→Int→β}{f111:β}{f150:Int→Int→Int→β}{f152:Int→Int→β}{f155:Int→Int→Int→β}{f228:Int→(BitVec 128)→β}{f229:Int→Int→β}{f230:Int→Int→β}{f232:Int→Int→β}{f234:Int→β}{b:Int}{c:Int}(h:x= .t229 b c)(e:Aa0.on x a f107 f109 f111 f150 f152 f155 f228 f229 f230 f232 f234=r):f229 b c=r:=by subst h;exact e
theorem Aa0.on_t230 {β:Type}{x:Aa0}{a r:β}{f107:Int→Int→β}{f109:Int→Int→β}{f111:β}{f150:Int→Int→Int→β}{f152:Int→Int→β}{f155:Int→Int→Int→β}{f228:Int→(BitVec 128)→β}{f229:Int→Int→β}{f230:Int→Int→β}{f232:Int→Int→β}{f234:Int→β}{b:Int}{c:Int}(h:x= .t230 b c)(e:Aa0.on x a f107 f109 f111 f150 f152 f155 f228 f229 f230 f232 f234=r):f230 b c=r:=by subst h;exact e
theorem Aa0.on_t232 {β:Type}{x:Aa0}{a r:β}{f107:Int→Int→β}{f109:Int→Int→β}{f111:β}{f150:Int→Int→Int→β}{f152:Int→Int→β}{f155:Int→Int→Int→β}{f228:Int→(BitVec 128)→β}{f229:Int→Int→β}{f230:Int→Int→β}{f232:Int→Int→β}{f234:Int→β}{b:Int}{c:Int}(h:x= .t232 b c)(e:Aa0.on x a f107 f109 f111 f150 f152 f155 f228 f229 f230 f232 f234=r):f232 b c=r:=by subst h;exact e
theorem Aa0.on_t234 {β:Type}{x:Aa0}{a r:β}{f107:Int→Int→β}{f109:Int→Int→β}{f111:β}{f150:Int→Int→Int→β}{f152:Int→Int→β}{f155:Int→Int→Int→β}{f228:Int→(BitVec 128)→β}{f229:Int→Int→β}{f230:Int→Int→β}{f232:Int→Int→β}{f234:Int→β}{b:Int}(h:x= .t234 b)(e:Aa0.on x a f107 f109 f111 f150 f152 f155 f228 f229 f230 f232 f234=r):f234 b=r:=by subst h;exact e
def Aa0.onP(x:Aa0)(a:PO)(f:Int→Int→PO)(c:Int→Int→PO)(h:PO)(g:Int→Int→Int→PO)(j:Int→Int→PO)(l:Int→Int→Int→PO)(d:Int→(BitVec 128)→PO)(k:Int→Int→PO)(i:Int→Int→PO)(b:Int→Int→PO)(e:Int→PO):PO:=match x with| .nil=>a| .t107 x0 x1=>f x0 x1| .t109 x0 x1=>c x0 x1| .t111  =>h  | .t150 x0 x1 x2=>g x0 x1 x2| .t152 x0 x1=>j x0 x1| .t155 x0 x1 x2=>l x0 x1 x2| .t228 x0 x1=>d x0 x1| .t229 x0 x1=>k x0 x1| .t230 x0 x1=>i x0 x1| .t232 x0 x1=>b x0 x1| .t234 x0=>e x0
theorem Aa0.onP_nil {x:Aa0}{a:PO}{f107:Int→Int→PO}{f109:Int→Int→PO}{f111:PO}{f150:Int→Int→Int→PO}{f152:Int→Int→PO}{f155:Int→Int→Int→PO}{f228:Int→(BitVec 128)→PO}{f229:Int→Int→PO}{f230:Int→Int→PO}{f232:Int→Int→PO}{f234:Int→PO}{v:Value}{O:List (List Bl)}(h:x= .nil)(e:Aa0.onP x a f107 f109 f111 f150 f152 f155 f228 f229 f230 f232 f234 v O):a v O:=by subst h;exact e
theorem Aa0.niceP {x:Aa0}{a:PO}{f107:Int→Int→PO}{f109:Int→Int→PO}{f111:PO}{f150:Int→Int→Int→PO}{f152:Int→Int→PO}{f155:Int→Int→Int→PO}{f228:Int→(BitVec 128)→PO}{f229:Int→Int→PO}{f230:Int→Int→PO}{f232:Int→Int→PO}{f234:Int→PO}{R:List Bl}(h:Ab8 a R)(d: ∀b c,Ab8 (f107 b c) R)(e: ∀b c,Ab8 (f109 b c) R)(f:Ab8 (f111) R)(g: ∀b c x2,Ab8 (f150 b c x2) R)(i: ∀b c,Ab8 (f152 b c) R)(j: ∀b c x2,Ab8 (f155 b c x2) R)(k: ∀b c,Ab8 (f228 b c) R)(l: ∀b c,Ab8 (f229 b c) R)(m: ∀b c,Ab8 (f230 b c) R)(n: ∀b c,Ab8 (f232 b c) R)(o: ∀b,Ab8 (f234 b) R):Ab8 (Aa0.onP x a f107 f109 f111 f150 f152 f155 f228 f229 f230 f232 f234) R:=by cases x with|nil=>exact h|t107=>exact d _ _|t109=>exact e _ _|t111=>exact f  |t150=>exact g _ _ _|t152=>exact i _ _|t155=>exact j _ _ _|t228=>exact k _ _|t229=>exact l _ _|t230=>exact m _ _|t232=>exact n _ _|t234=>exact o _
theorem Aa0.cases(x:Aa0):x= .nil∨(∃a b,x= .t107 a b)∨(∃a b,x= .t109 a b)∨(x= .t111)∨(∃a b x2,x= .t150 a b x2)∨(∃a b,x= .t152 a b)∨(∃a b x2,x= .t155 a b x2)∨(∃a b,x= .t228 a b)∨(∃a b,x= .t229 a b)∨(∃a b,x= .t230 a b)∨(∃a b,x= .t232 a b)∨(∃a,x= .t234 a):=by cases x<;>simp
def Aa0.v:Aa0→Value
  | .nil=>Value.nilIface
  | .t107 a b=>Value.iface 107 (vA #[vI a,vI b])
  | .t109 a b=>Value.iface 109 (vA #[vI a,vI b])
  | .t111  =>Value.iface 111 (vA #[])
  | .t150 a b c=>Value.iface 150 (vA #[vI a,vI b,vI c])
  | .t152 a b=>Value.iface 152 (vA #[vI a,vI b])
  | .t155 a b c=>Value.iface 155 (vA #[vI a,vI b,vI c])
  | .t228 a b=>Value.iface 228 (vA #[vI a,U (hi b),U (lo b)])
  | .t229 a b=>Value.iface 229 (vA #[vI a,vI b])
  | .t230 a b=>Value.iface 230 (vA #[vI a,vI b])
  | .t232 a b=>Value.iface 232 (vA #[vI a,vI b])
  | .t234 a=>Value.iface 234 (vA #[vI a])
theorem Aa0.cells(x:Aa0):(Aa0.v x).cells= #[Aa0.v x]:=by cases x<;>rfl
theorem Aa0.one(x:Aa0):(Aa0.v x).oneCell'=true:=by cases x<;>rfl
def Qn:Enc Aa0:=⟨fun x=> [Aa0.v x],1,Nat.one_pos,fun _=>rfl,fun x v h=>by rw [zc] at h;rw [h];exact Aa0.one x,True⟩
def Pq(a:Int)(b:Int)(d:Int)(c:Bool):Option Aa0:=if c=true then some (Aa0.t107 a b)else if a=33 then some (Aa0.t109 b d)else if a=34 then some Aa0.t111 else some (Aa0.t234 a)
def Ps(a:Int)(c:Int)(b:Int)(d:Bool):Option Aa0:=if d=true then some (Aa0.t155 a c b)else if a=31 then Pq a c b (a==31)else Pq a c b (a==32)
def LS(a:Int)(b:Int)(c:Int)(d:Bool):Option Aa0:=if d=true then some (Aa0.t230 a b)else if a=10 then some (Aa0.t232 b c)else if a=27 then Ps a b c (a==27)else Ps a b c (a==28)
def OO(a:Int)(b:Int)(c:Int)(d:Bool):Option Aa0:=if d=true then some (Aa0.t152 a b)else if a=6 then LS a b c (a==6)else if a=7 then LS a b c (a==7)else if a=8 then LS a b c (a==8)else if a=9 then LS a b c (a==9)else LS a b c (a==11)
def Kn(a:Int)(b:Int)(c:Int)(d:Bool):Option Aa0:=if d=true then some (Aa0.t229 a b)else if a=4 then OO a b c (a==4)else if a=25 then OO a b c (a==25)else OO a b c (a==26)
def QA(a:Int)(c:Int)(b:Int)(d:Bool):Option Aa0:=if d=true then some (Aa0.t150 a c b)else if a=2 then Kn a c b (a==2)else if a=23 then Kn a c b (a==23)else if a=3 then Kn a c b (a==3)else if a=5 then Kn a c b (a==5)else if a=24 then Kn a c b (a==24)else if a=29 then Kn a c b (a==29)else Kn a c b (a==30)
def Qo(_:Nat)(a:Int)(c:Int)(b:Int)(e:Int)(d:BitVec 128):Option Aa0:=if a=0 then some (Aa0.t228 e d)else if a=1 then QA a c b (a==1)else QA a c b (a==22)
theorem kR(N x_0 x_1 x_2 x_3 x_4 r)(a:Qo N x_0 x_1 x_2 x_3 x_4=some r):Gives prog 69 #[vA #[vI x_0,vI x_1,vI x_2,vI x_3,U (hi x_4),U (lo x_4)]] (Aa0.v r):=by
 unfold Qo at a
 refine Av follows func69 rfl 102 rfl _ fz1 (fun J=> ?_)
 refine Ad<|rA rfl fun b=>rz rfl<|Aa fun O K=>AY [0] rfl<|Ai<|AZ rfl<|aE a rfl (fun L a=> ?_) (fun L a=> ?_)
 ·refine Ad<|r_V (vP b 3) rfl<|rl (vA #[vI x_3,U (hi x_4),U (lo x_4)]) 0<|r_W (vA #[vI x_3,U (hi x_4),U (lo x_4)]) rfl (Ap rfl rfl rfl rfl)<|rz rfl ?_
  cases a
  exact aR eE1
 refine Cb (fun tt ll=> ∃(d:Bool),(QA x_0 x_1 x_2 d=some r)∧Is [(1,vP b 0),(4,vI x_0),(11,vB d)] (Ln b x_0 x_1 x_2 x_3 (hi x_4) (lo x_4)) tt ll) ?_ ?_
 ·refine AZ rfl<|aE a rfl (fun i a=> ?_) (fun i a=> ?_)
  ·refine Ab<|fg _ (Sub.of (suK _ suN)) ?_
   exact⟨(x_0==1),a,Ah rfl rfl⟩
  refine Ag<|rz rfl<|fg _ (Sub.of (suK _ suN)) ?_
  exact⟨(x_0==22),a,Ah rfl rfl⟩
 clear a;rintro t l ⟨d,a,⟨T,rfl⟩,rfl⟩
 unfold QA at a
 refine aB a rfl (fun M a=> ?_) (fun M a=> ?_)
 ·refine Ad<|r_V (vP b 0) rfl<|rl (vI x_0) 0<|r_V (vP b 1) rfl<|rl (vI x_1) 0<|r_V (vP b 2) rfl<|rl (vI x_2) 0<|r_W (vA #[vI x_0,vI x_1,vI x_2]) rfl (Ap rfl rfl rfl rfl)<|rz rfl ?_
  cases a
  exact aR eE1
 refine Cb (fun tt ll=> ∃(e:Bool),(Kn x_0 x_1 x_2 e=some r)∧Is [(1,vP b 0),(4,vI x_0),(22,vB e)] (Ln b x_0 x_1 x_2 x_3 (hi x_4) (lo x_4)) tt ll) ?_ ?_
 ·refine AZ rfl<|aE a rfl (fun j a=> ?_) (fun j a=> ?_)
  ·refine Ab<|fg _ (Sub.of (suK _ suN)) ?_
   exact⟨(x_0==2),a,Ah rfl rfl⟩
  refine AZ rfl<|aE a rfl (fun k a=> ?_) (fun k a=> ?_)
  ·refine Ab<|fg _ (Sub.of (suK _ suN)) ?_
   exact⟨(x_0==23),a,Ah rfl rfl⟩
  refine AZ rfl<|aE a rfl (fun m a=> ?_) (fun m a=> ?_)
  ·refine Ab<|fg _ (Sub.of (suK _ suN)) ?_
   exact⟨(x_0==3),a,Ah rfl rfl⟩
  refine AZ rfl<|aE a rfl (fun n a=> ?_) (fun n a=> ?_)
  ·refine Ab<|fg _ (Sub.of (suK _ suN)) ?_
   exact⟨(x_0==5),a,Ah rfl rfl⟩
  refine AZ rfl<|aE a rfl (fun o a=> ?_) (fun o a=> ?_)
  ·refine Ab<|fg _ (Sub.of (suK _ suN)) ?_
   exact⟨(x_0==24),a,Ah rfl rfl⟩
  refine AZ rfl<|aE a rfl (fun p a=> ?_) (fun p a=> ?_)
  ·refine Ab<|fg _ (Sub.of (suK _ suN)) ?_
   exact⟨(x_0==29),a,Ah rfl rfl⟩
  refine Ag<|rz rfl<|fg _ (Sub.of (suK _ suN)) ?_
  exact⟨(x_0==30),a,Ah rfl rfl⟩
 clear a;rintro t l ⟨e,a,⟨T,rfl⟩,rfl⟩
 unfold Kn at a
 refine aB a rfl (fun q a=> ?_) (fun q a=> ?_)
 ·refine Ad<|r_V (vP b 0) rfl<|rl (vI x_0) 0<|r_V (vP b 1) rfl<|rl (vI x_1) 0<|r_W (vA #[vI x_0,vI x_1]) rfl (Ap rfl rfl rfl rfl)<|rz rfl ?_
  cases a
  exact aR eE1
 refine Cb (fun tt ll=> ∃(f:Bool),(OO x_0 x_1 x_2 f=some r)∧Is [(1,vP b 0),(4,vI x_0),(36,vB f)] (Ln b x_0 x_1 x_2 x_3 (hi x_4) (lo x_4)) tt ll) ?_ ?_
 ·refine AZ rfl<|aE a rfl (fun s a=> ?_) (fun s a=> ?_)
  ·refine Ab<|fg _ (Sub.of (suK _ suN)) ?_
   exact⟨(x_0==4),a,Ah rfl rfl⟩
  refine AZ rfl<|aE a rfl (fun u a=> ?_) (fun u a=> ?_)
  ·refine Ab<|fg _ (Sub.of (suK _ suN)) ?_
   exact⟨(x_0==25),a,Ah rfl rfl⟩
  refine Ag<|rz rfl<|fg _ (Sub.of (suK _ suN)) ?_
  exact⟨(x_0==26),a,Ah rfl rfl⟩
 clear a;rintro t l ⟨f,a,⟨T,rfl⟩,rfl⟩
 unfold OO at a
 refine aB a rfl (fun w a=> ?_) (fun w a=> ?_)
 ·refine Ad<|r_V (vP b 0) rfl<|rl (vI x_0) 0<|r_V (vP b 1) rfl<|rl (vI x_1) 0<|r_W (vA #[vI x_0,vI x_1]) rfl (Ap rfl rfl rfl rfl)<|rz rfl ?_
  cases a
  exact aR eE1
 refine Cb (fun tt ll=> ∃(g:Bool),(LS x_0 x_1 x_2 g=some r)∧Is [(1,vP b 0),(4,vI x_0),(46,vB g)] (Ln b x_0 x_1 x_2 x_3 (hi x_4) (lo x_4)) tt ll) ?_ ?_
 ·refine AZ rfl<|aE a rfl (fun x a=> ?_) (fun x a=> ?_)
  ·refine Ab<|fg _ (Sub.of (suK _ suN)) ?_
   exact⟨(x_0==6),a,Ah rfl rfl⟩
  refine AZ rfl<|aE a rfl (fun y a=> ?_) (fun y a=> ?_)
  ·refine Ab<|fg _ (Sub.of (suK _ suN)) ?_
   exact⟨(x_0==7),a,Ah rfl rfl⟩
  refine AZ rfl<|aE a rfl (fun z a=> ?_) (fun z a=> ?_)
  ·refine Ab<|fg _ (Sub.of (suK _ suN)) ?_
   exact⟨(x_0==8),a,Ah rfl rfl⟩
  refine AZ rfl<|aE a rfl (fun A a=> ?_) (fun A a=> ?_)
  ·refine Ab<|fg _ (Sub.of (suK _ suN)) ?_
   exact⟨(x_0==9),a,Ah rfl rfl⟩
  refine Ag<|rz rfl<|fg _ (Sub.of (suK _ suN)) ?_
  exact⟨(x_0==11),a,Ah rfl rfl⟩
 clear a;rintro t l ⟨g,a,⟨T,rfl⟩,rfl⟩
 unfold LS at a
 refine aB a rfl (fun B a=> ?_) (fun B a=> ?_)
 ·refine Ad<|r_V (vP b 0) rfl<|rl (vI x_0) 0<|r_V (vP b 1) rfl<|rl (vI x_1) 0<|r_W (vA #[vI x_0,vI x_1]) rfl (Ap rfl rfl rfl rfl)<|rz rfl ?_
  cases a
  exact aR eE1
 refine AZ rfl<|aE a rfl (fun C a=> ?_) (fun C a=> ?_)
 ·refine Ad<|r_V (vP b 1) rfl<|rl (vI x_1) 0<|r_V (vP b 2) rfl<|rl (vI x_2) 0<|r_W (vA #[vI x_1,vI x_2]) rfl (Ap rfl rfl rfl rfl)<|rz rfl ?_
  cases a
  exact aR eE1
 refine Cb (fun tt ll=> ∃(h:Bool),(Ps x_0 x_1 x_2 h=some r)∧Is [(1,vP b 0),(4,vI x_0),(66,vB h)] (Ln b x_0 x_1 x_2 x_3 (hi x_4) (lo x_4)) tt ll) ?_ ?_
 ·refine AZ rfl<|aE a rfl (fun D a=> ?_) (fun D a=> ?_)
  ·refine Ab<|fg _ (Sub.of (suK _ suN)) ?_
   exact⟨(x_0==27),a,Ah rfl rfl⟩
  refine Ag<|rz rfl<|fg _ (Sub.of (suK _ suN)) ?_
  exact⟨(x_0==28),a,Ah rfl rfl⟩
 clear a;rintro t l ⟨h,a,⟨T,rfl⟩,rfl⟩
 unfold Ps at a
 refine aB a rfl (fun E a=> ?_) (fun E a=> ?_)
 ·refine Ad<|r_V (vP b 0) rfl<|rl (vI x_0) 0<|r_V (vP b 1) rfl<|rl (vI x_1) 0<|r_V (vP b 2) rfl<|rl (vI x_2) 0<|r_W (vA #[vI x_0,vI x_1,vI x_2]) rfl (Ap rfl rfl rfl rfl)<|rz rfl ?_
  cases a
  exact aR eE1
 refine Cb (fun tt ll=> ∃(c:Bool),(Pq x_0 x_1 x_2 c=some r)∧Is [(1,vP b 0),(4,vI x_0),(77,vB c)] (Ln b x_0 x_1 x_2 x_3 (hi x_4) (lo x_4)) tt ll) ?_ ?_
 ·refine AZ rfl<|aE a rfl (fun F a=> ?_) (fun F a=> ?_)
  ·refine Ab<|fg _ (Sub.of (suK _ suN)) ?_
   exact⟨(x_0==31),a,Ah rfl rfl⟩
  refine Ag<|rz rfl<|fg _ (Sub.of (suK _ suN)) ?_
  exact⟨(x_0==32),a,Ah rfl rfl⟩
 clear a;rintro t l ⟨c,a,⟨T,rfl⟩,rfl⟩
 unfold Pq at a
 refine aB a rfl (fun G a=> ?_) (fun G a=> ?_)
 ·refine Ad<|r_V (vP b 0) rfl<|rl (vI x_0) 0<|r_V (vP b 1) rfl<|rl (vI x_1) 0<|r_W (vA #[vI x_0,vI x_1]) rfl (Ap rfl rfl rfl rfl)<|rz rfl ?_
  cases a
  exact aR eE1
 refine AZ rfl<|aE a rfl (fun H a=> ?_) (fun H a=> ?_)
 ·refine Ad<|r_V (vP b 1) rfl<|rl (vI x_1) 0<|r_V (vP b 2) rfl<|rl (vI x_2) 0<|r_W (vA #[vI x_1,vI x_2]) rfl (Ap rfl rfl rfl rfl)<|rz rfl ?_
  cases a
  exact aR eE1
 refine AZ rfl<|aE a rfl (fun I a=> ?_) (fun I a=> ?_)
 ·refine Ad<|r_W (vA #[]) rfl (Ap rfl rfl rfl rfl)<|rz rfl ?_
  cases a
  exact aR eE1
 refine Ab<|K _ _ ?_
 refine Ad<|r_V (vP b 0) rfl<|rl (vI x_0) 0<|r_W (vA #[vI x_0]) rfl (Ap rfl rfl rfl rfl)<|rz rfl ?_
 cases a
 exact aR eE1
def Qq(N:Nat)(d:Int)(e:Int)(b:Int)(c:Int)(a:BitVec 128):Option (Aa0×Int):=(Sc N d e b c a).bind fun f=>if(f:Int)≠0 then some (Aa0.nil,f)else(Qo N d e b c a).bind fun g=>some (g,0)
theorem kV(N x_0 x_1 x_2 x_3 x_4 r)(a:Qq N x_0 x_1 x_2 x_3 x_4=some r):Gives prog 28 #[vA #[vI x_0,vI x_1,vI x_2,vI x_3,U (hi x_4),U (lo x_4)]] (vT #[Aa0.v r.1,vI r.2]):=by
 unfold Qq at a
 refine Av follows func28 rfl 12 rfl _ fz1 (fun c=> ?_)
 refine Ad<|rA rfl fun h=>rz rfl<|Aa fun i d=>Ad<|rm 1 [0] rfl<|kB a fun j e a=>rc _ (cF qB) (qc N x_0 x_1 x_2 x_3 x_4 _ e)<|rz rfl<|AZ rfl<|aN a rfl (fun f a=> ?_) (fun f a=> ?_)
 ·refine AZ rfl ?_
  cases a
  exact aR eE2
 refine Ab<|d _ _ ?_
 refine Ad<|rm 1 [0] rfl<|kB a fun g b a=>rc _ (cF qA) (kR N x_0 x_1 x_2 x_3 x_4 _ b)<|rz rfl ?_
 cases a
 exact aR eE2
def Mr(N:Nat)(c:List (Int×Int×Int×Int×BitVec 128)):Nat→List Aa0→Int→Option ((List Aa0)×Int×Int)
  |0,_,_=>none
  |e+1,b,a=>if a<(c.length:Int)then ck (0≤a∧a<(c.length:Int)) (if a=64 then some ([],a,2)else(Qq N ((c[a.toNat]!).1) ((c[a.toNat]!).2.1) ((c[a.toNat]!).2.2.1) ((c[a.toNat]!).2.2.2.1) ((c[a.toNat]!).2.2.2.2)).bind fun d=>if(d.2:Int)≠0 then some ([],a,d.2)else ck ((b).length+([d.1]).length≤8796093022208) (ck (R64 (a+1)) ((Mr N c e) (b++([d.1])) (a+1))))else some (b,(b.length:Int),0)
def QB(N:Nat)(a:List (Int×Int×Int×Int×BitVec 128)):Option ((List Aa0)×Int×Int):=Mr N a N ([]) 0
theorem fE(N l' r)(e:QB N l'=some r)(ro l'v)(hl':Rd Ac7 ro l'v l'):Does prog 14 #[l'v] ro [] (p1 (fun s_=>vT #[s_,vI r.2.1,vI r.2.2]) 70 Qn r.1):=by
 unfold QB at e
 refine Al follows func14 rfl 37 rfl _ fz1 (fun y=> ?_)
 refine AZ rfl<|AZ rfl<|Aa fun K z=>Ad<|rn 1 rfl<|rL (Rd.shp hl') rfl<|rz rfl<|Ai<|Bw _ (Sub.pickE (Ls:=[[]]) (Ls0:=[]) rfl [0] rfl)<|AH (fun tt ll nn=> ∃(m:Nat) (c:List Aa0) (a:Int),(Mr N l' m c a=some r)∧ ∃(d:Value) (b:List Bl),Sl 70 Qn d c b∧Is [(5,d),(10,l'v),(11,vI (l'.length:Int)),(12,vI a)] (List.flatten [b]) tt ll∧nn=m+1) (N+1) ?_ ?_
 ·exact⟨N,[],0,e,nS,[],Sl.nil,Ah rfl rfl,rfl⟩
 clear e;rintro t l _ ⟨m,c,a,e,d,b,f,⟨⟨T,rfl⟩,rfl⟩,rfl⟩
 rcases m with _|m
 ·exact absurd e (by simp [Mr])
 rw [Mr] at e
 refine AZ rfl<|Aa fun L A=>aD e rfl (fun B e=> ?_) (fun B e=> ?_)
 ·refine Ab<|A _ _ ?_
  refine Aa fun M C=>Ai<|Ad<|rn 1 rfl<|kC e fun i e=>rI (Rd.shp hl') i rfl<|rE (Aw hl') i 0 rfl<|rA rfl fun h=>ry [0] rfl<|Aa fun H o=>AZ rfl<|aE e rfl (fun p e=> ?_) (fun p e=> ?_)
  ·refine AZ rfl ?_
   cases e
   refine Bb (fun G=>Hw (v0:=vT #[nS,vI a,vI 2]) Sl.nil (Sub.nil _) rfl (oM rfl rfl rfl))
  refine Ab<|o _ _ ?_
  refine Ad<|rm 1 [0] rfl<|kB e fun g q e=>rc _ (cF ri) (kV N ((l'[a.toNat]!).1) ((l'[a.toNat]!).2.1) ((l'[a.toNat]!).2.2.1) ((l'[a.toNat]!).2.2.2.1) ((l'[a.toNat]!).2.2.2.2) _ q)<|rz rfl<|Aa fun I s=>AZ rfl<|aN e rfl (fun u e=> ?_) (fun u e=> ?_)
  ·refine AZ rfl ?_
   cases e
   refine Bb (fun G=>Hw (v0:=vT #[nS,vI a,vI g.2]) Sl.nil (Sub.nil _) rfl (oM rfl rfl rfl))
  refine Ab<|s _ _ ?_
  refine Ag<|rn 2 rfl<|cD 31<|Kq (cs0:=[]) (Ls:=[(Ln h ((l'[a.toNat]!).1) ((l'[a.toNat]!).2.1) ((l'[a.toNat]!).2.2.1) ((l'[a.toNat]!).2.2.2.1) (hi ((l'[a.toNat]!).2.2.2.2)) (lo ((l'[a.toNat]!).2.2.2.2))),b]) 70 Qn [g.1] [Aa0.v g.1] [Value.nilIface] rfl rfl rfl rfl rfl rfl rfl (by kernel_rfl) ((Qk _ _ _ _ (IN (gW (v:=Aa0.v g.1) rfl (Aa0.cells g.1)) PZ)).trans (by kernel_rfl)) rfl rfl rfl (fun J n D=> ?_)
  refine kC e fun j e=>cC 32 ?_
  refine Li (cs0:=[]) (Ls:=[(Ln h ((l'[a.toNat]!).1) ((l'[a.toNat]!).2.1) ((l'[a.toNat]!).2.2.1) ((l'[a.toNat]!).2.2.2.1) (hi ((l'[a.toNat]!).2.2.2.2)) (lo ((l'[a.toNat]!).2.2.2.2))),b,n]) 1 (En:=Qn) rfl rfl rfl rfl rfl f rfl (Ax D (Ak (Ls:=[(Ln h ((l'[a.toNat]!).1) ((l'[a.toNat]!).2.1) ((l'[a.toNat]!).2.2.1) ((l'[a.toNat]!).2.2.2.1) (hi ((l'[a.toNat]!).2.2.2.2)) (lo ((l'[a.toNat]!).2.2.2.2))),b,n]) (k:=2) rfl rfl)) rfl rfl rfl rfl rfl (LE j rfl) (LD j rfl) rfl (fun E w F=> ?_)
  refine rz rfl<|C _ _ ?_
  refine Ag<|kC e fun x e=>rX x rfl<|rz rfl<|fg _ (Sub.pick [(Ln h ((l'[a.toNat]!).1) ((l'[a.toNat]!).2.1) ((l'[a.toNat]!).2.2.1) ((l'[a.toNat]!).2.2.2.1) (hi ((l'[a.toNat]!).2.2.2.2)) (lo ((l'[a.toNat]!).2.2.2.2))),w,n] [1] rfl) ?_
  exact⟨m+1,by omega,m,(c++([g.1])),(a+1),e,E,w,F,Ah rfl rfl,rfl⟩
 refine AI<|z _ _ ?_
 refine Ad<|rn 2 rfl<|rL (Sl.shp f) rfl<|rz rfl ?_
 cases e
 refine Bb (fun G=>Hw (v0:=vT #[d,vI (c.length:Int),vI 0]) f (EH (Sub.pick [b] [0] rfl)) rfl (oM rfl rfl rfl))
def RP(N:Nat)(a:List Int)(i:Int):Option Bool:=ck ((R64 ((a.length:Int) - 1))) ((Az N i 0 ((a.length:Int) - 1)).bind fun b=>some b)
theorem kj(N l' i r)(a:RP N l' i=some r)(ro l'v)(hl':Rd BI ro l'v l'):Does prog 59 #[l'v,vI i] ro [] (pV (vB r)):=by
 unfold RP at a
 refine Al follows func59 rfl 10 rfl _ fz2 (fun b=> ?_)
 refine AZ rfl<|Ad<|rn 2 rfl<|rL (Rd.shp hl') rfl<|kC a fun c a=>rX c rfl<|kB a fun e d a=>rc _ (cF EV) (AP N i 0 ((l'.length:Int) - 1) _ d)<|rz rfl ?_
 cases a
 exact aR eV1
def MK(N:Nat)(a:List (List UInt8×Int×Int))(i:Int):Option Bool:=ck ((R64 ((a.length:Int) - 1))) ((Az N i 0 ((a.length:Int) - 1)).bind fun b=>some b)
theorem Yt(N l' i r)(a:MK N l' i=some r)(ro l'v)(hl':Rd Ae6 ro l'v l'):Does prog 60 #[l'v,vI i] ro [] (pV (vB r)):=by
 unfold MK at a
 refine Al follows func60 rfl 10 rfl _ fz2 (fun b=> ?_)
 refine AZ rfl<|Ad<|rn 2 rfl<|rL (Rd.shp hl') rfl<|kC a fun c a=>rX c rfl<|kB a fun e d a=>rc _ (cF EV) (AP N i 0 ((l'.length:Int) - 1) _ d)<|rz rfl ?_
 cases a
 exact aR eV1
def JZ(N:Nat)(a:List (List UInt8×Int))(i:Int):Option Bool:=ck ((R64 ((a.length:Int) - 1))) ((Az N i 0 ((a.length:Int) - 1)).bind fun b=>some b)
theorem SP(N l' i r)(a:JZ N l' i=some r)(ro l'v)(hl':Rd Ae7 ro l'v l'):Does prog 61 #[l'v,vI i] ro [] (pV (vB r)):=by
 unfold JZ at a
 refine Al follows func61 rfl 10 rfl _ fz2 (fun b=> ?_)
 refine AZ rfl<|Ad<|rn 2 rfl<|rL (Rd.shp hl') rfl<|kC a fun c a=>rX c rfl<|kB a fun e d a=>rc _ (cF EV) (AP N i 0 ((l'.length:Int) - 1) _ d)<|rz rfl ?_
 cases a
 exact aR eV1
def Lr(N:Nat)(a:List (List UInt8×Int×Int×Int))(i:Int):Option Bool:=ck ((R64 ((a.length:Int) - 1))) ((Az N i 0 ((a.length:Int) - 1)).bind fun b=>some b)
theorem UY(N l' i r)(a:Lr N l' i=some r)(ro l'v)(hl':Rd Ae8 ro l'v l'):Does prog 62 #[l'v,vI i] ro [] (pV (vB r)):=by
 unfold Lr at a
 refine Al follows func62 rfl 10 rfl _ fz2 (fun b=> ?_)
 refine AZ rfl<|Ad<|rn 2 rfl<|rL (Rd.shp hl') rfl<|kC a fun c a=>rX c rfl<|kB a fun e d a=>rc _ (cF EV) (AP N i 0 ((l'.length:Int) - 1) _ d)<|rz rfl ?_
 cases a
 exact aR eV1
def GC(N:Nat)(m:Ao)(a:Int):Option Bool:=(QX N m.2.2.1 a).bind fun b=>some b.2.2
theorem Og(N m slot r)(a:GC N m slot=some r)(ro)(mv:AD)(hm:Aa1 ro mv m):Does prog 63 #[vA (Ac m mv),vI slot] ro [] (pV (vB r)):=by
 unfold GC at a
 refine Al follows func63 rfl 17 rfl _ fz2 (fun b=> ?_)
 refine Ad<|rA rfl fun d=>rz rfl<|Ad<|rm 3 [0] rfl<|kB a fun e c a=>gV _ (cF VP) (fun o w z_=>df N m.2.2.1 slot _ c z_.view mv.2.1 ((Aw hm.2.1) o w z_))<|rz rfl<|AZ rfl ?_
 cases a
 exact aR eV1
def ON(N:Nat)(m:Ao)(b:Int)(c:Bool):Option Bool:=if c=true then(FY N m b).bind fun a=>some a.2.2 else some true
def NP(N:Nat)(m:Ao)(b:Int)(a:Int)(d:Bool):Option Bool:=if d=true then(GC N m a).bind fun c=>some c else if b=27 then ON N m a (b==27)else ON N m a (b==28)
def NQ(N:Nat)(m:Ao)(a:Int)(b:Int)(f:Bool):Option Bool:=if f=true then(MK N m.2.2.2.2.2.2.2.2.2.2.2.2.1 b).bind fun e=>some e else if a=29 then(JZ N m.2.2.2.2.2.2.2.2.2.2.2.2.2.1 b).bind fun c=>some c else if a=30 then(Lr N m.2.2.2.2.2.2.2.2.2.2.2.2.2.2.1 b).bind fun d=>some d else if a=4 then NP N m a b (a==4)else if a=25 then NP N m a b (a==25)else if a=26 then NP N m a b (a==26)else NP N m a b (a==33)
def NR(N:Nat)(m:Ao)(c:List Int)(a:Int)(b:Int)(f:Bool):Option Bool:=if f=true then(HS N m b).bind fun e=>some e.2 else if a=3 then(RP N c b).bind fun d=>some d else if a=5 then NQ N m a b (a==5)else NQ N m a b (a==24)
def NS(N:Nat)(m:Ao)(b:List Int)(a:Int)(c:Int)(d:Int)(e:Bool):Option Bool:=if e=true then(GD N m c d).bind fun f=>some f.2 else if a=2 then NR N m b a c (a==2)else NR N m b a c (a==23)
def Rk(N:Nat)(m:Ao)(a:List Int)(b:Int)(d:Int)(c:Int)(_:Int)(_:BitVec 128):Option Bool:=if b=1 then NS N m a b d c (b==1)else NS N m a b d c (b==22)
theorem tL(N m params x_0 x_1 x_2 x_3 x_4 r)(a:Rk N m params x_0 x_1 x_2 x_3 x_4=some r)(ro)(mv:AD)(hm:Aa1 ro mv m)(paramsv)(hparams:Rd BI ro paramsv params):DoesI prog 25 #[vA (Ac m mv),paramsv,vA #[vI x_0,vI x_1,vI x_2,vI x_3,U (hi x_4),U (lo x_4)]] Ie ro [] (pV (vB r)):=by
 unfold Rk at a
 refine AX follows func25 rfl 81 rfl _ fz3 Bg (fun K=> ?_)
 refine Ad<|rA rfl fun c=>rA rfl fun d=>rz rfl<|AZ rfl<|Aa fun X b=>AY [0] rfl<|Ai<|Cb (fun tt ll=> ∃(e:Bool),(NS N m params x_0 x_1 x_2 e=some r)∧Is [(1,paramsv),(3,vP c 0),(5,vP d 0),(7,vB true),(9,vI x_0),(10,vB e)] [(d,53, #[vI x_0,vI x_1,vI x_2,vI x_3,U (hi x_4),U (lo x_4)]),(c,35,(Ac m mv))] tt ll) ?_ ?_
 ·refine AZ rfl<|aE a rfl (fun j a=> ?_) (fun j a=> ?_)
  ·refine Ab<|fg _ (Sub.of (suK _ (suK _ suN))) ?_
   exact⟨(x_0==1),a,Ah rfl rfl⟩
  refine Ag<|rz rfl<|fg _ (Sub.of (suK _ (suK _ suN))) ?_
  exact⟨(x_0==22),a,Ah rfl rfl⟩
 clear a;rintro t l ⟨e,a,⟨T,rfl⟩,rfl⟩
 unfold NS at a
 refine aB a rfl (fun L a=> ?_) (fun L a=> ?_)
 ·refine Ag<|rm 5 [1,0,0] rfl<|kB a fun Y M a=>gV _ (cF Zu) (fun o w z_=>(Does.inv (Pk N m x_1 x_2 _ M z_.view mv (Aa1.mono z_.ro_cell hm)) _))<|rz rfl<|b _ _ ?_
  refine AZ rfl ?_
  cases a
  exact aR eV1
 refine Cb (fun tt ll=> ∃(f:Bool),(NR N m params x_0 x_1 f=some r)∧Is [(1,paramsv),(3,vP c 0),(5,vP d 0),(7,vB true),(9,vI x_0),(22,vB f)] [(d,53, #[vI x_0,vI x_1,vI x_2,vI x_3,U (hi x_4),U (lo x_4)]),(c,35,(Ac m mv))] tt ll) ?_ ?_
 ·refine AZ rfl<|aE a rfl (fun k a=> ?_) (fun k a=> ?_)
  ·refine Ab<|fg _ (Sub.of (suK _ (suK _ suN))) ?_
   exact⟨(x_0==2),a,Ah rfl rfl⟩
  refine Ag<|rz rfl<|fg _ (Sub.of (suK _ (suK _ suN))) ?_
  exact⟨(x_0==23),a,Ah rfl rfl⟩
 clear a;rintro t l ⟨f,a,⟨T,rfl⟩,rfl⟩
 unfold NR at a
 refine aB a rfl (fun n a=> ?_) (fun n a=> ?_)
 ·refine Ag<|rm 3 [1,0] rfl<|kB a fun O p a=>gV _ (cF fK) (fun o w z_=>Tn N m x_1 _ p z_.view mv (Aa1.mono z_.ro_cell hm))<|rz rfl<|b _ _ ?_
  refine AZ rfl ?_
  cases a
  exact aR eV1
 refine AZ rfl<|aE a rfl (fun q a=> ?_) (fun q a=> ?_)
 ·refine Ag<|rm 3 [0] rfl<|kB a fun P s a=>gV _ (cF qH) (fun o w z_=>(Does.inv (kj N params x_1 _ s z_.view paramsv (z_.r hparams)) _))<|rz rfl<|b _ _ ?_
  refine AZ rfl ?_
  cases a
  exact aR eV1
 refine Cb (fun tt ll=> ∃(g:Bool),(NQ N m x_0 x_1 g=some r)∧Is [(3,vP c 0),(5,vP d 0),(7,vB true),(9,vI x_0),(38,vB g)] [(d,53, #[vI x_0,vI x_1,vI x_2,vI x_3,U (hi x_4),U (lo x_4)]),(c,35,(Ac m mv))] tt ll) ?_ ?_
 ·refine AZ rfl<|aE a rfl (fun u a=> ?_) (fun u a=> ?_)
  ·refine Ab<|fg _ (Sub.of (suK _ (suK _ suN))) ?_
   exact⟨(x_0==5),a,Ah rfl rfl⟩
  refine Ag<|rz rfl<|fg _ (Sub.of (suK _ (suK _ suN))) ?_
  exact⟨(x_0==24),a,Ah rfl rfl⟩
 clear a;rintro t l ⟨g,a,⟨T,rfl⟩,rfl⟩
 unfold NQ at a
 refine aB a rfl (fun v a=> ?_) (fun v a=> ?_)
 ·refine Ag<|rm 4 [1,0] rfl<|kB a fun Q x a=>gV _ (cF qG) (fun o w z_=>(Does.inv (Yt N m.2.2.2.2.2.2.2.2.2.2.2.2.1 x_1 _ x z_.view mv.2.2.2.2.2.2.2.2.2.2.2.1 ((Aw hm.2.2.2.2.2.2.2.2.2.2.2.1) o w z_)) _))<|rz rfl<|b _ _ ?_
  refine AZ rfl ?_
  cases a
  exact aR eV1
 refine AZ rfl<|aE a rfl (fun y a=> ?_) (fun y a=> ?_)
 ·refine Ag<|rm 4 [1,0] rfl<|kB a fun R z a=>gV _ (cF qF) (fun o w z_=>(Does.inv (SP N m.2.2.2.2.2.2.2.2.2.2.2.2.2.1 x_1 _ z z_.view mv.2.2.2.2.2.2.2.2.2.2.2.2.1 ((Aw hm.2.2.2.2.2.2.2.2.2.2.2.2.1) o w z_)) _))<|rz rfl<|b _ _ ?_
  refine AZ rfl ?_
  cases a
  exact aR eV1
 refine AZ rfl<|aE a rfl (fun A a=> ?_) (fun A a=> ?_)
 ·refine Ag<|rm 4 [1,0] rfl<|kB a fun S B a=>gV _ (cF qE) (fun o w z_=>(Does.inv (UY N m.2.2.2.2.2.2.2.2.2.2.2.2.2.2.1 x_1 _ B z_.view mv.2.2.2.2.2.2.2.2.2.2.2.2.2 ((Aw hm.2.2.2.2.2.2.2.2.2.2.2.2.2) o w z_)) _))<|rz rfl<|b _ _ ?_
  refine AZ rfl ?_
  cases a
  exact aR eV1
 refine Cb (fun tt ll=> ∃(h:Bool),(NP N m x_0 x_1 h=some r)∧Is [(3,vP c 0),(5,vP d 0),(7,vB true),(9,vI x_0),(60,vB h)] [(d,53, #[vI x_0,vI x_1,vI x_2,vI x_3,U (hi x_4),U (lo x_4)]),(c,35,(Ac m mv))] tt ll) ?_ ?_
 ·refine AZ rfl<|aE a rfl (fun C a=> ?_) (fun C a=> ?_)
  ·refine Ab<|fg _ (Sub.of (suK _ (suK _ suN))) ?_
   exact⟨(x_0==4),a,Ah rfl rfl⟩
  refine AZ rfl<|aE a rfl (fun D a=> ?_) (fun D a=> ?_)
  ·refine Ab<|fg _ (Sub.of (suK _ (suK _ suN))) ?_
   exact⟨(x_0==25),a,Ah rfl rfl⟩
  refine AZ rfl<|aE a rfl (fun E a=> ?_) (fun E a=> ?_)
  ·refine Ab<|fg _ (Sub.of (suK _ (suK _ suN))) ?_
   exact⟨(x_0==26),a,Ah rfl rfl⟩
  refine Ag<|rz rfl<|fg _ (Sub.of (suK _ (suK _ suN))) ?_
  exact⟨(x_0==33),a,Ah rfl rfl⟩
 clear a;rintro t l ⟨h,a,⟨T,rfl⟩,rfl⟩
 unfold NP at a
 refine aB a rfl (fun F a=> ?_) (fun F a=> ?_)
 ·refine Ag<|rm 3 [1,0] rfl<|kB a fun V G a=>gV _ (cF Zs) (fun o w z_=>(Does.inv (Og N m x_1 _ G z_.view mv (Aa1.mono z_.ro_cell hm)) _))<|rz rfl<|b _ _ ?_
  refine AZ rfl ?_
  cases a
  exact aR eV1
 refine Cb (fun tt ll=> ∃(i:Bool),(ON N m x_1 i=some r)∧Is [(3,vP c 0),(5,vP d 0),(7,vB true),(69,vB i)] [(d,53, #[vI x_0,vI x_1,vI x_2,vI x_3,U (hi x_4),U (lo x_4)]),(c,35,(Ac m mv))] tt ll) ?_ ?_
 ·refine AZ rfl<|aE a rfl (fun H a=> ?_) (fun H a=> ?_)
  ·refine Ab<|fg _ (Sub.of (suK _ (suK _ suN))) ?_
   exact⟨(x_0==27),a,Ah rfl rfl⟩
  refine Ag<|rz rfl<|fg _ (Sub.of (suK _ (suK _ suN))) ?_
  exact⟨(x_0==28),a,Ah rfl rfl⟩
 clear a;rintro t l ⟨i,a,⟨T,rfl⟩,rfl⟩
 unfold ON at a
 refine aB a rfl (fun I a=> ?_) (fun I a=> ?_)
 ·refine Ag<|rm 3 [1,0] rfl<|kB a fun W J a=>gV _ (cF Zr) (fun o w z_=>(Does.inv (Nk N m x_1 _ J z_.view mv (Aa1.mono z_.ro_cell hm)) _))<|rz rfl<|b _ _ ?_
  refine AZ rfl ?_
  cases a
  exact aR eV1
 refine Ab<|b _ _ ?_
 refine AZ rfl ?_
 cases a
 exact aR eV1
def Rp(_:Nat)(s:Aa0):Option (Int×Bool):=Aa0.on s (some (0,false)) (fun _ a=>some (a,true)) (fun _ b=>some (b,true)) (some (0,false)) (fun _ _ _=>some (0,false)) (fun _ _=>some (0,false)) (fun _ _ _=>some (0,false)) (fun _ _=>some (0,false)) (fun _ _=>some (0,false)) (fun _ _=>some (0,false)) (fun _ _=>some (0,false)) (fun _=>some (0,false))
theorem dZ(N s r)(c:Rp N s=some r):Gives prog 125 #[Aa0.v s] (vT #[vI r.1,vB r.2]):=by
 unfold Rp at c
 refine Av follows func125 rfl 24 rfl _ fz1 (fun i=> ?_)
 refine AZ rfl<|Aa fun j e=>Aa fun k d=>Ag<|rn 1 rfl ?_
 rcases Aa0.cases s with a|⟨x5_0,x6_1,a⟩|⟨x7_0,x8_1,a⟩|a|⟨x9_0,x10_1,x11_2,a⟩|⟨x12_0,x13_1,a⟩|⟨x14_0,x15_1,x16_2,a⟩|⟨x17_0,x18_1,a⟩|⟨x19_0,x20_1,a⟩|⟨x21_0,x22_1,a⟩|⟨x23_0,x24_1,a⟩|⟨x25_0,a⟩
 ·replace c:=Aa0.on_nil a c
  refine r_W (vT #[vA #[vI 0,vI 0],vB false]) rfl (AC ((rfl:_=Aa0.v s).trans (show Aa0.v s=Value.nilIface from by rw [a];rfl)) rfl) ?_
  refine rn 3 rfl<|rA rfl fun f=>ry [0] rfl<|d _ _ ?_
  refine AZ rfl<|BZ rfl ?_
  refine Ab<|e _ _ ?_
  refine Aa fun g b=>Ad<|rn 1 rfl<|r_W (vT #[vA #[vI 0,vI 0],vB false]) rfl (AC ((rfl:_=Aa0.v s).trans (show Aa0.v s=Value.nilIface from by rw [a];rfl)) rfl) ?_
  refine rn 3 rfl<|rA rfl fun h=>ry [0] rfl<|AZ rfl<|BZ rfl ?_
  refine Ab<|b _ _ ?_
  refine AZ rfl ?_
  cases c
  exact aR eE2
 ·replace c:=Aa0.on_t107 a c
  refine r_W (vT #[vA #[vI x5_0,vI x6_1],vB true]) rfl (AC ((rfl:_=Aa0.v s).trans (show Aa0.v s=Value.iface 107 (vA #[vI x5_0,vI x6_1])from by rw [a];rfl)) rfl) ?_
  refine rn 3 rfl<|rA rfl fun f=>ry [0] rfl<|d _ _ ?_
  refine AZ rfl<|MP rfl ?_
  refine AY [0] rfl ?_
  cases c
  exact aR eE2
 ·replace c:=Aa0.on_t109 a c
  refine r_W (vT #[vA #[vI 0,vI 0],vB false]) rfl (AC ((rfl:_=Aa0.v s).trans (show Aa0.v s=Value.iface 109 (vA #[vI x7_0,vI x8_1])from by rw [a];rfl)) rfl) ?_
  refine rn 3 rfl<|rA rfl fun f=>ry [0] rfl<|d _ _ ?_
  refine AZ rfl<|BZ rfl ?_
  refine Ab<|e _ _ ?_
  refine Aa fun g b=>Ad<|rn 1 rfl<|r_W (vT #[vA #[vI x7_0,vI x8_1],vB true]) rfl (AC ((rfl:_=Aa0.v s).trans (show Aa0.v s=Value.iface 109 (vA #[vI x7_0,vI x8_1])from by rw [a];rfl)) rfl) ?_
  refine rn 3 rfl<|rA rfl fun h=>ry [0] rfl<|AZ rfl<|MP rfl ?_
  refine AY [0] rfl ?_
  cases c
  exact aR eE2
 ·replace c:=Aa0.on_t111 a c
  refine r_W (vT #[vA #[vI 0,vI 0],vB false]) rfl (AC ((rfl:_=Aa0.v s).trans (show Aa0.v s=Value.iface 111 (vA #[])from by rw [a];rfl)) rfl) ?_
  refine rn 3 rfl<|rA rfl fun f=>ry [0] rfl<|d _ _ ?_
  refine AZ rfl<|BZ rfl ?_
  refine Ab<|e _ _ ?_
  refine Aa fun g b=>Ad<|rn 1 rfl<|r_W (vT #[vA #[vI 0,vI 0],vB false]) rfl (AC ((rfl:_=Aa0.v s).trans (show Aa0.v s=Value.iface 111 (vA #[])from by rw [a];rfl)) rfl) ?_
  refine rn 3 rfl<|rA rfl fun h=>ry [0] rfl<|AZ rfl<|BZ rfl ?_
  refine Ab<|b _ _ ?_
  refine AZ rfl ?_
  cases c
  exact aR eE2
 ·replace c:=Aa0.on_t150 a c
  refine r_W (vT #[vA #[vI 0,vI 0],vB false]) rfl (AC ((rfl:_=Aa0.v s).trans (show Aa0.v s=Value.iface 150 (vA #[vI x9_0,vI x10_1,vI x11_2])from by rw [a];rfl)) rfl) ?_
  refine rn 3 rfl<|rA rfl fun f=>ry [0] rfl<|d _ _ ?_
  refine AZ rfl<|BZ rfl ?_
  refine Ab<|e _ _ ?_
  refine Aa fun g b=>Ad<|rn 1 rfl<|r_W (vT #[vA #[vI 0,vI 0],vB false]) rfl (AC ((rfl:_=Aa0.v s).trans (show Aa0.v s=Value.iface 150 (vA #[vI x9_0,vI x10_1,vI x11_2])from by rw [a];rfl)) rfl) ?_
  refine rn 3 rfl<|rA rfl fun h=>ry [0] rfl<|AZ rfl<|BZ rfl ?_
  refine Ab<|b _ _ ?_
  refine AZ rfl ?_
  cases c
  exact aR eE2
 ·replace c:=Aa0.on_t152 a c
  refine r_W (vT #[vA #[vI 0,vI 0],vB false]) rfl (AC ((rfl:_=Aa0.v s).trans (show Aa0.v s=Value.iface 152 (vA #[vI x12_0,vI x13_1])from by rw [a];rfl)) rfl) ?_
  refine rn 3 rfl<|rA rfl fun f=>ry [0] rfl<|d _ _ ?_
  refine AZ rfl<|BZ rfl ?_
  refine Ab<|e _ _ ?_
  refine Aa fun g b=>Ad<|rn 1 rfl<|r_W (vT #[vA #[vI 0,vI 0],vB false]) rfl (AC ((rfl:_=Aa0.v s).trans (show Aa0.v s=Value.iface 152 (vA #[vI x12_0,vI x13_1])from by rw [a];rfl)) rfl) ?_
  refine rn 3 rfl<|rA rfl fun h=>ry [0] rfl<|AZ rfl<|BZ rfl ?_
  refine Ab<|b _ _ ?_
  refine AZ rfl ?_
  cases c
  exact aR eE2
 ·replace c:=Aa0.on_t155 a c
  refine r_W (vT #[vA #[vI 0,vI 0],vB false]) rfl (AC ((rfl:_=Aa0.v s).trans (show Aa0.v s=Value.iface 155 (vA #[vI x14_0,vI x15_1,vI x16_2])from by rw [a];rfl)) rfl) ?_
  refine rn 3 rfl<|rA rfl fun f=>ry [0] rfl<|d _ _ ?_
  refine AZ rfl<|BZ rfl ?_
  refine Ab<|e _ _ ?_
  refine Aa fun g b=>Ad<|rn 1 rfl<|r_W (vT #[vA #[vI 0,vI 0],vB false]) rfl (AC ((rfl:_=Aa0.v s).trans (show Aa0.v s=Value.iface 155 (vA #[vI x14_0,vI x15_1,vI x16_2])from by rw [a];rfl)) rfl) ?_
  refine rn 3 rfl<|rA rfl fun h=>ry [0] rfl<|AZ rfl<|BZ rfl ?_
  refine Ab<|b _ _ ?_
  refine AZ rfl ?_
  cases c
  exact aR eE2
 ·replace c:=Aa0.on_t228 a c
  refine r_W (vT #[vA #[vI 0,vI 0],vB false]) rfl (AC ((rfl:_=Aa0.v s).trans (show Aa0.v s=Value.iface 228 (vA #[vI x17_0,U (hi x18_1),U (lo x18_1)])from by rw [a];rfl)) rfl) ?_
  refine rn 3 rfl<|rA rfl fun f=>ry [0] rfl<|d _ _ ?_
  refine AZ rfl<|BZ rfl ?_
  refine Ab<|e _ _ ?_
  refine Aa fun g b=>Ad<|rn 1 rfl<|r_W (vT #[vA #[vI 0,vI 0],vB false]) rfl (AC ((rfl:_=Aa0.v s).trans (show Aa0.v s=Value.iface 228 (vA #[vI x17_0,U (hi x18_1),U (lo x18_1)])from by rw [a];rfl)) rfl) ?_
  refine rn 3 rfl<|rA rfl fun h=>ry [0] rfl<|AZ rfl<|BZ rfl ?_
  refine Ab<|b _ _ ?_
  refine AZ rfl ?_
  cases c
  exact aR eE2
 ·replace c:=Aa0.on_t229 a c
  refine r_W (vT #[vA #[vI 0,vI 0],vB false]) rfl (AC ((rfl:_=Aa0.v s).trans (show Aa0.v s=Value.iface 229 (vA #[vI x19_0,vI x20_1])from by rw [a];rfl)) rfl) ?_
  refine rn 3 rfl<|rA rfl fun f=>ry [0] rfl<|d _ _ ?_
  refine AZ rfl<|BZ rfl ?_
  refine Ab<|e _ _ ?_
  refine Aa fun g b=>Ad<|rn 1 rfl<|r_W (vT #[vA #[vI 0,vI 0],vB false]) rfl (AC ((rfl:_=Aa0.v s).trans (show Aa0.v s=Value.iface 229 (vA #[vI x19_0,vI x20_1])from by rw [a];rfl)) rfl) ?_
  refine rn 3 rfl<|rA rfl fun h=>ry [0] rfl<|AZ rfl<|BZ rfl ?_
  refine Ab<|b _ _ ?_
  refine AZ rfl ?_
  cases c
  exact aR eE2
 ·replace c:=Aa0.on_t230 a c
  refine r_W (vT #[vA #[vI 0,vI 0],vB false]) rfl (AC ((rfl:_=Aa0.v s).trans (show Aa0.v s=Value.iface 230 (vA #[vI x21_0,vI x22_1])from by rw [a];rfl)) rfl) ?_
  refine rn 3 rfl<|rA rfl fun f=>ry [0] rfl<|d _ _ ?_
  refine AZ rfl<|BZ rfl ?_
  refine Ab<|e _ _ ?_
  refine Aa fun g b=>Ad<|rn 1 rfl<|r_W (vT #[vA #[vI 0,vI 0],vB false]) rfl (AC ((rfl:_=Aa0.v s).trans (show Aa0.v s=Value.iface 230 (vA #[vI x21_0,vI x22_1])from by rw [a];rfl)) rfl) ?_
  refine rn 3 rfl<|rA rfl fun h=>ry [0] rfl<|AZ rfl<|BZ rfl ?_
  refine Ab<|b _ _ ?_
  refine AZ rfl ?_
  cases c
  exact aR eE2
 ·replace c:=Aa0.on_t232 a c
  refine r_W (vT #[vA #[vI 0,vI 0],vB false]) rfl (AC ((rfl:_=Aa0.v s).trans (show Aa0.v s=Value.iface 232 (vA #[vI x23_0,vI x24_1])from by rw [a];rfl)) rfl) ?_
  refine rn 3 rfl<|rA rfl fun f=>ry [0] rfl<|d _ _ ?_
  refine AZ rfl<|BZ rfl ?_
  refine Ab<|e _ _ ?_
  refine Aa fun g b=>Ad<|rn 1 rfl<|r_W (vT #[vA #[vI 0,vI 0],vB false]) rfl (AC ((rfl:_=Aa0.v s).trans (show Aa0.v s=Value.iface 232 (vA #[vI x23_0,vI x24_1])from by rw [a];rfl)) rfl) ?_
  refine rn 3 rfl<|rA rfl fun h=>ry [0] rfl<|AZ rfl<|BZ rfl ?_
  refine Ab<|b _ _ ?_
  refine AZ rfl ?_
  cases c
  exact aR eE2
 replace c:=Aa0.on_t234 a c
 refine r_W (vT #[vA #[vI 0,vI 0],vB false]) rfl (AC ((rfl:_=Aa0.v s).trans (show Aa0.v s=Value.iface 234 (vA #[vI x25_0])from by rw [a];rfl)) rfl) ?_
 refine rn 3 rfl<|rA rfl fun f=>ry [0] rfl<|d _ _ ?_
 refine AZ rfl<|BZ rfl ?_
 refine Ab<|e _ _ ?_
 refine Aa fun g b=>Ad<|rn 1 rfl<|r_W (vT #[vA #[vI 0,vI 0],vB false]) rfl (AC ((rfl:_=Aa0.v s).trans (show Aa0.v s=Value.iface 234 (vA #[vI x25_0])from by rw [a];rfl)) rfl) ?_
 refine rn 3 rfl<|rA rfl fun h=>ry [0] rfl<|AZ rfl<|BZ rfl ?_
 refine Ab<|b _ _ ?_
 refine AZ rfl ?_
 cases c
 exact aR eE2
def Pu(N:Nat)(s:Aa0):Option (Int×Bool):=(Rp N s).bind fun a=>some (a.1,a.2)
theorem ed(N s r)(a:Pu N s=some r):Gives prog 65 #[Aa0.v s] (vT #[vI r.1,vB r.2]):=by
 unfold Pu at a
 refine Av follows func65 rfl 8 rfl _ fz1 (fun b=> ?_)
 refine AZ rfl<|Ad<|rn 1 rfl<|kB a fun d c a=>rc _ (cF nu) (dZ N s _ c)<|rz rfl ?_
 cases a
 exact aR eE2
def GN(N:Nat)(s:Aa0)(a:Int)(b:Int):Option Bool:=(Pu N s).bind fun c=>if c.2=true then ck (R64 (a+1)) ((Az N c.1 (a+1) b).bind fun d=>some d)else some true
theorem UT(N s at' end' r)(a:GN N s at' end'=some r):Gives prog 26 #[Aa0.v s,vI at',vI end'] (vB r):=by
 unfold GN at a
 refine Av follows func26 rfl 23 rfl _ fz3 (fun d=> ?_)
 refine AZ rfl<|Ad<|rn 1 rfl<|kB a fun h e a=>rc _ (cF qD) (ed N s _ e)<|rz rfl<|Aa fun i b=>Ag<|rn 3 rfl ?_
 rcases c:(!(h.2))with _|_
 ·replace a:=ifp (Db c) a
  refine rn 2 rfl<|r_y rfl<|kC a fun f a=>rX f rfl<|rn 1 rfl<|r_y rfl<|kB a fun j g a=>rc _ (cF EV) (AP N h.1 (at'+1) end' _ g)<|rz rfl<|b _ _ ?_
  cases a
  exact aR eE1
 replace a:=ifn (Bool.eq_false_iff.1 (Da c)) a
 refine rz rfl<|b _ _ ?_
 cases a
 exact aR eE1
def GE(N:Nat)(i:Int)(s:Aa0)(c:Ao)(d:List Int)(a:List (Int×Int×Int×Int×BitVec 128)):Option Int:=ck (0≤i∧i<(a.length:Int)) ((Rk N c d ((a[i.toNat]!).1) ((a[i.toNat]!).2.1) ((a[i.toNat]!).2.2.1) ((a[i.toNat]!).2.2.2.1) ((a[i.toNat]!).2.2.2.2)).bind fun h=>(Aq N h 5).bind fun g=>(GN N s i (a.length:Int)).bind fun f=>(Aq N f 12).bind fun b=>(AE N ([g,b])).bind fun e=>some e)
theorem Wn(N i s c g a r)(f:GE N i s c g a=some r)(ro)(q:Nat)(d:AD)(C:Aa1 ro d c)(x:Blk ro q (GB c d))(t:Nat)(e)(D:Rd BI ro e g)(y:Blk ro t [e])(u:Nat)(b)(h:Rd Ac7 ro b a)(j:Blk ro u [b]):DoesI prog 22 #[vI i,Aa0.v s,vP q 0,vP t 0,vP u 0] Ie ro [] (pV (vI r)):=by
 unfold GE at f
 refine AX follows func22 rfl 24 rfl _ fz5 Bg (fun J=> ?_)
 refine AZ rfl<|Aa fun T K=> ?_
 refine BE [(some 14,false),(some 22,false),(some 23,false)] (conG prog [(14,cV (Rk N c g ((a[i.toNat]!).1) ((a[i.toNat]!).2.1) ((a[i.toNat]!).2.2.1) ((a[i.toNat]!).2.2.2.1) ((a[i.toNat]!).2.2.2.2)) fun n=>vB n),(23,fun _ _ v_ L_ U_=> ∀n,Rk N c g ((a[i.toNat]!).1) ((a[i.toNat]!).2.1) ((a[i.toNat]!).2.2.1) ((a[i.toNat]!).2.2.2.1) ((a[i.toNat]!).2.2.2.2)=some n→ ∀E,Aq N n 5=some E→ ∀F,GN N s i (a.length:Int)=some F→ ∀G,Aq N F 12=some G→ ∀H,AE N ([E,G])=some H→(pV (vI H)) v_ L_ U_)]) [] (by decide+kernel) (fun U=>AQ) ?_
 refine Hr (vA (Ac c d)) (vs:=(GB c d)) (o:=0) rfl rfl (AS x) rfl<|Hr e (vs:=[e]) (o:=0) rfl rfl (AS y) rfl<|Hr b (vs:=[b]) (o:=0) rfl rfl (AS j) rfl<|rn 1 rfl<|kC f fun I f=>rI (Rd.shp h) I rfl<|rE (Aw h) I 0 rfl<|kB f fun Q p f=>rg _ (cF rp) (fun o w z_=>tL N c g ((a[i.toNat]!).1) ((a[i.toNat]!).2.1) ((a[i.toNat]!).2.2.1) ((a[i.toNat]!).2.2.2.1) ((a[i.toNat]!).2.2.2.2) _ p z_.view d (Aa1.mono z_.ro_cell C) e (z_.r D)) (Ha p)<|kB f fun L z f=>rc _ (cF Bj) (Ay N Q 5 _ z)<|rn 2 rfl<|Hr b (vs:=[b]) (o:=0) rfl rfl (AS j) rfl<|rL (Rd.shp h) rfl<|kB f fun R A f=>rc _ (cF rk) (UT N s i (a.length:Int) _ A)<|kB f fun B l f=>rc _ (cF Bj) (Ay N R 12 _ l) ?_
 refine Kq (Ls:=[]) 42 BI [L,B] [vI L,vI B] [vI 0,vI 0] rfl rfl rfl rfl rfl rfl rfl (by kernel_rfl) (by kernel_rfl) rfl rfl rfl (fun M O P=> ?_)
 refine kB f fun S m f=>rg _ (cF ED) (fun o w z_=>(Does.inv (BQ N ([L,B]) _ m z_.view M ((Ax P (Ak (Ls:=[O]) (k:=0) rfl rfl)) o w z_)) _)) (fun _ _ v_ L_ U_=>⟨fun h_=>h_ _ p _ z _ A _ l _ m,fun h_=>by intro _ e_;cases q1 (e_.symm.trans p);intro _ e_;cases q1 (e_.symm.trans z);intro _ e_;cases q1 (e_.symm.trans A);intro _ e_;cases q1 (e_.symm.trans l);intro _ e_;cases q1 (e_.symm.trans m);exact h_⟩) ?_
 refine rz rfl<|K _ _ ?_
 cases f
 exact aR eV1
def EX(N:Nat)(e:List Aa0)(c:Ao)(b:List Int)(d:List (Int×Int×Int×Int×BitVec 128)):Nat→Int→Option (Int×Int)
  |0,_=>none
  |g+1,a=>if a<(e.length:Int)then ck (0≤a∧a<(e.length:Int)) ((GE N a (e[a.toNat]!) c b d).bind fun f=>if(f:Int)≠0 then some (a,f)else ck (R64 (a+1)) ((EX N e c b d g) (a+1)))else some (0,0)
def HT(N:Nat)(e:List Aa0)(d:Int)(b:Ao)(a:List Int)(c:List (Int×Int×Int×Int×BitVec 128)):Option (Int×Int):=if(e.length:Int)>d then some (0,2)else EX N e b a c N 0
theorem RO(N l' most e f g r)(d:HT N l' most e f g=some r)(ro l'v)(hl':Rd Qn ro l'v l')(a:Nat)(h:AD)(q:Aa1 ro h e)(m:Blk ro a (GB e h))(b:Nat)(i)(s:Rd BI ro i f)(n:Blk ro b [i])(c:Nat)(j)(u:Rd Ac7 ro j g)(p:Blk ro c [j]):DoesI prog 21 #[l'v,vI most,vF 22 #[] #[vP a 0,vP b 0,vP c 0]] Ie ro [] (pV (vT #[vI r.1,vI r.2])):=by
 unfold HT at d
 refine AX follows func21 rfl 31 rfl _ fz3 Bg (fun E=> ?_)
 refine AZ rfl<|Aa fun L F=>Ad<|rn 1 rfl<|rL (Rd.shp hl') rfl<|rz rfl<|aD d rfl (fun G d=> ?_) (fun G d=> ?_)
 ·refine AZ rfl ?_
  cases d
  exact aR eV2
 refine Ab<|F _ _ ?_
 refine Aa fun M H=>Ad<|rn 1 rfl<|rL (Rd.shp hl') rfl<|rz rfl<|Ai<|AH (fun tt ll nn=> ∃(x:Nat) (k:Int),(EX N l' e f g x k=some r)∧Is [(2,vF 22 #[] #[vP a 0,vP b 0,vP c 0]),(15,l'v),(16,vI (l'.length:Int)),(17,vI k)] [] tt ll∧nn=x+1) (N+1) ?_ ?_
 ·exact⟨N,0,d,Ah rfl rfl,rfl⟩
 clear d;rintro t l _ ⟨x,k,d,⟨⟨T,rfl⟩,rfl⟩,rfl⟩
 rcases x with _|x
 ·exact absurd d (by simp [EX])
 rw [EX] at d
 refine AZ rfl<|Aa fun I y=>aD d rfl (fun z d=> ?_) (fun z d=> ?_)
 ·refine Ab<|y _ _ ?_
  refine Aa fun J A=>Ai<|Ad<|rn 1 rfl<|kC d fun v d=>rI (Rd.shp hl') v rfl<|rE (Aw hl') v 0 rfl<|rz rfl<|Ad<|rn 3 rfl<|kB d fun K B d=>gV _ (BF (caps:=[vP a 0,vP b 0,vP c 0]) rfl rq rfl) (fun o w z_=>Wn N k (l'[k.toNat]!) e f g _ B z_.view a h (Aa1.mono z_.ro_cell q) (AS m o w z_) b i (z_.r s) (AS n o w z_) c j (z_.r u) (AS p o w z_))<|rz rfl<|AZ rfl<|aN d rfl (fun C d=> ?_) (fun C d=> ?_)
  ·refine AZ rfl ?_
   cases d
   exact aR eV2
  refine Ab<|A _ _ ?_
  refine Ag<|kC d fun D d=>rX D rfl<|rz rfl<|fg _ (Sub.of suN) ?_
  exact⟨x+1,by omega,x,(k+1),d,Ah rfl rfl,rfl⟩
 refine AI<|H _ _ ?_
 refine AZ rfl ?_
 cases d
 exact aR eV2
def Hi(N:Nat)(m:Ao)(a:List Int)(c:List (Int×Int×Int×Int×BitVec 128)):Option Int:=if(a.length:Int)>8 then some 2 else(QB N c).bind fun b=>if(b.2.2:Int)≠0 then some b.2.2 else(HT N b.1 64 m a c).bind fun d=>some d.2
theorem Qd(N m params l' r)(a:Hi N m params l'=some r)(ro)(mv:AD)(hm:Aa1 ro mv m)(paramsv)(hparams:Rd BI ro paramsv params)(l'v)(hl':Rd Ac7 ro l'v l'):DoesI prog 12 #[vA (Ac m mv),paramsv,l'v] Ie ro [] (pV (vI r)):=by
 unfold Hi at a
 refine AX follows func12 rfl 29 rfl _ fz3 Bg (fun f=> ?_)
 refine Ad<|rA rfl fun g=>r_a (29, #[paramsv]) rfl rfl (NA rfl (Rd.shp hparams)) (fun h=> ?_) (.inr rfl)
 refine r_a (36, #[l'v]) rfl rfl (NA rfl (Rd.shp hl')) (fun i=> ?_) (.inr rfl)
 refine rz rfl<|Aa fun v j=>Ad<|rm 1 [1] rfl<|rL (Rd.shp hparams) rfl<|rz rfl<|aD a rfl (fun l a=> ?_) (fun l a=> ?_)
 ·refine AZ rfl ?_
  cases a
  exact aR eV1
 refine Ab<|j _ _ ?_
 refine Ad<|rm 1 [0] rfl<|kB a fun n b a=>gS (Ls:=[(fd i l'v),(fe h paramsv),[(g,35,(Ac m mv))]]) (cF fP) (fun o w z_=>(Does.inv (fE N l' _ b z_.view l'v ((Aw hl') o w z_)) _)) (fun p q s=> ?_)
 refine rz rfl<|Aa fun u c=>AZ rfl<|aN a rfl (fun d a=> ?_) (fun d a=> ?_)
 ·refine AZ rfl ?_
  cases a
  exact aR eV1
 refine Ab<|c _ _ ?_
 refine Ad<|rn 1 rfl<|r_W (vF 22 #[] #[vP g 0,vP h 0,vP i 0]) rfl (IA rfl)<|kB a fun t e a=>gV _ (cF rr) (fun o w z_=>RO N n.1 64 m params l' _ e z_.view p ((Ax s (Ak (Ls:=[(fd i l'v),(fe h paramsv),[(g,35,(Ac m mv))],q]) (k:=3) rfl rfl)) o w z_) g mv (Aa1.mono z_.ro_cell hm) (Cw 2 rfl rfl o w z_) h paramsv (z_.r hparams) (Cw 1 rfl rfl o w z_) i l'v ((Aw hl') o w z_) (Cw 0 rfl rfl o w z_))<|rz rfl<|GQ [(9,vI t.2)] rfl (fun T=> ?_)
 refine AZ rfl ?_
 cases a
 exact aR eV1
def Ic(N:Nat)(c:Ao)(_:List UInt8)(a:List Int)(b:List (Int×Int×Int×Int×BitVec 128)):Option Int:=(NO N a 8).bind fun e=>(Hi N c a b).bind fun f=>(AE N ([e.2,f])).bind fun d=>some d
theorem WK(N c x_0 x_1 x_2 r)(a:Ic N c x_0 x_1 x_2=some r)(ro)(cv:AD)(hc:Aa1 ro cv c)(x_1v)(hx_1:Rd BI ro x_1v x_1)(x_2v)(hx_2:Rd Ac7 ro x_2v x_2):DoesI prog 102 #[vA (Ac c cv),vA #[vS x_0,x_1v,x_2v]] Ie ro [] (pV (vI r)):=by
 unfold Ic at a
 refine AX follows func102 rfl 23 rfl _ fz2 Bg (fun d=> ?_)
 refine Ad<|rA rfl fun j=>rA rfl fun l=>rz rfl<|Ad<|rm 2 [0] rfl<|kB a fun m e a=>gV _ (cF Sj) (fun o w z_=>(Does.inv (aJ N x_1 8 _ e z_.view x_1v (z_.r hx_1)) _))<|rz rfl<|Ad<|rm 7 [1,0,0] rfl<|kB a fun n f a=>gV _ (cF Zx) (fun o w z_=>Qd N c x_1 x_2 _ f z_.view cv (Aa1.mono z_.ro_cell hc) x_1v (z_.r hx_1) x_2v (z_.r hx_2))<|gB (Ls:=[(Qc l x_0 x_1v x_2v),[(j,90,(Ac c cv))]]) 42 BI [m.2,n] (fun g h i=> ?_)
 refine kB a fun p b a=>gV _ (cF ED) (fun o w z_=>(Does.inv (BQ N ([m.2,n]) _ b z_.view g ((Ax i (Ak (Ls:=[(Qc l x_0 x_1v x_2v),[(j,90,(Ac c cv))],h]) (k:=2) rfl rfl)) o w z_)) _))<|rz rfl ?_
 cases a
 exact aR eV1
def Ka(N:Nat)(i:Int)(f:List UInt8)(g:List Int)(c:List (Int×Int×Int×Int×BitVec 128))(b:List (List UInt8))(a:Ao):Option Int:=ck (0≤i∧i<(b.length:Int)) ((EB N (b[i.toNat]!)).bind fun h=>(Aq N h 4).bind fun j=>(AU N b i).bind fun k=>(Ic N a f g c).bind fun d=>(AE N ([j,k,d])).bind fun e=>some e)
theorem SQ(N i x_0 x_1 x_2 b c3_p0_0_ r)(c:Ka N i x_0 x_1 x_2 b c3_p0_0_=some r)(ro x_1v)(hx_1:Rd BI ro x_1v x_1)(x_2v)(hx_2:Rd Ac7 ro x_2v x_2)(l:Nat)(a)(g:Rd Aa3 ro a b)(h:Blk ro l [a])(m:Nat)(c3_p0_0_v:AD)(hc3_p0_0_:Aa1 ro c3_p0_0_v c3_p0_0_)(n:Blk ro m [vF 102 #[vA (Ac c3_p0_0_ c3_p0_0_v)] #[]]):DoesI prog 171 #[vI i,vA #[vS x_0,x_1v,x_2v],vP l 0,vP m 0] Ie ro [] (pV (vI r)):=by
 unfold Ka at c
 refine AX follows func171 rfl 21 rfl _ fz4 Bg (fun z=> ?_)
 refine Ad<|rA rfl fun G=>rz rfl<|Aa fun J A=> ?_
 refine BE [(some 15,false),(some 18,false),(some 19,false),(some 20,false)] (conG prog [(15,cV (AU N b i) fun f=>vI f),(18,cV (Ic N c3_p0_0_ x_0 x_1 x_2) fun f=>vI f),(20,fun _ _ v_ L_ U_=> ∀f,EB N (b[i.toNat]!)=some f→ ∀t,Aq N f 4=some t→ ∀u,AU N b i=some u→ ∀v,Ic N c3_p0_0_ x_0 x_1 x_2=some v→ ∀x,AE N ([t,u,v])=some x→(pV (vI x)) v_ L_ U_)]) [] (by decide+kernel) (fun K=>AQ) ?_
 refine Hr a (vs:=[a]) (o:=0) rfl rfl (AS h) rfl<|rn 1 rfl<|kC c fun y c=>rI (Rd.shp g) y rfl<|rE (Aw g) y 0 rfl<|kB c fun H p c=>rc _ (cF Nz) (LM N (b[i.toNat]!) _ p)<|kB c fun B q c=>rc _ (cF Bj) (Ay N H 4 _ q)<|Hr a (vs:=[a]) (o:=0) rfl rfl (AS h) rfl<|rn 1 rfl<|kB c fun C d c=>rg _ (cF Od) (fun o w z_=>(Does.inv (HQ N b i _ d z_.view a (z_.r g)) _)) (Ha d)<|Hr (vF 102 #[vA (Ac c3_p0_0_ c3_p0_0_v)] #[]) (vs:=[vF 102 #[vA (Ac c3_p0_0_ c3_p0_0_v)] #[]]) (o:=0) rfl rfl (AS n) rfl<|rm 1 [0] rfl<|kB c fun s e c=>rg _ (FZ (bd:=[vA (Ac c3_p0_0_ c3_p0_0_v)]) (caps:=[]) rfl nM rfl) (fun o w z_=>WK N c3_p0_0_ x_0 x_1 x_2 _ e z_.view c3_p0_0_v (Aa1.mono z_.ro_cell hc3_p0_0_) x_1v (z_.r hx_1) x_2v (z_.r hx_2)) (Ha e) ?_
 refine Kq (Ls:=[(Qc G x_0 x_1v x_2v)]) 42 BI [B,C,s] [vI B,vI C,vI s] [vI 0,vI 0,vI 0] rfl rfl rfl rfl rfl rfl rfl (by kernel_rfl) (by kernel_rfl) rfl rfl rfl (fun D E F=> ?_)
 refine kB c fun I j c=>rg _ (cF ED) (fun o w z_=>(Does.inv (BQ N ([B,C,s]) _ j z_.view D ((Ax F (Ak (Ls:=[(Qc G x_0 x_1v x_2v),E]) (k:=1) rfl rfl)) o w z_)) _)) (fun _ _ v_ L_ U_=>⟨fun h_=>h_ _ p _ q _ d _ e _ j,fun h_=>by intro _ e_;cases q1 (e_.symm.trans p);intro _ e_;cases q1 (e_.symm.trans q);intro _ e_;cases q1 (e_.symm.trans d);intro _ e_;cases q1 (e_.symm.trans e);intro _ e_;cases q1 (e_.symm.trans j);exact h_⟩) ?_
 refine rz rfl<|A _ _ ?_
 cases c
 exact aR eV1
def HF(N:Nat)(d:List ((List UInt8)×(List Int)×(List (Int×Int×Int×Int×BitVec 128))))(c:List (List UInt8))(b:Ao):Nat→Int→Option (Int×Int)
  |0,_=>none
  |f+1,a=>if a<(d.length:Int)then ck (0≤a∧a<(d.length:Int)) ((Ka N a (d[a.toNat]!.1) (d[a.toNat]!.2.1) (d[a.toNat]!.2.2) c b).bind fun e=>if(e:Int)≠0 then some (a,e)else ck (R64 (a+1)) ((HF N d c b f) (a+1)))else some (0,0)
def Ly(N:Nat)(d:List ((List UInt8)×(List Int)×(List (Int×Int×Int×Int×BitVec 128))))(c:Int)(b:List (List UInt8))(a:Ao):Option (Int×Int):=if(d.length:Int)>c then some (0,2)else HF N d b a N 0
theorem Ve(N l' most e ask1_p0_0_ r)(d:Ly N l' most e ask1_p0_0_=some r)(ro l'v)(hl':RdN Ad5 ro l'v l')(a:Nat)(f)(k:Rd Aa3 ro f e)(g:Blk ro a [f])(b:Nat)(ask1_p0_0_v:AD)(hask1_p0_0_:Aa1 ro ask1_p0_0_v ask1_p0_0_)(h:Blk ro b [vF 102 #[vA (Ac ask1_p0_0_ ask1_p0_0_v)] #[]]):DoesI prog 170 #[l'v,vI most,vF 171 #[] #[vP a 0,vP b 0]] Ie ro [] (pV (vT #[vI r.1,vI r.2])):=by
 unfold Ly at d
 refine AX follows func170 rfl 31 rfl _ fz3 Bg (fun A=> ?_)
 refine AZ rfl<|Aa fun J B=>Ad<|rn 1 rfl<|rL (RdN.shp hl') rfl<|rz rfl<|aD d rfl (fun C d=> ?_) (fun C d=> ?_)
 ·refine AZ rfl ?_
  cases d
  exact aR eV2
 refine Ab<|B _ _ ?_
 refine Aa fun K D=>Ad<|rn 1 rfl<|rL (RdN.shp hl') rfl<|rz rfl<|Ai<|AH (fun tt ll nn=> ∃(q:Nat) (c:Int),(HF N l' e ask1_p0_0_ q c=some r)∧Is [(2,vF 171 #[] #[vP a 0,vP b 0]),(15,l'v),(16,vI (l'.length:Int)),(17,vI c)] [] tt ll∧nn=q+1) (N+1) ?_ ?_
 ·exact⟨N,0,d,Ah rfl rfl,rfl⟩
 clear d;rintro t l _ ⟨q,c,d,⟨⟨T,rfl⟩,rfl⟩,rfl⟩
 rcases q with _|q
 ·exact absurd d (by simp [HF])
 rw [HF] at d
 refine AZ rfl<|Aa fun G s=>aD d rfl (fun u d=> ?_) (fun u d=> ?_)
 ·refine Ab<|s _ _ ?_
  refine Aa fun H v=>Ai<|Ad<|rn 1 rfl<|kC d fun m d=> ?_
  obtain⟨_,⟨i,j,n,p,rfl⟩,hat19⟩:=RdN.at (E:=Ad5) hl' (Dc m)
  refine rI (RdN.shp hl') m rfl<|NB (vA #[vS (l'[c.toNat]!.1),i,j]) (vs:=[vS (l'[c.toNat]!.1),i,j]) (c.toNat*3) 0 rfl rfl (fun o w z_=>At.mono z_.ro_cell hat19) rfl<|rA rfl fun F=>rn 1 rfl<|r_s (Qc F (l'[c.toNat]!.1) i j) 0 _ _ _ _ _ (#[vS (l'[c.toNat]!.1),i,j]) rfl rfl rfl rfl (.ofS rfl rfl (Ae rfl (Ae (Shp.one (Rd.shp n)) (Ae (Shp.one (Rd.shp p)) Bv)))) rfl rfl<|Af<|Ad<|rm 3 [0] rfl<|kB d fun I x d=>gV _ (BF (caps:=[vP a 0,vP b 0]) rfl mN rfl) (fun o w z_=>SQ N c (l'[c.toNat]!.1) (l'[c.toNat]!.2.1) (l'[c.toNat]!.2.2) e ask1_p0_0_ _ x z_.view i (z_.r n) j (z_.r p) a f (z_.r k) (AS g o w z_) b ask1_p0_0_v (Aa1.mono z_.ro_cell hask1_p0_0_) (AS h o w z_))<|rz rfl<|AZ rfl<|aN d rfl (fun y d=> ?_) (fun y d=> ?_)
  ·refine AZ rfl ?_
   cases d
   exact aR eV2
  refine Ab<|v _ _ ?_
  refine Ag<|kC d fun z d=>rX z rfl<|rz rfl<|fg _ (Sub.of (suC _ suN)) ?_
  exact⟨q+1,by omega,q,(c+1),d,Ah rfl rfl,rfl⟩
 refine AI<|D _ _ ?_
 refine AZ rfl ?_
 cases d
 exact aR eV2
def Nm(N:Nat)(d:List ((List UInt8)×(List Int)×(List (Int×Int×Int×Int×BitVec 128))))(c:Int)(a:Ao):Option (Int×Int):=(Nn N d).bind fun e=>(Ly N d c e a).bind fun b=>some (b.1,b.2)
theorem Va(N l' most b r)(d:Nm N l' most b=some r)(ro l'v)(hl':RdN Ad5 ro l'v l')(a:AD)(c:Aa1 ro a b):DoesI prog 100 #[l'v,vI most,vF 101 #[] #[],vF 102 #[vA (Ac b a)] #[]] Ie ro [] (pV (vT #[vI r.1,vI r.2])):=by
 unfold Nm at d
 refine AX follows func100 rfl 20 rfl _ fz4 Bg (fun g=> ?_)
 refine Ad<|rA rfl fun e=>rz rfl<|Ad<|rn 2 rfl<|kB d fun n j d=>gS (Ls:=[(UO e (vF 102 #[vA (Ac b a)] #[]))]) (cF mP) (fun o w z_=>(Does.inv (Vc N l' _ j z_.view l'v (RdN.mono z_.ro_cell hl')) _)) (fun h m l=> ?_)
 refine rA rfl fun i=>r_s (List.flatten [(aw i h),(UO e (vF 102 #[vA (Ac b a)] #[])),m]) 0 _ _ _ _ _ (#[h]) rfl rfl rfl (Ga rfl (Sl.shp l)) (.ofS rfl rfl (Ae (Shp.one (Sl.shp l)) Bv)) rfl rfl<|Af<|Ad<|rn 2 rfl<|r_W (vF 171 #[] #[vP i 0,vP e 0]) rfl (IA rfl)<|kB d fun p f d=>gV _ (cF mO) (fun o w z_=>Ve N l' most n b _ f z_.view l'v (RdN.mono z_.ro_cell hl') i h ((Ax l (Ak (Ls:=[(aw i h),(UO e (vF 102 #[vA (Ac b a)] #[])),m]) (k:=2) rfl rfl)) o w z_) (Cw 0 rfl rfl o w z_) e a (Aa1.mono z_.ro_cell c) (Cw 1 rfl rfl o w z_))<|rz rfl ?_
 cases d
 exact aR eV2
end Go.Proofs.YtoolcgbcfgnipaaGreatDoor
