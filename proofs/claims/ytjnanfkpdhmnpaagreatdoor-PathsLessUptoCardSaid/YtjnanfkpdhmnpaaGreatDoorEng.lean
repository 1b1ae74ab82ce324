import Derived.Orders
import Derived.Below
import Derived.Laws.CopyRow
import Derived.Laws.Small
import Derived.Tactics
namespace Go.Eng
open Go Go.RowKit
theorem V8.{u}{c:Prop}{h:Decidable c}(hc:c){α:Sort u}{t e:α}:ite c t e=t:=if_pos hc
theorem V9.{u}{c:Prop}{h:Decidable c}(hc: ¬c){α:Sort u}{t e:α}:ite c t e=e:=if_neg hc
abbrev W4:=BitVec 64
abbrev W3:=BitVec 128
abbrev W2:=List UInt8
abbrev W1:=Int×Int×Int×Int×BitVec 128
abbrev W0:=List UInt8×Int×Int×Int×Int×Int×Int×Int×List UInt8
abbrev Y0:=List
abbrev Y1:=Option
abbrev Y2:=Value
abbrev Y3:=Bool
abbrev V2:=@List.flatten
abbrev V4:=@Value.string
abbrev V5:=@Value.iface
abbrev V6:=@Value.nilIface
abbrev V7:=@Value.pointer
theorem Z.{u}{α:Sort u}{a:α}:a=a:=rfl
theorem Y.{u}{α:Sort u}{a:α}:a=a:=rfl
theorem X.{u}{α:Sort u}{a:α}:a=a:=rfl
theorem O.{u}{α:Sort u}{a:α}:a=a:=rfl
abbrev q0:=@Option.bind_some
abbrev q3:=@Option.some.inj
abbrev q4:=@Int.toNat_natCast
abbrev q6:=@List.cons.inj
abbrev q7:=@Nat.zero_add
abbrev q8:=@List.length_take
abbrev q9:=@List.length_map
abbrev zf:=@List.length_append
abbrev zg:=@List.length_cons
abbrev zi:=@List.mem_singleton
abbrev zj:=@of_decide_eq_true
abbrev zk:=@decide_eq_false
abbrev zl:=@decide_eq_true
abbrev zm:=@getElem!_pos
abbrev zo:=@List.length_replicate
abbrev zp:=@List.length_nil
abbrev zq:=@List.length_drop
abbrev zr:=@List.length_set
abbrev zt:=@List.getElem_map
abbrev zv:=@List.getElem?_eq_getElem
abbrev zy:=@List.mem_cons
abbrev j0:=@List.append_assoc
abbrev j3:=@List.take_append_drop
abbrev j4:=@Nat.lt_of_lt_of_le
abbrev j5:=@Nat.le_trans
abbrev j8:=@List.drop_zero
abbrev y2:=@List.getElem_take
abbrev y3:=@List.drop_eq_getElem_cons
abbrev y4:=@List.take_of_length_le
abbrev y5:=@List.nil_append
def upd{α:Type}(f:Nat->α)(k:Nat)(v:α):Nat->α:=λi=>if i=k then v else f i
theorem Ef{α:Type}(f:Nat->α)(k:Nat)(v:α):upd f k v k=v:=by simp [upd]
theorem Cg{α:Type}(f:Nat->α){k i:Nat}(v:α)(h:i≠k):upd f k v i=f i:=by simp [upd,h]
theorem QU{α:Type}(f:Nat->α){k l:Nat}(v u:α)(h:k≠l):upd (upd f k v) l u=upd (upd f l u) k v:=by
 funext i;unfold upd;by_cases h1:i=l<;>by_cases h2:i=k<;>simp [h1,h2]<;>omega
structure St where
 t:Nat->Y2
 own:Nat->Y1 (TypeId×Array Y2)
 nw:Nat->Y3
abbrev Bl:=Nat×TypeId×Array Y2
abbrev Con:=Oper->Y0 Y2->(Addr->Y1 Y2)->Y2->Y0 Bl->Y0 Bl->Prop
structure Env where
 P:Program
 n:Nat
 base:Nat
 ro:Addr->Y1 Y2
 foot:Y0 Nat:=[]
 ks:Y0 (Y1 Tmp×Y3):=[]
 con:Con:=λ_ _ _ _ _ _=>False
 inv:World->Prop:=λ_=>True
 hid:Y0 Nat:=[]
def rd(t:Nat->Y2):Operand->Y2
 | .tmp k=>t k
 | .const v=>v
 | .global g=> .pointer (some ⟨g,0,none⟩)
 | .func f=> .func (.func f) #[] #[]
def putT(t:Nat->Y2)(d:Y1 Tmp)(v:Y2):Nat->Y2:=
 match d with
 |some k=>upd t k v
 |none=>t
def ev{α:Type}(P:Program)(c:Addr->Y1 Y2):Sem α->Y1 α
 | .pure a=>some a
 | .load .plain a k=>match c a with
  |some v=>ev P c (k v)
  |none=>none
 | .program k=>ev P c (k P)
 | .mark _ k=>ev P c k
 |_=>none
theorem SJ{α:Type}{P:Program}{c:Addr->Y1 Y2}{w:World}(hc: ∀a v,c a=some v->w.cell? a=some v):
  ∀(s:Sem α) (x:α),ev P c s=some x->s.run P w= .ok x w:=by
 intro s
 induction s with
 |pure a=>intro x h;simp only [ev,Option.some.injEq] at h;subst h;rfl
 |load m a k ih=>
  intro x h
  cases m with
  |plain=>
   simp only [ev] at h
   cases hv:c a with
   |none=>rw [hv] at h;cases h
   |some v=>rw [hv] at h;simp only [Sem.run,hc a v hv];exact ih v x h
  |atomic=>simp [ev] at h
 |program k ih=>intro x h;simp only [ev] at h;simp only [Sem.run];exact ih P x h
 |mark m k ih=>intro x h;simp only [ev] at h;simp only [Sem.run];exact ih x h
 |_=>intro x h;simp [ev] at h
structure Bel(B:Nat)(w w':World):Prop where
 below:Below B w w'
 drawn:w.drawn<=w'.drawn
theorem Bel.refl(B:Nat)(w:World):Bel B w w:=⟨Below.refl _ _,Nat.le_refl _⟩
def Gives(P:Program)(f:FuncId)(a:Array Y2)(v:Y2):Prop:=
 ∀w,Calls P f a w λe b=>e= .returned v/\Bel w.heap.size w b
theorem ly{P:Program}{m m1 m2:Machine}{a b:Nat}(h1:runN P a m= .next m1)(h2:runN P b m= .next m2)(hab:a<=b):runN P (b - a) m1= .next m2:=by
 have h3:=runN_add P a (b - a) m
 rw [Nat.add_sub_cancel' hab,h1,h2] at h3
 exact h3.symm
def deadFrame:Frame:={(default:Frame)with todo:=[.code (.refuse "")],mode:= .run}
theorem kD{P:Program}{w:World}{v:Y2}(k:Nat)(m:Machine):runN P (k+1) (lone (deadFrame.finish v) [] w)≠ .next m:=by
 have hs: ∃o w',step P (lone (deadFrame.finish v) [] w)= .ended o w':=by
  refine⟨.unsupported (Go.Unsupported.elab "") ((deadFrame.finish v).pos P),w,step_lone_ended ?_⟩
  simp [stepG,stepG.exec,deadFrame,Frame.finish]
 obtain⟨o,w',hs⟩:=hs
 simp [runN,hs]
theorem cm{P:Program}{f:FuncId}{args:Array Y2}{w w1 w2:World}{v1 v2:Y2}{f1 f2:Frame}{a b:Nat}(h1:runN P a (lone (Frame.enter P f args .normal) [deadFrame] w)= .next (lone f1 [deadFrame] w1))(l1:f1.leaving P w1 (.returned v1))(h2:runN P b (lone (Frame.enter P f args .normal) [deadFrame] w)= .next (lone f2 [deadFrame] w2))(l2:f2.leaving P w2 (.returned v2))(hab:a<=b):v1=v2:=by
 have h3:=ly h1 h2 hab
 cases hk:b - a with
 |zero=>
  rw [hk] at h3
  simp only [runN,Stepped.next.injEq] at h3
  have e1:f1=f2:=by have:=congrArg (λm:Machine=>(m.gs[0]?).map (·.frame)) h3;simpa [lone] using this
  have e2:w1=w2:=by have:=congrArg (λm:Machine=>m.world) h3;simpa [lone] using this
  subst e1;subst e2
  obtain⟨_,_,_,fn,hf,hr⟩:=l1
  obtain⟨_,_,_,fn',hf',hr'⟩:=l2
  rw [hf] at hf';cases hf'
  rw [hr] at hr'
  injection hr'
 |succ k=>
  rw [hk] at h3
  have hs:=step_leave_returned (P:=P) (c:=deadFrame) (cs:=[]) l1
  simp only [runN,hs] at h3
  cases k with
  |zero=>
   simp only [runN,Stepped.next.injEq] at h3
   have:=congrArg (λm:Machine=>(m.gs[0]?).map (·.callers.length)) h3
   simp [lone] at this
  |succ k=>exact absurd h3 (kD k _)
theorem Gives.unique{P:Program}{f:FuncId}{args:Array Y2}{v v':Y2}(h:Gives P f args v)(h':Gives P f args v'):v=v':=by
 obtain⟨e1,w1,f1,⟨he1,_⟩,c1,_,l1⟩:=h default [deadFrame]
 obtain⟨e2,w2,f2,⟨he2,_⟩,c2,_,l2⟩:=h' default [deadFrame]
 subst he1;subst he2
 obtain⟨a,ha⟩:=c1
 obtain⟨b,hb⟩:=c2
 rcases Nat.le_total a b with hab|hab
 ·exact cm ha l1 hb l2 hab
 ·exact(cm hb l2 ha l1 hab).symm
inductive Kd where
 |f|l|a|s|n|g|m|r|bl|bad
 deriving DecidableEq
def kd:Op->Kd
 | .load ..| .convert ..=> .l
 | .alloc _| .box ..=> .a
 | .store ..=> .s
 | .move _| .assign _| .pick ..| .build ..| .binOp ..| .unOp ..| .fieldAddr ..| .field ..| .indexAddr ..| .index ..| .slice ..| .extract ..| .call _| .nilCheck _| .typeAssert ..| .makeInterface ..| .makeFunc ..=> .f
 |_=> .bad
def Yields(E:Env)(t:Nat->Y2)(o:Oper)(v:Y2):Prop:=
 ev E.P E.ro (execOp (rd t) o)=some (.value v)\/
 ∃f args,ev E.P E.ro (execOp (rd t) o)=some (.enter f args)/\Gives E.P f args v
theorem Yields.unique{E:Env}{t:Nat->Y2}{o:Oper}{v v':Y2}(h:Yields E t o v)(h':Yields E t o v'):v=v':=by
 rcases h with h|⟨f,args,h,hp⟩<;>rcases h' with h'|⟨f',args',h',hp'⟩<;>rw [h] at h'<;>simp only [Option.some.injEq,Next.value.injEq,Next.enter.injEq,reduceCtorEq] at h'
 ·exact h'
 ·obtain⟨rfl,rfl⟩:=h';exact hp.unique hp'
def Iu(P:Program)(c:TypeId)(b:Array Y2)(a:Nat):Y1 Y2:=
 match P.underlying c with
 |some (.struct _)|some (.array _ _)=>
  match P.info? c with
  |some i=>if a=0/\i.size=b.size then some (.agg b)else if a+i.size<=b.size then some (.agg (b.extract a (a+i.size)))else none
  |none=>none
 |some _=>b[a]?
 |none=>none
def cellA(E:Env)(b:Nat->Y1 (TypeId×Array Y2))(c:Nat->Y3)(a:Addr):Y1 Y2:=
 match b a.block with
 |some (_,cs)=>if c a.block||a.spot.isSome then none else cs[a.off]?
 |none=>if a.block<E.base then E.ro a else none
def loadOf(E:Env)(s:St)(o:Oper):Y1 Y2:=
 match ev E.P (cellA E s.own s.nw) (execOp (rd s.t) o)with
 |some (.value v)=>some v
 |_=>none
def Jw(E:Env)(b:Nat->Y1 (TypeId×Array Y2))(c:Nat->Y3)(a:Addr):Y1 Y2:=if a.block∈E.hid then none else cellA E b c a
def loadH(E:Env)(s:St)(o:Oper):Y1 Y2:=
 match ev E.P (Jw E s.own s.nw) (execOp (rd s.t) o)with
 |some (.value v)=>some v
 |_=>none
theorem tv{E:Env}{own:Nat->Y1 (TypeId×Array Y2)}{nw:Nat->Y3}{a:Addr}{v:Y2}(h:Jw E own nw a=some v):cellA E own nw a=some v:=by
 unfold Jw at h;split at h
 ·cases h
 ·exact h
abbrev OBJ:Nat:=1000000000
def allocOf(P:Program)(t:Nat->Y2)(o:Oper):Y1 (TypeId×Array Y2):=
 match o.op with
 | .alloc e=>if decide (e<OBJ)=true then((P.info? e).bind (·.zero)).map λz=>(e,z.cells)else none
 | .box e x=>if decide (e<OBJ)=true then some (e,(rd t x).cells)else none
 |_=>none
theorem gD{P:Program}{t:Nat->Y2}{o:Oper}{x:TypeId×Array Y2}(h:allocOf P t o=some x):decide (x.1<OBJ)=true:=by
 unfold allocOf at h
 split at h
 ·split at h
  ·rename_i e _ he
   cases hi:(P.info? e).bind (·.zero)with
   |none=>rw [hi] at h;cases h
   |some z=>rw [hi] at h;cases h;exact he
  ·cases h
 ·split at h
  ·rename_i he
   cases h;exact he
  ·cases h
 ·cases h
def Jc(c:Array Y2)(a:Nat)(b:Array Y2):Array Y2:=
 if a=0/\b.size=c.size then b
 else if b.size=1 then c.setIfInBounds a (b.getD 0 undef)
 else(c.toList.take a++b.toList++c.toList.drop (a+b.size)).toArray
def StoreAtA(P:Program)(a:Nat->Y1 (TypeId×Array Y2))(c:TypeId)(p v:Y2)(b:Nat)(y:TypeId×Array Y2):Prop:=
 ∃off T cs i,p= .pointer (some ⟨b,off,none⟩)/\a b=some (T,cs)/\P.info? c=some i/\v.cells.size=i.size/\off+v.cells.size<=cs.size/\
  (∀x∈v.cells,x.oneCell'=true)/\y=(T,Jc cs off v.cells)
theorem StoreAtA.unique{P:Program}{own:Nat->Y1 (TypeId×Array Y2)}{ty:TypeId}{p v:Y2}{b b':Nat}{y y':TypeId×Array Y2}(h:StoreAtA P own ty p v b y)(h':StoreAtA P own ty p v b' y'):b=b'/\y=y':=by
 obtain⟨off,T,cs,i,h1,h2,_,_,_,_,h3⟩:=h
 obtain⟨off',T',cs',i',h1',h2',_,_,_,_,h3'⟩:=h'
 rw [h1] at h1'
 simp only [Value.pointer.injEq,Option.some.injEq,Addr.mk.injEq,and_true] at h1'
 obtain⟨rfl,rfl⟩:=h1'
 rw [h2] at h2'
 simp only [Option.some.injEq,Prod.mk.injEq] at h2'
 obtain⟨rfl,rfl⟩:=h2'
 exact⟨Z,by rw [h3,h3']⟩
def Ac8(E:Env)(s:St)(o:Oper)(b:Nat)(y:TypeId×Array Y2):Prop:=
 match o.op with
 | .store ty p x=>StoreAtA E.P s.own ty (rd s.t p) (rd s.t x) b y
 |_=>False
def Wd(b:Array Oper)(o:Oper):Y3:=
 match o.op with
 | .store _ (.tmp k) _=>b.toList.any λx=>kd x.op== .a&&x.dst==some k
 |_=>false
def kdg(g:Y3)(a:Array Oper)(o:Oper):Kd:=if(g&&Wd a o)=true then .n else kd o.op
def isSel:Op->Y3
 | .select ..=>true
 |_=>false
abbrev HM:Tmp:=1000000000
def wK(x:Y1 Tmp×Y3):Y3:=match x.1 with|some k=>x.2&&decide (HM<=k)|none=>false
def hmk(a:Y0 (Y1 Tmp×Y3)):Y3:=a.any wK
def goodk(a:Y0 (Y1 Tmp×Y3))(d:Y1 Tmp):Y3:=a.any λx=>x.2&&x.1==some (HM+match d with|some k=>k+1|none=>0)
def yl(d:Y1 Tmp)(x:Y1 Tmp×Y3):Y3:= !x.2&&x.1==some (HM+match d with|some k=>k+1|none=>0)
def bD(a:Y0 (Y1 Tmp×Y3))(d:Y1 Tmp):Y3:=a.any (yl d)
def kg(o:Oper):Y3:=kd o.op== .l
def kdo(a:Y0 (Y1 Tmp×Y3))(g:Y3)(b:Array Oper)(o:Oper):Kd:=
 match a.find? (λx=>x.1==o.dst)with
 |some x=>if isSel o.op then .bad else if x.2 then .m else .g
 |none=>if bD a o.dst=true then(if isSel o.op then .bad else .bl)else if(kg o&&hmk a)=true then .r else kdg g b o
theorem ye{ks:Y0 (Y1 Tmp×Y3)}{g:Y3}{ops:Array Oper}{o:Oper}(h:kdo ks g ops o= .r):hmk ks=true/\kd o.op= .l:=by
 unfold kdo at h
 split at h
 ·split at h
  ·cases h
  ·split at h<;>cases h
 ·split at h
  ·split at h<;>cases h
  split at h
  ·rename_i h1
   simp only [Bool.and_eq_true,kg,beq_iff_eq] at h1
   exact⟨h1.2,h1.1⟩
  ·unfold kdg at h
   split at h
   ·cases h
   ·cases ho:o.op<;>rw [ho] at h<;>simp [kd] at h
theorem yg{g:Y3}{ops:Array Oper}{o:Oper}(h:kdg g ops o= .n):kd o.op= .s:=by
 unfold kdg at h
 split at h
 ·rename_i h1
  simp only [Bool.and_eq_true] at h1
  have:=h1.2
  unfold Wd at this
  split at this
  ·rename_i ho;rw [ho];rfl
  ·cases this
 ·cases ho:o.op<;>rw [ho] at h<;>simp [kd] at h
theorem wI{g:Y3}{ops:Array Oper}{o:Oper}{k:Kd}(h:kd o.op=k)(hk:k≠ .s):kdg g ops o=k:=by
 unfold kdg
 split
 ·rename_i h1
  simp only [Bool.and_eq_true] at h1
  have h2:=h1.2
  unfold Wd at h2
  split at h2
  ·rename_i ho;rw [ho] at h;exact absurd h.symm hk
  ·cases h2
 ·exact h
theorem wH{g:Y3}{ops:Array Oper}{o:Oper}{k:Kd}(h:kdg g ops o=k)(hk:k≠ .n):kd o.op=k:=by
 unfold kdg at h
 split at h
 ·exact absurd h.symm hk
 ·exact h
theorem vh{ks:Y0 (Y1 Tmp×Y3)}{g:Y3}{ops:Array Oper}{o:Oper}(h:kdo ks g ops o= .n):kd o.op= .s:=by
 unfold kdo at h
 split at h
 ·split at h
  ·cases h
  ·split at h<;>cases h
 ·split at h
  ·split at h<;>cases h
  split at h
  ·cases h
  ·exact yg h
abbrev Qn(o:Oper)(x:Y1 Tmp×Y3):Y3:=x.1==o.dst||(kg o&&wK x)||yl o.dst x
def JA(a:Y0 (Y1 Tmp×Y3))(o:Oper):Prop:=a.find? (Qn o)=none
theorem Zh{ks:Y0 (Y1 Tmp×Y3)}{g:Y3}{ops:Array Oper}{o:Oper}(h:JA ks o):kdo ks g ops o=kdg g ops o:=by
 have h0:=List.find?_eq_none.1 h
 have h1:ks.find? (λx=>x.1==o.dst)=none:=List.find?_eq_none.2 λx hx hc=>h0 x hx (by simp only [Qn,hc,Bool.true_or])
 have h3:bD ks o.dst=false:=by
  cases hb:bD ks o.dst with
  |false=>rfl
  |true=>
   obtain⟨x,hx,he⟩:=List.any_eq_true.1 hb
   exact absurd (show Qn o x=true by simp only [Qn,he,Bool.or_true]) (h0 x hx)
 have h2:(kg o&&hmk ks)=false:=by
  cases hl:kg o with
  |false=>rfl
  |true=>
   cases hh:hmk ks with
   |false=>rfl
   |true=>
    obtain⟨x,hx,he⟩:=List.any_eq_true.1 hh
    exact absurd (show Qn o x=true by simp only [Qn,hl,he,Bool.and_self,Bool.or_true,Bool.true_or]) (h0 x hx)
 unfold kdo;rw [h1,h2,h3];rfl
def gE(a:Y0 (Y1 Tmp×Y3))(o:Oper):Prop:=((a.find? (λx=>x.1==o.dst)).isNone&&(kg o&&hmk a)&& !bD a o.dst)=true
theorem yf{ks:Y0 (Y1 Tmp×Y3)}{g:Y3}{ops:Array Oper}{o:Oper}(h:gE ks o):kdo ks g ops o= .r:=by
 unfold gE at h
 simp only [Bool.and_eq_true,Option.isNone_iff_eq_none,Bool.not_eq_true'] at h
 unfold kdo
 rw [h.1.1]
 simp only [h.2,h.1.2.1,h.1.2.2,Bool.and_self,if_true,Bool.false_eq_true,if_false]
theorem Of{ks:Y0 (Y1 Tmp×Y3)}{g:Y3}{ops:Array Oper}{o:Oper}{k:Kd}(hp:JA ks o)(h:kd o.op=k)(hk:k≠ .s):kdo ks g ops o=k:=by
 rw [Zh hp];exact wI h hk
theorem wG{ks:Y0 (Y1 Tmp×Y3)}{g:Y3}{ops:Array Oper}{o:Oper}{k:Kd}(h:kdo ks g ops o=k)(hk:k≠ .n)(hg:k≠ .g)(hm:k≠ .m)(hr:k≠ .r)(hb:k≠ .bad)(hq:k≠ .bl):kd o.op=k:=by
 unfold kdo at h
 split at h
 ·split at h
  ·exact absurd h.symm hb
  ·split at h
   ·exact absurd h.symm hm
   ·exact absurd h.symm hg
 ·split at h
  ·split at h
   ·exact absurd h.symm hb
   ·exact absurd h.symm hq
  split at h
  ·exact absurd h.symm hr
  ·exact wH h hk
theorem ay{ks:Y0 (Y1 Tmp×Y3)}{g:Y3}{ops:Array Oper}{o:Oper}(h:kdo ks g ops o= .g\/kdo ks g ops o= .m\/kdo ks g ops o= .bl)(cs)(b):o.op≠ .select cs b:=by
 intro e
 unfold kdo at h
 split at h
 ·simp [isSel,e] at h
 ·split at h
  ·simp [isSel,e] at h
  split at h
  ·rcases h with h|h|h<;>cases h
  ·unfold kdg at h
   split at h
   ·rcases h with h|h|h<;>cases h
   ·rw [e] at h;rcases h with h|h|h<;>cases h
def Ee(a:Array Oper)(t:Nat->Y2)(j:Nat):Y1 Y3:=
 match((a[j]?).bind (·.dst)).map t with
 |some (.bool b)=>some b
 |_=>none
abbrev Pst:=Y2->Y0 Bl->Y0 Bl->Prop
inductive Fx where
 |val (v:Y2)
 |new (x:TypeId×Array Y2)
 |sto (b:Nat) (y:TypeId×Array Y2)
 |gen (p:Pst)
def FrOk(b:Array Y2)(a:Nat×Nat):Prop:=a=(0,0)\/b.size<=a.1
def Sm:W2->Nat
 | []=>0
 |x::r=>1+x.toNat+256*Sm r
theorem Zn: ∀{l m:W2},Sm l=Sm m->l=m
 | [],[],_=>rfl
 | [],y::s,h=>by rw [Sm,Sm] at h;omega
 |x::r,[],h=>by rw [Sm,Sm] at h;omega
 |x::r,y::s,h=>by
  rw [Sm,Sm] at h
  have hx:=x.toNat_lt;have hy:=y.toNat_lt
  have h1:x=y:=UInt8.toNat_inj.mp (by omega)
  have h2:r=s:=Zn (by omega)
  rw [h1,h2]
def ie(a b:Nat):Nat:=(a+b)*(a+b)+a
theorem jV{a b c d:Nat}(h:ie a b=ie c d):a=c/\b=d:=by
 unfold ie at h
 have key: ∀{m n a c:Nat},a<=m->c<=n->m*m+a=n*n+c->m=n:=λ{m n a c} ha hc h=>by
  rcases Nat.lt_trichotomy m n with hl|hl|hl
  ·have h1:(m+1)*(m+1)<=n*n:=Nat.mul_le_mul hl hl
   have h2:(m+1)*(m+1)=m*m+2*m+1:=by rw [Nat.add_mul,Nat.mul_add];omega
   omega
  ·exact hl
  ·have h1:(n+1)*(n+1)<=m*m:=Nat.mul_le_mul hl hl
   have h2:(n+1)*(n+1)=n*n+2*n+1:=by rw [Nat.add_mul,Nat.mul_add];omega
   omega
 have e:=key (Nat.le_add_right a b) (Nat.le_add_right c d) h
 rw [e] at h
 omega
theorem gc: ∃f:W2->Nat->Nat,(∀s p,OBJ<f s p)/\ ∀s p s' p',f s p=f s' p'->s=s'/\p=p':=
 ⟨λs p=>OBJ+1+ie (Sm s) p,λs p=>j4 (Nat.lt_succ_self OBJ) (Nat.le_add_right _ _),λs p s' p' h=>by
  obtain⟨h1,h2⟩:=jV (Nat.add_left_cancel h)
  exact⟨Zn h1,h2⟩⟩
noncomputable def itT:W2->Nat->TypeId:=Classical.choose gc
theorem mT(s:W2)(p:Nat):OBJ<itT s p:=(Classical.choose_spec gc).1 s p
theorem mU(s:W2)(p:Nat):OBJ<=itT s p:=Nat.le_of_lt (mT s p)
abbrev Xe:TypeId:=OBJ
theorem sQ{s s':W2}{p p':Nat}(h:itT s p=itT s' p'):s=s'/\p=p':=(Classical.choose_spec gc).2 s p s' p' h
def vr(w:World)(b:Nat)(T:TypeId)(a:Array Y2):Prop:= ∃fr,w.heap[b]? =some (.cells a T fr)/\FrOk a fr
def Holds(w:World)(b:Nat)(T:TypeId)(a:Array Y2):Prop:=(T<OBJ/\vr w b T a)\/(a= #[]/\ ∃s p,T=itT s p/\w.heap[b]? =some (.stringIter ⟨⟨s⟩⟩ p))\/(a= #[]/\T=Xe/\b<w.heap.size)
theorem Holds.of{w:World}{b:Nat}{T:TypeId}{cs:Array Y2}(hT:decide (T<OBJ)=true)(h:w.heap[b]? =some (.cells cs T (0,0))):Holds w b T cs:= .inl ⟨zj hT,_,h, .inl Z⟩
theorem Holds.dead{w:World}{b:Nat}(h:b<w.heap.size):Holds w b Xe #[]:= .inr (.inr ⟨Z,Z,h⟩)
theorem Holds.cells{w:World}{b:Nat}{T:TypeId}{cs:Array Y2}(h:Holds w b T cs)(hT:decide (T<OBJ)=true):vr w b T cs:=by
 rcases h with h|⟨_,s,p,rfl,_⟩|⟨_,rfl,_⟩
 ·exact h.2
 ·exact absurd (zj hT) (Nat.not_lt.mpr (mU s p))
 ·exact absurd (zj hT) (Nat.lt_irrefl _)
theorem Holds.iter{w:World}{b:Nat}{s:W2}{p:Nat}{cs:Array Y2}(h:Holds w b (itT s p) cs):w.heap[b]? =some (.stringIter ⟨⟨s⟩⟩ p):=by
 rcases h with h|⟨_,s',p',h1,h2⟩|⟨_,h1,_⟩
 ·exact absurd h.1 (Nat.not_lt.mpr (mU s p))
 ·obtain⟨rfl,rfl⟩:=sQ h1;exact h2
 ·have h2:=mT s p
  rw [h1] at h2
  exact absurd h2 (Nat.lt_irrefl _)
theorem Holds.ofIter{w:World}{b:Nat}{s:W2}{p:Nat}(h:w.heap[b]? =some (.stringIter ⟨⟨s⟩⟩ p)):Holds w b (itT s p) #[]:= .inr (.inl ⟨Z,s,p,Z,h⟩)
theorem Holds.lt{w:World}{b:Nat}{T:TypeId}{cs:Array Y2}(h:Holds w b T cs):b<w.heap.size:=by
 rcases h with⟨_,_,h,_⟩|⟨_,_,_,_,h⟩|⟨_,_,h⟩
 ·exact(Array.getElem?_eq_some_iff.1 h).1
 ·exact(Array.getElem?_eq_some_iff.1 h).1
 ·exact h
theorem fK{w w':World}{b:Nat}(h:b<w.heap.size)(e:w'.heap[b]? =w.heap[b]?):b<w'.heap.size:=by
 rw [Array.getElem?_eq_getElem h] at e
 exact(Array.getElem?_eq_some_iff.1 e).1
theorem Holds.heap{w w':World}{b:Nat}{T:TypeId}{cs:Array Y2}(h:Holds w b T cs)(e:w'.heap[b]? =w.heap[b]?):Holds w' b T cs:=by
 rcases h with⟨h0,fr,h1,h2⟩|⟨h0,s,p,h1,h2⟩|⟨h0,h1,h2⟩
 ·exact .inl ⟨h0,fr,e.trans h1,h2⟩
 ·exact .inr (.inl ⟨h0,s,p,h1,e.trans h2⟩)
 ·exact .inr (.inr ⟨h0,h1,fK h2 e⟩)
theorem UE(w:World)(b:Nat)(cs:Array Y2){s:ByteArray}{p:Nat}(h:w.heap[b]? =some (.stringIter s p)):w.setRow b cs=w:=by
 have hlt:b<w.heap.size:=(Array.getElem?_eq_some_iff.1 h).1
 have hv:w.heap[b]= .stringIter s p:=(Array.getElem?_eq_some_iff.1 h).2
 have e:(w.setRow b cs).heap=w.heap:=by
  apply Array.ext_getElem?
  intro k
  by_cases hk:k=b
  ·subst hk
   unfold World.setRow
   rw [Array.getElem?_eq_getElem (by simpa using hlt),Array.getElem_modify,Array.getElem?_eq_getElem hlt]
   simp [hv]
  ·exact setRow_other w b k cs hk
 cases w
 simp only [World.setRow] at e ⊢
 simp only [e]
theorem Holds.setRow{w:World}{b:Nat}{T:TypeId}{cs:Array Y2}(h:Holds w b T cs)(cs':Array Y2)(hs:cs'.size=cs.size):Holds (w.setRow b cs') b T cs':=by
 rcases h with⟨h0,fr,h1,h2⟩|⟨rfl,s,p,h1,h2⟩|⟨rfl,h1,h2⟩
 ·exact .inl ⟨h0,fr,setRow_heap w b cs _ T _ h1,by unfold FrOk at*;rw [hs];exact h2⟩
 ·rw [UE w b cs' h2]
  exact .inr (.inl ⟨Array.eq_empty_of_size_eq_zero hs,s,p,h1,h2⟩)
 ·exact .inr (.inr ⟨Array.eq_empty_of_size_eq_zero hs,h1,by simpa using h2⟩)
theorem FrOk.at{cs:Array Y2}{fr:Nat×Nat}(h:FrOk cs fr){k:Nat}(hk:k<cs.size): ¬(fr.1<=k/\k<fr.2):=by
 rintro⟨h1,h2⟩
 rcases h with rfl|h
 ·simp at h2
 ·omega
theorem OI(P:Program)(g o:Nat)(t:TypeId)(fz:Nat×Nat): ∀(vs:Y0 Y2) (i:Nat) (cur:Array Y2) (w:World),w.heap[g]? =some (.cells cur t fz)->FrOk cur fz->o+i+vs.length<=cur.size->(∀v∈vs,v.oneCell'=true)->
  (storeCells ⟨g,o,none⟩ vs i).run P w= .ok () (w.setRow g (cur.toList.take (o+i)++vs++cur.toList.drop (o+i+vs.length)).toArray)
 | [],i,cur,w,hg,_,_,_=>by
  simp only [storeCells,List.append_nil,zp,Nat.add_zero,j3,Array.toArray_toList]
  rw [setRow_self w g cur t fz hg]
  rfl
 |v::Sw,i,cur,w,hg,hfz,hl,h1=>by
  have hi:o+i<cur.size:=by simp only [zg] at hl;omega
  have hadd:(⟨g,o,none⟩:Addr).add i=⟨g,o+i,none⟩:=by unfold Addr.add;split<;>simp_all
  have hcell:w.cell? ⟨g,o+i,none⟩=some cur[o+i]:=by simp [World.cell?,hg,hi]
  have hfro:w.frozen? ⟨g,o+i,none⟩=false:=by
   have:=hfz.at hi
   obtain⟨lo,hi'⟩:=fz
   simp only [World.frozen?,hg,Bool.and_eq_false_iff,decide_eq_false_iff_not]
   simp only at this
   omega
  have hst:(store ((⟨g,o,none⟩:Addr).add i) v).run P w= .ok () (w.setRow g (cur.setIfInBounds (o+i) v)):=by
   rw [hadd,run_store P w _ v _ (h1 v (by simp)),hcell]
   simp [hfro,setCell_eq_setRow w g (o+i) cur t fz v hg]
  have ih:=OI P g o t fz Sw (i+1) (cur.setIfInBounds (o+i) v) (w.setRow g (cur.setIfInBounds (o+i) v)) (setRow_heap w g cur _ t _ hg) (by unfold FrOk at*;simpa using hfz) (by simp only [zg] at hl;simp only [Array.size_setIfInBounds];omega) (λx hx=>h1 x (by simp [hx]))
  simp only [storeCells,Sem.run_bind,hst,Result.andThen_ok,ih,setRow_setRow]
  congr 3
  have e:=list_seg_step cur.toList (o+i) v Sw (by simp only [zg] at hl;simp only [Array.length_toList];omega)
  simpa [Array.toList_setIfInBounds,Nat.add_assoc] using e
theorem Holds.store{w:World}{b:Nat}{T:TypeId}{cs:Array Y2}(h:Holds w b T cs)(hd:T≠Xe)(P:Program)(off:Nat)(vs:Y0 Y2)(hl:off+vs.length<=cs.size)(h1: ∀v∈vs,v.oneCell'=true):
  (storeCells ⟨b,off,none⟩ vs 0).run P w= .ok () (w.setRow b (cs.toList.take off++vs++cs.toList.drop (off+vs.length)).toArray):=by
 rcases h with⟨_,fr,h2,h3⟩|⟨rfl,s,p,_,h2⟩|⟨_,h2,_⟩
 ·have:=OI P b off T fr vs 0 cs w h2 h3 hl h1
  simpa using this
 ·have hv:vs=[]:=List.eq_nil_of_length_eq_zero (by have h9:off+vs.length<=0:=hl;omega)
  subst hv
  rw [UE w b _ h2]
  rfl
 ·exact absurd h2 hd
structure ExtW(w w':World)(L U:Y0 Bl):Prop where
 os:w'.os=w.os
 tape:w'.tape=w.tape
 output:w'.output=w.output
 size:w.heap.size<=w'.heap.size
 same: ∀k,k<w.heap.size->(∀x∈U,x.1≠k)->w'.heap[k]? =w.heap[k]?
 upd: ∀x∈U,Holds w' x.1 x.2.1 x.2.2
 new: ∀x∈L,w.heap.size<=x.1/\Holds w' x.1 x.2.1 x.2.2
 drawn:w.drawn<=w'.drawn
def GenRun(P:Program)(ρ:Operand->Y2)(o:Oper)(w:World)(p:Pst):Prop:=
 (∃v a L U,(execOp ρ o).run P w= .ok (.value v) a/\ExtW w a L U/\p v L U)\/
 ∃f args,(execOp ρ o).run P w= .ok (.enter f args) w/\Calls P f args w λe a=> ∃v L U,e= .returned v/\ExtW w a L U/\p v L U
def yS(o:Oper):Y3:=match o.op with
 | .call ⟨.value _,_,_⟩=>true
 | .call ⟨.invoke _ _,_,_⟩=>true
 |_=>false
def vwk(a:Y0 (Y1 Tmp×Y3)):Y3:=a.any λx=>x.1==some 4294967295
def fnk(a:Y0 (Y1 Tmp×Y3))(o:Oper):Y3:=yS o&& !vwk a
def uX(a:Y0 (Y1 Tmp×Y3))(o:Oper)(c:Addr->Y1 Y2):Addr->Y1 Y2:=match fnk a o with
 |true=>λ_=>none
 |false=>c
def Ab6(E:Env)(s:St)(o:Oper):Pst:=E.con o (o.op.operands.toList.map (rd s.t)) (uX E.ks o (cellA E s.own s.nw))
structure GenOk(E:Env)(dr:Y3)(s:St)(o:Oper)(mu:Y3):Prop where
 wit:dr=true-> ∀k,∃v L U,Ab6 E s o v L U/\ ∀x∈L,k<x.1
 nod: ∀v L U,Ab6 E s o v L U->(L.map (·.1)).Nodup/\(U.map (·.1)).Nodup
 upO: ∀v L U,Ab6 E s o v L U-> ∀x∈U,(∃y,s.own x.1=Option.some y)/\s.nw x.1=false
 pur:mu=false-> ∀v L U,Ab6 E s o v L U->U=[]
 run: ∀w,E.base<=w.heap.size/\E.inv w->(∀a v,cellA E s.own s.nw a=Option.some v->w.cell? a=Option.some v)->(∀b y,s.own b=Option.some y->s.nw b=false->Holds w b y.1 y.2)->GenRun E.P (rd s.t) o w (Ab6 E s o)
def over(L:Y0 Bl)(a:Nat->Y1 (TypeId×Array Y2)):Nat->Y1 (TypeId×Array Y2):=
 λb=>match L.find? (λx=>x.1==b)with|some x=>some x.2|none=>a b
def seen(L:Y0 Bl)(a:Nat->Y3):Nat->Y3:=λb=>if L.any (λx=>x.1==b)then false else a b
abbrev blS(s:St):St:=⟨s.t,λ_=>none,λ_=>false⟩
def Aa9(E:Env)(g:Y3)(c:Array Oper)(o:Oper)(s:St)(e:Fx):Prop:=
 if Region.wanted o (Ee c s.t)then
  match kdo E.ks g c o with
  | .f=> ∃v,Yields E s.t o v/\e= .val v
  | .l=> ∃v,loadOf E s o=some v/\e= .val v
  | .a=> ∃x,allocOf E.P s.t o=some x/\e= .new x
  | .s=> ∃b y,Ac8 E s o b y/\(goodk E.ks o.dst=true->b∈E.hid)/\e= .sto b y
  | .n=> ∃b y,Ac8 E s o b y/\s.nw b=true/\e= .sto b y
  | .g=>GenOk E g s o false/\e= .gen (Ab6 E s o)
  | .m=>GenOk E g s o true/\e= .gen (Ab6 E s o)
  | .r=> ∃v,loadH E s o=some v/\e= .val v
  | .bl=>GenOk E g (blS s) o false/\e= .gen (Ab6 E (blS s) o)
  | .bad=>False
 else e= .val undef
def Do(E:Env)(g:Y3)(o:Oper)(s:St):Fx->St->Prop
 | .val v,s'=>s'={s with t:=putT s.t o.dst v}
 | .new x,s'=> ∃r,E.base<=r/\s.own r=none/\s'={t:=putT s.t o.dst (.pointer (some ⟨r,0,none⟩)),own:=upd s.own r (some x),nw:=if g then upd s.nw r true else s.nw}
 | .sto b y,s'=>s'={s with t:=putT s.t o.dst undef,own:=upd s.own b (some y)}
 | .gen p,s'=> ∃v L U,p v L U/\(∀x∈L,E.base<=x.1/\s.own x.1=none)/\s'={t:=putT s.t o.dst v,own:=over L (over U s.own),nw:=seen L s.nw}
def OkW(E:Env)(g:Y3)(a:Array Oper)(o:Oper)(s:St):Prop:=(∀d,o.dst=some d->d<E.n)/\ ∃e,Aa9 E g a o s e
def NxW(E:Env)(g:Y3)(a:Array Oper)(o:Oper)(s b:St):Prop:= ∃e,Aa9 E g a o s e/\Do E g o s e b
theorem Ac8.unique{E:Env}{s:St}{o:Oper}{b b':Nat}{y y':TypeId×Array Y2}(h:Ac8 E s o b y)(h':Ac8 E s o b' y'):b=b'/\y=y':=by
 unfold Ac8 at*
 split at h
 ·rename_i ho;simp only [ho] at h';exact StoreAtA.unique h h'
 ·exact h.elim
theorem Aa9.unique{E:Env}{g:Y3}{ops:Array Oper}{o:Oper}{s:St}{e e':Fx}(h:Aa9 E g ops o s e)(h':Aa9 E g ops o s e'):e=e':=by
 unfold Aa9 at*
 split at h
 ·rename_i hw
  rw [V8 hw] at h'
  cases hk:kdo E.ks g ops o<;>simp only [hk] at h h'
  ·obtain⟨v,h1,rfl⟩:=h;obtain⟨v',h1',rfl⟩:=h';rw [h1.unique h1']
  ·obtain⟨v,h1,rfl⟩:=h;obtain⟨v',h1',rfl⟩:=h';rw [h1] at h1';cases h1';rfl
  ·obtain⟨v,h1,rfl⟩:=h;obtain⟨v',h1',rfl⟩:=h';rw [h1] at h1';cases h1';rfl
  ·obtain⟨b,y,h1,_,rfl⟩:=h;obtain⟨b',y',h1',_,rfl⟩:=h';obtain⟨rfl,rfl⟩:=h1.unique h1';rfl
  ·obtain⟨b,y,h1,_,rfl⟩:=h;obtain⟨b',y',h1',_,rfl⟩:=h';obtain⟨rfl,rfl⟩:=h1.unique h1';rfl
  ·rw [h.2,h'.2]
  ·rw [h.2,h'.2]
  ·obtain⟨v,h1,rfl⟩:=h;obtain⟨v',h1',rfl⟩:=h';rw [h1] at h1';cases h1';rfl
  ·rw [h.2,h'.2]
 ·rename_i hw;rw [V9 hw] at h';rw [h,h']
def lexK(E:Env)(g:Y3)(a:Array Oper)(Q:St->Prop):Y0 Oper->St->Prop
 | [],s=>Q s
 |o::r,s=> ∃(ks:Y0 (Y1 Tmp×Y3)) (con:Con),(g=true->ks=E.ks/\con=E.con)/\OkW {E with ks:=ks,con:=con} g a o s/\ ∀s',NxW {E with ks:=ks,con:=con} g a o s s'->lexK E g a Q r s'
theorem Ue{E:Env}{g:Y3}{ops:Array Oper}{Q Q':St->Prop}(h: ∀s,Q s->Q' s): ∀(r:Y0 Oper) (s:St),lexK E g ops Q r s->lexK E g ops Q' r s
 | [],_,hq=>h _ hq
 |_::r,_,⟨k,c,e,h1,h2⟩=>⟨k,c,e,h1,λs' hn=>Ue h r s' (h2 s' hn)⟩
theorem aw{E:Env}{ops:Array Oper}{Q:St->Prop}(ks ks':Y0 (Y1 Tmp×Y3))(con con':Con): ∀(r:Y0 Oper) (s:St),lexK {E with ks:=ks,con:=con} false ops Q r s->lexK {E with ks:=ks',con:=con'} false ops Q r s
 | [],_,h=>h
 |_::r,_,⟨k,c,_,h1,h2⟩=>⟨k,c,λh=>(nomatch h),h1,λs' hn=>aw ks ks' con con' r s' (h2 s' hn)⟩
theorem jS(t:Nat->Y2){d e:Y1 Tmp}(v u:Y2)(h: ∀k,d=some k->e≠some k):putT (putT t d v) e u=putT (putT t e u) d v:=by
 cases d with
 |none=>rfl
 |some k=>
  cases e with
  |none=>rfl
  |some l=>exact QU t v u (λhkl=>h k Z (by rw [hkl]))
def Uz(a:Array Oper)(o:Oper)(d:Y1 Tmp):Prop:= ∀k,d=some k->k ∉ o.looksAt a
theorem Qm{ops:Array Oper}{o:Oper}{d:Y1 Tmp}(h:Uz ops o d)(t:Nat->Y2)(v:Y2): ∀x∈o.op.operands,rd (putT t d v) x=rd t x:=by
 intro x hx
 cases d with
 |none=>rfl
 |some k=>
  cases x with
  |tmp j=>
   have:j≠k:=by
    intro e;subst e
    exact h j Z (by unfold Oper.looksAt;exact List.mem_append_left _ (List.mem_filterMap.2 ⟨.tmp j,by simpa using hx,Z⟩))
   simp [rd,putT,upd,this]
  |_=>rfl
theorem ZK{ops:Array Oper}{o:Oper}{d:Y1 Tmp}(h:Uz ops o d)(t:Nat->Y2)(v:Y2):
  Region.wanted o (Ee ops (putT t d v))=Region.wanted o (Ee ops t):=by
 cases d with
 |none=>rfl
 |some k=>
  unfold Region.wanted
  cases hg:o.guard with
  |none=>rfl
  |some gw=>
   obtain⟨g,want⟩:=gw
   have hy:Ee ops (putT t (some k) v) g=Ee ops t g:=by
    unfold Ee
    cases ht:(ops[g]?).bind (·.dst)with
    |none=>rfl
    |some j=>
     have hne:j≠k:=λe=>h k Z (by subst e;simp [Oper.looksAt,hg,ht])
     simp [putT,upd,hne]
   simp only [hy]
theorem Uf{o:Oper}(h:kd o.op≠ .bad): ∀cs b,o.op≠ .select cs b:=by
 intro cs b e;rw [e] at h;exact h Z
theorem eW{E:Env}{ops:Array Oper}{o:Oper}{d:Y1 Tmp}(hk:kd o.op≠ .bad)(h:Uz ops o d)(t:Nat->Y2)(u v:Y2):
  Yields E (putT t d u) o v↔Yields E t o v:=by
 unfold Yields
 rw [execOp_congr o (Uf hk) (Qm h t u)]
theorem bI{P:Program}{ops:Array Oper}{o:Oper}{d:Y1 Tmp}(h:Uz ops o d)(t:Nat->Y2)(u:Y2):allocOf P (putT t d u) o=allocOf P t o:=by
 have:=Qm h t u
 unfold allocOf
 split
 ·rfl
 ·rename_i e x ho;rw [this x (by simp [ho,Op.operands])]
 ·rfl
theorem cI{E:Env}{ops:Array Oper}{o:Oper}{d:Y1 Tmp}(hk:kd o.op≠ .bad)(h:Uz ops o d)(s:St)(u:Y2):loadOf E {s with t:=putT s.t d u} o=loadOf E s o:=by
 unfold loadOf
 rw [execOp_congr o (Uf hk) (Qm h s.t u)]
theorem fL{E:Env}{ops:Array Oper}{o:Oper}{d:Y1 Tmp}(hk:kd o.op≠ .bad)(h:Uz ops o d)(s:St)(u:Y2):loadH E {s with t:=putT s.t d u} o=loadH E s o:=by
 unfold loadH
 rw [execOp_congr o (Uf hk) (Qm h s.t u)]
theorem TL{E:Env}{ops:Array Oper}{o:Oper}{d:Y1 Tmp}(h:Uz ops o d)(s:St)(u:Y2)(b:Nat)(y:TypeId×Array Y2):
  Ac8 E {s with t:=putT s.t d u} o b y↔Ac8 E s o b y:=by
 have:=Qm h s.t u
 unfold Ac8
 split
 ·rename_i ty p x ho
  rw [this p (by simp [ho,Op.operands]),this x (by simp [ho,Op.operands])]
 ·rfl
theorem args_putT{ops:Array Oper}{o:Oper}{d:Y1 Tmp}(h:Uz ops o d)(t:Nat->Y2)(u:Y2):o.op.operands.toList.map (rd (putT t d u))=o.op.operands.toList.map (rd t):=
 List.map_congr_left λx hx=>Qm h t u x (by simpa using hx)
theorem QF{E:Env}{ops:Array Oper}{o:Oper}{d:Y1 Tmp}(h:Uz ops o d)(s:St)(u:Y2):Ab6 E {s with t:=putT s.t d u} o=Ab6 E s o:=by
 unfold Ab6;rw [show({s with t:=putT s.t d u}:St).t=putT s.t d u from rfl,args_putT h]
theorem SO{E:Env}{dr:Y3}{ops:Array Oper}{o:Oper}{d:Y1 Tmp}(hs: ∀cs b,o.op≠ .select cs b)(h:Uz ops o d)(s:St)(u:Y2)(m:Y3):GenOk E dr {s with t:=putT s.t d u} o m↔GenOk E dr s o m:=by
 have e1:=QF (E:=E) h s u
 have e2:execOp (rd (putT s.t d u)) o=execOp (rd s.t) o:=execOp_congr o hs (Qm h s.t u)
 constructor
 ·intro g
  exact⟨by rw [<-e1];exact g.wit,by rw [<-e1];exact g.nod,by rw [<-e1];exact g.upO,by rw [<-e1];exact g.pur,λw hb hc ho=>by
   have:=g.run w hb hc ho;rw [e1] at this;unfold GenRun at*;rw [<-e2];exact this⟩
 ·intro g
  exact⟨by rw [e1];exact g.wit,by rw [e1];exact g.nod,by rw [e1];exact g.upO,by rw [e1];exact g.pur,λw hb hc ho=>by
   have:=g.run w hb hc ho;rw [e1];unfold GenRun at*
   show(∃v w' L U,(execOp (rd (putT s.t d u)) o).run E.P w=_/\_)\/ ∃f args,(execOp (rd (putT s.t d u)) o).run E.P w=_/\_
   rw [e2];exact this⟩
theorem GenOk.move{E:Env}{dr:Y3}{s s':St}{o:Oper}{m:Y3}(g:GenOk E dr s o m)(ht:s'.t=s.t)(hc:cellA E s'.own s'.nw=cellA E s.own s.nw)(hu: ∀b y,s.own b=some y->s.nw b=false->s'.own b=some y/\s'.nw b=false):GenOk E dr s' o m/\Ab6 E s' o=Ab6 E s o:=by
 have e1:Ab6 E s' o=Ab6 E s o:=by unfold Ab6;rw [ht,hc]
 refine⟨⟨by rw [e1];exact g.wit,by rw [e1];exact g.nod, ?_,by rw [e1];exact g.pur,λw hb hv ho=> ?_⟩,e1⟩
 ·rw [e1]
  intro v L U hp x hx
  obtain⟨⟨y,h1⟩,h2⟩:=g.upO v L U hp x hx
  exact⟨⟨y,(hu _ y h1 h2).1⟩,(hu _ y h1 h2).2⟩
 ·rw [hc] at hv;rw [e1,ht];exact g.run w hb hv (λb y h1 h2=>ho b y (hu b y h1 h2).1 (hu b y h1 h2).2)
theorem GenOk.grow{E:Env}{dr:Y3}{s s':St}{o:Oper}{m:Y3}(g:GenOk E dr s o m)(hf:fnk E.ks o=true)(ht:s'.t=s.t)(hc: ∀a v,cellA E s.own s.nw a=some v->cellA E s'.own s'.nw a=some v)(hu: ∀b y,s.own b=some y->s.nw b=false->s'.own b=some y/\s'.nw b=false):GenOk E dr s' o m/\Ab6 E s' o=Ab6 E s o:=by
 have e1:Ab6 E s' o=Ab6 E s o:=by unfold Ab6 uX;rw [ht,hf]
 refine⟨⟨by rw [e1];exact g.wit,by rw [e1];exact g.nod, ?_,by rw [e1];exact g.pur,λw hb hv ho=> ?_⟩,e1⟩
 ·rw [e1]
  intro v L U hp x hx
  obtain⟨⟨y,h1⟩,h2⟩:=g.upO v L U hp x hx
  exact⟨⟨y,(hu _ y h1 h2).1⟩,(hu _ y h1 h2).2⟩
 ·rw [e1,ht];exact g.run w hb (λa v h=>hv a v (hc a v h)) (λb y h1 h2=>ho b y (hu b y h1 h2).1 (hu b y h1 h2).2)
theorem bn{α:Type}{P:Program}{c c':Addr->Y1 Y2}(hc: ∀a v,c a=some v->c' a=some v): ∀(s:Sem α) (x:α),ev P c s=some x->ev P c' s=some x:=by
 intro s
 induction s with
 |pure a=>intro x h;exact h
 |load m a k ih=>
  intro x h
  cases m with
  |plain=>
   simp only [ev] at h ⊢
   cases hv:c a with
   |none=>rw [hv] at h;cases h
   |some v=>rw [hv] at h;rw [hc a v hv];exact ih v x h
  |atomic=>simp [ev] at h
 |program k ih=>intro x h;exact ih P x h
 |mark m k ih=>intro x h;exact ih x h
 |_=>intro x h;simp [ev] at h
theorem WV{α:Type}{P:Program}{c:Addr->Y1 Y2}: ∀(s:Sem α),∃k,∀(c':Addr->Y1 Y2) (x:α),(∀a v,c a=some v->c' a=some v)->(∀a,a.block<=k->c' a=c a)->ev P c' s=some x->ev P c s=some x:=by
 intro s
 induction s with
 |pure a=>exact⟨0,λc' x _ _ h=>h⟩
 |load m a k ih=>
  cases m with
  |plain=>
   cases hv:c a with
   |none=>exact⟨a.block,λc' x _ h2 h=>by simp only [ev] at h;rw [h2 a (Nat.le_refl _),hv] at h;cases h⟩
   |some v=>
    obtain⟨n,hn⟩:=ih v
    refine⟨n,λc' x h1 h2 h=> ?_⟩
    simp only [ev] at h ⊢
    rw [h1 a v hv] at h
    rw [hv]
    exact hn c' x h1 h2 h
  |atomic=>exact⟨0,λc' x _ _ h=>by simp [ev] at h⟩
 |program k ih=>obtain⟨n,hn⟩:=ih P;exact⟨n,λc' x h1 h2 h=>hn c' x h1 h2 h⟩
 |mark m k ih=>obtain⟨n,hn⟩:=ih;exact⟨n,λc' x h1 h2 h=>hn c' x h1 h2 h⟩
 |_=>exact⟨0,λc' x _ _ h=>by simp [ev] at h⟩
theorem Dv{L:Y0 Bl}{own:Nat->Y1 (TypeId×Array Y2)}{b:Nat}(h: ∀x∈L,x.1≠b):over L own b=own b:=by
 unfold over
 rw [List.find?_eq_none.2 (λx hx=>by simpa using h x hx)]
theorem Mm{L:Y0 Bl}{own:Nat->Y1 (TypeId×Array Y2)}{x:Bl}(hn:(L.map (·.1)).Nodup)(h:x∈L):over L own x.1=some x.2:=by
 unfold over
 induction L with
 |nil=>cases h
 |cons y L ih=>
  simp only [List.map_cons,List.nodup_cons] at hn
  rw [List.find?_cons]
  by_cases e:y.1=x.1
  ·rw [show(y.1==x.1)=true from by simpa using e]
   rcases List.mem_cons.1 h with rfl|h
   ·rfl
   ·exact absurd (List.mem_map.2 ⟨x,h,e.symm⟩) hn.1
  ·rw [show(y.1==x.1)=false from by simpa using e]
   rcases List.mem_cons.1 h with rfl|h
   ·exact absurd Z e
   ·exact ih hn.2 h
theorem Zc{L:Y0 Bl}{own:Nat->Y1 (TypeId×Array Y2)}{b:Nat}{y:TypeId×Array Y2}(h:over L own b=some y):(b,y)∈L\/((∀x∈L,x.1≠b)/\own b=some y):=by
 unfold over at h
 cases hf:L.find? (λx=>x.1==b)with
 |none=>rw [hf] at h;exact .inr ⟨λx hx=>by simpa using List.find?_eq_none.1 hf x hx,h⟩
 |some x=>
  rw [hf] at h
  have h1:=List.mem_of_find?_eq_some hf
  have h2:=List.find?_some hf
  simp only [beq_iff_eq] at h2
  cases h
  subst h2
  exact .inl h1
theorem Jf{L:Y0 Bl}{nw:Nat->Y3}{b:Nat}(h: ∀x∈L,x.1≠b):seen L nw b=nw b:=by
 unfold seen
 rw [V9]
 intro e
 obtain⟨x,hx,e⟩:=List.any_eq_true.1 e
 exact h x hx (by simpa using e)
theorem Rf{L:Y0 Bl}{nw:Nat->Y3}{x:Bl}(h:x∈L):seen L nw x.1=false:=by
 unfold seen
 rw [V8]
 exact List.any_eq_true.2 ⟨x,h,by simp⟩
theorem Nh{L:Y0 Bl}{own:Nat->Y1 (TypeId×Array Y2)}{b:Nat}{y:Y1 (TypeId×Array Y2)}(h: ∀x∈L,x.1≠b):over L (upd own b y)=upd (over L own) b y:=by
 funext i
 by_cases e:i=b
 ·subst e;rw [Dv h,Ef,Ef]
 ·rw [Cg _ _ e]
  unfold over
  split
  ·rfl
  ·exact Cg _ _ e
theorem bV{L:Y0 Bl}{nw:Nat->Y3}{b:Nat}{y:Y3}(h: ∀x∈L,x.1≠b):seen L (upd nw b y)=upd (seen L nw) b y:=by
 funext i
 by_cases e:i=b
 ·subst e;rw [Jf h,Ef,Ef]
 ·rw [Cg _ _ e]
  unfold seen
  split
  ·rfl
  ·exact Cg _ _ e
theorem cellA_gen{E:Env}{own:Nat->Y1 (TypeId×Array Y2)}{nw:Nat->Y3}{L:Y0 Bl}(h: ∀x∈L,E.base<=x.1/\own x.1=none): ∀a v,cellA E own nw a=some v->cellA E (over L own) (seen L nw) a=some v:=by
 intro a v ha
 have: ∀x∈L,x.1≠a.block:=by
  intro x hx e
  obtain⟨h1,h2⟩:=h x hx
  unfold cellA at ha
  rw [<-e,h2] at ha
  simp only at ha
  rw [V9 (by omega)] at ha
  cases ha
 unfold cellA at*
 rw [Dv this,Jf this]
 exact ha
theorem TH{E:Env}{own:Nat->Y1 (TypeId×Array Y2)}{nw:Nat->Y3}{L:Y0 Bl}{k:Nat}(h: ∀x∈L,k<x.1)(a:Addr)(ha:a.block<=k):cellA E (over L own) (seen L nw) a=cellA E own nw a:=by
 have: ∀x∈L,x.1≠a.block:=λx hx e=>by have:=h x hx;omega
 unfold cellA
 rw [Dv this,Jf this]
theorem cellA_new{E:Env}{own:Nat->Y1 (TypeId×Array Y2)}{nw:Nat->Y3}{r:Nat}(hr:E.base<=r)(hn:own r=none)(x:TypeId×Array Y2):cellA E (upd own r (some x)) (upd nw r true)=cellA E own nw:=by
 funext a
 unfold cellA
 by_cases hb:a.block=r
 ·rw [hb,Ef,Ef,hn]
  simp only [Bool.true_or,if_true]
  rw [V9 (by omega)]
 ·rw [Cg _ _ hb,Cg _ _ hb]
theorem Wk{E:Env}{s:St}{r:Nat}(hr:E.base<=r)(hn:s.own r=none)(x:TypeId×Array Y2)(o:Oper):
  loadOf E {s with own:=upd s.own r (some x),nw:=upd s.nw r true} o=loadOf E s o:=by
 unfold loadOf
 rw [cellA_new hr hn x]
theorem cellA_sto{E:Env}{s:St}{b:Nat}{z:TypeId×Array Y2}(hb:s.own b=some z)(hn:s.nw b=true)(y:TypeId×Array Y2):cellA E (upd s.own b (some y)) s.nw=cellA E s.own s.nw:=by
 funext a
 unfold cellA
 by_cases hc:a.block=b
 ·rw [hc,Ef,hb,hn];simp
 ·rw [Cg _ _ hc]
theorem Wi{E:Env}{s:St}{b:Nat}{z:TypeId×Array Y2}(hb:s.own b=some z)(hn:s.nw b=true)(y:TypeId×Array Y2)(o:Oper):
  loadOf E {s with own:=upd s.own b (some y)} o=loadOf E s o:=by
 unfold loadOf
 have:cellA E (upd s.own b (some y)) s.nw=cellA E s.own s.nw:=by
  funext a
  unfold cellA
  by_cases hc:a.block=b
  ·rw [hc,Ef,hb,hn];simp
  ·rw [Cg _ _ hc]
 simp only [this]
theorem Zf{E:Env}{s:St}{r:Nat}(hr:E.base<=r)(hn:s.own r=none)(x:TypeId×Array Y2)(o:Oper):
  loadH E {s with own:=upd s.own r (some x),nw:=upd s.nw r true} o=loadH E s o:=by
 unfold loadH
 rw [show Jw E (upd s.own r (some x)) (upd s.nw r true)=Jw E s.own s.nw from by funext a;unfold Jw;rw [cellA_new hr hn x]]
theorem Zg{E:Env}{s:St}{b:Nat}(hb:b∈E.hid)(y:TypeId×Array Y2)(o:Oper):
  loadH E {s with own:=upd s.own b (some y)} o=loadH E s o:=by
 unfold loadH
 have:Jw E (upd s.own b (some y)) s.nw=Jw E s.own s.nw:=by
  funext a
  unfold Jw
  split
  ·rfl
  ·rename_i h
   unfold cellA
   rw [Cg _ _ (λe=>h (by rw [e];exact hb))]
 show(match ev E.P (Jw E (upd s.own b (some y)) s.nw) (execOp (rd s.t) o)with|some (.value v)=>some v|_=>none)=_
 rw [this]
theorem Ze{E:Env}{s:St}{b:Nat}{z:TypeId×Array Y2}(hb:s.own b=some z)(hn:s.nw b=true)(y:TypeId×Array Y2)(o:Oper):
  loadH E {s with own:=upd s.own b (some y)} o=loadH E s o:=by
 unfold loadH
 have:Jw E (upd s.own b (some y)) s.nw=Jw E s.own s.nw:=by funext a;unfold Jw;rw [cellA_sto hb hn y]
 simp only [this]
def XC(E:Env)(a:Array Oper):Prop:= ∀o∈a.toList,goodk E.ks o.dst=true-> ∀vs c v L U,E.con o vs c v L U-> ∀x∈U,x.1∈E.hid
theorem ZB{E:Env}{own:Nat->Y1 (TypeId×Array Y2)}{nw:Nat->Y3}{L U:Y0 Bl}(hU: ∀x∈U,x.1∈E.hid)(h: ∀x∈L,E.base<=x.1/\own x.1=none): ∀a v,Jw E own nw a=some v->Jw E (over L (over U own)) (seen L nw) a=some v:=by
 intro a v ha
 unfold Jw at*
 split at ha
 ·cases ha
 ·rename_i hn
  have h2:=cellA_gen (E:=E) h a v ha
  rw [V9 hn]
  unfold cellA at*
  rw [show over L (over U own) a.block=over L own a.block from by
   unfold over
   split
   ·rfl
   ·rw [List.find?_eq_none.2 (λx hx=>by intro e;simp only [beq_iff_eq] at e;exact hn (e▸hU x hx))]]
  exact h2
theorem bq{E:Env}{own:Nat->Y1 (TypeId×Array Y2)}{nw:Nat->Y3}{L U:Y0 Bl}{k:Nat}(hU: ∀x∈U,x.1∈E.hid)(h: ∀x∈L,k<x.1)(a:Addr)(ha:a.block<=k):Jw E (over L (over U own)) (seen L nw) a=Jw E own nw a:=by
 unfold Jw
 split
 ·rfl
 ·rename_i hn
  rw [<-TH (E:=E) (own:=own) (nw:=nw) h a ha]
  unfold cellA
  rw [show over L (over U own) a.block=over L own a.block from by
   unfold over
   split
   ·rfl
   ·rw [List.find?_eq_none.2 (λx hx=>by intro e;simp only [beq_iff_eq] at e;exact hn (e▸hU x hx))]]
theorem Uu{P:Program}{c c':Addr->Y1 Y2}{ty:TypeId}{a:Addr}(h: ∀x,x.block=a.block->c x=c' x):ev P c (loadVar ty a)=ev P c' (loadVar ty a):=by
 have hl: ∀n i acc,ev P c (loadCellsFrom a i n acc)=ev P c' (loadCellsFrom a i n acc):=by
  intro n
  induction n with
  |zero=>intro i acc;rfl
  |succ n ih=>
   intro i acc
   have hb:(a.add i).block=a.block:=by unfold Addr.add;split<;>rfl
   show ev P c (Sem.bind (load (a.add i)) λv=>loadCellsFrom a (i+1) n (acc.push v))=ev P c' (Sem.bind (load (a.add i)) λv=>loadCellsFrom a (i+1) n (acc.push v))
   simp only [load,Sem.bind,ev,h _ hb]
   split
   ·exact ih _ _
   ·rfl
 have hbind: ∀{α β:Type} (s:Sem α) (f:α->Sem β) (c:Addr->Y1 Y2),ev P c (s.bind f)=(ev P c s).bind λx=>ev P c (f x):=by
  intro α β s f c
  induction s with
  |pure a=>rfl
  |load m a k ih=>
   cases m with
   |plain=>
    simp only [Sem.bind,ev]
    cases c a with
    |none=>rfl
    |some v=>exact ih v
   |atomic=>rfl
  |program k ih=>simp only [Sem.bind,ev];exact ih P
  |mark m k ih=>simp only [Sem.bind,ev];exact ih
  |_=>rfl
 have hp: ∀(c1 c2:Addr->Y1 Y2),ev P c1 (isAgg ty)=ev P c2 (isAgg ty):=by
  intro c1 c2
  show ev P c1 (Sem.bind (underlying ty) _)=ev P c2 (Sem.bind (underlying ty) _)
  unfold underlying program
  simp only [bind,Sem.bind,ev]
  cases P.underlying ty with
  |none=>rfl
  |some d=>cases d<;>rfl
 have hs: ∀(c1 c2:Addr->Y1 Y2),ev P c1 (sizeOf ty)=ev P c2 (sizeOf ty):=by
  intro c1 c2
  unfold sizeOf typeInfo program
  simp only [bind,Sem.bind,ev]
  cases P.info? ty with
  |none=>rfl
  |some d=>rfl
 show ev P c (Sem.bind (isAgg ty) _)=ev P c' (Sem.bind (isAgg ty) _)
 rw [hbind,hbind,hp c c']
 cases ev P c' (isAgg ty)with
 |none=>rfl
 |some b=>
  simp only [q0]
  cases b
  ·simp only [Bool.false_eq_true,if_false,load,ev,h a Z]
  ·simp only [if_true]
   show ev P c (Sem.bind (sizeOf ty) _)=ev P c' (Sem.bind (sizeOf ty) _)
   rw [hbind,hbind,hs c c']
   cases ev P c' (sizeOf ty)with
   |none=>rfl
   |some n=>
    simp only [q0]
    show ev P c (Sem.bind (loadCells a n) _)=ev P c' (Sem.bind (loadCells a n) _)
    rw [hbind,hbind]
    unfold loadCells
    rw [hl]
    rfl
theorem eZ{E:Env}{s:St}{r:Nat}(hn:s.own r=none)(x:TypeId×Array Y2)(o:Oper){b:Nat}{y:TypeId×Array Y2}(h:Ac8 E s o b y):
  b≠r/\Ac8 E {s with own:=upd s.own r (some x),nw:=upd s.nw r true} o b y:=by
 unfold Ac8 at*
 split
 ·rename_i ty p v ho
  simp only [ho] at h
  obtain⟨off,T,cs,i,h1,h2,h3⟩:=h
  have hne:b≠r:=by intro e;subst e;rw [hn] at h2;cases h2
  exact⟨hne,off,T,cs,i,h1,by show upd s.own r _ b=_;rw [Cg _ _ hne];exact h2,h3⟩
 ·simp only at h
def Kd.mem:Kd->Y3
 | .l| .a| .s| .n| .g| .m| .r| .bl=>true
 |_=>false
def Gs:Kd->Kd->Y3
 | .s,k=>k.mem
 |k, .s=>k.mem
 | .n, .n=>true
 | .g, .g| .g, .m| .m, .g| .m, .m| .m, .l| .l, .m| .bl, .g| .g, .bl| .bl, .m| .m, .bl=>true
 |_,_=>false
theorem dI(x y:Kd):Gs x y=Gs y x:=by cases x<;>cases y<;>rfl
def gQ(x y:Oper):Y1 (Nat×Nat):=
 match x.op,y.op with
 | .store _ (.tmp p) _, .load _ (.tmp q)=>some (p,q)
 |_,_=>none
def YV(a:Y0 (Nat×Nat))(x y:Oper):Y3:=
 match gQ x y with
 |some pq=>a.contains pq
 |none=>false
def blk:Y2->Y1 Nat
 | .pointer (some a)=>some a.block
 |_=>none
def Sep(a:Y0 (Nat×Nat))(t:Nat->Y2):Prop:= ∀pq∈a,blk (t pq.1)≠blk (t pq.2)
def TF(a:Y0 (Y1 Tmp×Y3))(b:Array Oper)(c:Y0 (Nat×Nat))(x y:Oper):Y3:=
 match kdo a true b x,kdo a true b y with
 | .s, .l=> !YV c x y
 | .l, .s=> !YV c y x
 | .m, .r=> !goodk a x.dst
 | .r, .m=> !goodk a y.dst
 | .s, .r=> !goodk a x.dst
 | .r, .s=> !goodk a y.dst
 | .g, .bl=> !fnk a x
 |d,e=>Gs d e
structure Indep(ks:Y0 (Y1 Tmp×Y3))(ops:Array Oper)(ps:Y0 (Nat×Nat))(x y:Oper):Prop where
 f1:Uz ops y x.dst
 f2:Uz ops x y.dst
 ne: ∀k,x.dst=some k->y.dst≠some k
 cl:(kdo ks true ops x= .s/\kdo ks true ops y= .l)\/(kdo ks true ops x= .l/\kdo ks true ops y= .s)\/(kdo ks true ops x= .s/\kdo ks true ops y= .r)\/(kdo ks true ops x= .r/\kdo ks true ops y= .s)\/Gs (kdo ks true ops x) (kdo ks true ops y)=false\/(kdo ks true ops x= .g/\kdo ks true ops y= .bl/\fnk ks x=true)\/(kdo ks true ops x= .bl/\kdo ks true ops y= .g/\fnk ks y=true)
 sl:kdo ks true ops x= .s->kdo ks true ops y= .l->YV ps x y=true
 ls:kdo ks true ops x= .l->kdo ks true ops y= .s->YV ps y x=true
 mr:kdo ks true ops x= .m->kdo ks true ops y= .r->goodk ks x.dst=true
 rm:kdo ks true ops x= .r->kdo ks true ops y= .m->goodk ks y.dst=true
 sr:kdo ks true ops x= .s->kdo ks true ops y= .r->goodk ks x.dst=true
 rs:kdo ks true ops x= .r->kdo ks true ops y= .s->goodk ks y.dst=true
theorem Indep.symm{ks:Y0 (Y1 Tmp×Y3)}{ops:Array Oper}{ps:Y0 (Nat×Nat)}{x y:Oper}(h:Indep ks ops ps x y):Indep ks ops ps y x:=
 ⟨h.f2,h.f1,λk h1 h2=>h.ne k h2 h1,by
  rcases h.cl with⟨a,b⟩|⟨a,b⟩|⟨a,b⟩|⟨a,b⟩|c|⟨a,b,c⟩|⟨a,b,c⟩
  ·exact .inr (.inl ⟨b,a⟩)
  ·exact .inl ⟨b,a⟩
  ·exact .inr (.inr (.inr (.inl ⟨b,a⟩)))
  ·exact .inr (.inr (.inl ⟨b,a⟩))
  ·rw [dI] at c;exact .inr (.inr (.inr (.inr (.inl c))))
  ·exact .inr (.inr (.inr (.inr (.inr (.inr ⟨b,a,c⟩)))))
  ·exact .inr (.inr (.inr (.inr (.inr (.inl ⟨b,a,c⟩))))),λa b=>h.ls b a,λa b=>h.sl b a,λa b=>h.rm b a,λa b=>h.mr b a,λa b=>h.rs b a,λa b=>h.sr b a⟩
theorem Wj{E:Env}{ps:Y0 (Nat×Nat)}{x y:Oper}{s:St}(hs:Sep ps s.t)(hp:YV ps x y=true){b:Nat}{z:TypeId×Array Y2}(hx:Ac8 E s x b z)(z':TypeId×Array Y2):
  loadOf E {s with own:=upd s.own b (some z')} y=loadOf E s y:=by
 unfold YV at hp
 split at hp
 ·rename_i pq hpq
  unfold gQ at hpq
  split at hpq
  ·rename_i ty p v ty' q hxo hyo
   cases hpq
   have hne:=hs (p,q) (by simpa using hp)
   unfold Ac8 at hx
   simp only [hxo] at hx
   obtain⟨off,T,cs,i,h1,_⟩:=hx
   have h1':s.t p= .pointer (some ⟨b,off,none⟩):=h1
   simp only [h1',blk] at hne
   have hev: ∀c,ev E.P c (execOp (rd s.t) y)=(ev E.P c (Instr.loadAt ty' (s.t q))).map Next.value:=by
    intro c
    have e1:execOp (rd s.t) y=Sem.bind (Instr.loadAt ty' (s.t q)) λv=> .pure (.value v):=by unfold execOp;rw [hyo];rfl
    rw [e1]
    generalize Instr.loadAt ty' (s.t q)=m
    induction m with
    |pure a=>rfl
    |load md a k ih=>
     cases md with
     |plain=>
      simp only [Sem.bind,ev]
      cases c a with
      |none=>rfl
      |some v=>exact ih v
     |atomic=>rfl
    |program k ih=>simp only [Sem.bind,ev];exact ih E.P
    |mark md k ih=>simp only [Sem.bind,ev];exact ih
    |_=>rfl
   have key:ev E.P (cellA E (upd s.own b (some z')) s.nw) (Instr.loadAt ty' (s.t q))=ev E.P (cellA E s.own s.nw) (Instr.loadAt ty' (s.t q)):=by
    cases hq:s.t q with
    |pointer p'=>
     cases p' with
     |none=>rfl
     |some a=>
      have hab:a.block≠b:=by intro e;apply hne;rw [hq];simp only [e]
      show ev E.P _ (loadVar ty' a)=ev E.P _ (loadVar ty' a)
      refine Uu (λx hx=> ?_)
      unfold cellA
      rw [Cg _ _ (by rw [hx];exact hab)]
    |_=>rfl
   unfold loadOf
   show(match ev E.P (cellA E (upd s.own b (some z')) s.nw) (execOp (rd s.t) y)with|some (.value v)=>some v|_=>none)=_
   rw [hev,hev,key]
  ·cases hpq
 ·cases hp
theorem aA{ks:Y0 (Y1 Tmp×Y3)}{g:Y3}{ops:Array Oper}{o:Oper}{k:Kd}(h:kdo ks g ops o=k)(hk:k≠ .bad)(hg:k≠ .g)(hm:k≠ .m)(hq:k≠ .bl):kd o.op≠ .bad:=by
 intro e
 by_cases hn:k= .n
 ·subst hn;rw [vh h] at e;cases e
 ·by_cases hr:k= .r
  ·subst hr;rw [(ye h).2] at e;cases e
  ·rw [wG h hn hg hm hr hk hq] at e;exact hk e
theorem KK{E:Env}{g:Y3}{ops:Array Oper}{o:Oper}{d:Y1 Tmp}(h:Uz ops o d)(s:St)(u:Y2)(e:Fx):
  Aa9 E g ops o {s with t:=putT s.t d u} e↔Aa9 E g ops o s e:=by
 unfold Aa9
 simp only [ZK h]
 split
 ·cases hk:kdo E.ks g ops o<;>simp only
  ·simp only [eW (E:=E) (aA hk (by decide) (by decide) (by decide) (by decide)) h]
  ·simp only [cI (E:=E) (aA hk (by decide) (by decide) (by decide) (by decide)) h]
  ·simp only [bI h]
  ·simp only [TL h]
  ·simp only [TL h]
  ·rw [SO (ay (.inl hk)) h,QF h]
  ·rw [SO (ay (.inr (.inl hk))) h,QF h]
  ·simp only [fL (E:=E) (aA hk (by decide) (by decide) (by decide) (by decide)) h]
  ·show(GenOk E g {blS s with t:=putT (blS s).t d u} o false/\e= .gen (Ab6 E {blS s with t:=putT (blS s).t d u} o))↔_
   rw [SO (ay (.inr (.inr hk))) h,QF h]
 ·rfl
theorem Aa9.kind{E:Env}{g:Y3}{ops:Array Oper}{o:Oper}{s:St}{e:Fx}(h:Aa9 E g ops o s e):
  match e with
  | .val _=>True
  | .new _=>kdo E.ks g ops o= .a
  | .sto b _=>(kdo E.ks g ops o= .s/\(goodk E.ks o.dst=true->b∈E.hid))\/(kdo E.ks g ops o= .n/\s.nw b=true)
  | .gen p=>(kdo E.ks g ops o= .g/\GenOk E g s o false/\p=Ab6 E s o)\/(kdo E.ks g ops o= .m/\GenOk E g s o true/\p=Ab6 E s o)\/(kdo E.ks g ops o= .bl/\GenOk E g (blS s) o false/\p=Ab6 E (blS s) o):=by
 unfold Aa9 at h
 split at h
 ·cases hk:kdo E.ks g ops o<;>simp only [hk] at h
  ·obtain⟨v,_,rfl⟩:=h;trivial
  ·obtain⟨v,_,rfl⟩:=h;trivial
  ·obtain⟨v,_,rfl⟩:=h;rfl
  ·obtain⟨b,y,_,hh,rfl⟩:=h;exact .inl ⟨Z,hh⟩
  ·obtain⟨b,y,_,hn,rfl⟩:=h;exact .inr ⟨Z,hn⟩
  ·obtain⟨h1,rfl⟩:=h;exact .inl ⟨Z,h1,Z⟩
  ·obtain⟨h1,rfl⟩:=h;exact .inr (.inl ⟨Z,h1,Z⟩)
  ·obtain⟨v,_,rfl⟩:=h;trivial
  ·obtain⟨h1,rfl⟩:=h;exact .inr (.inr ⟨Z,h1,Z⟩)
 ·subst h;trivial
structure zb(g:Y3)(s:St)(p:Pst):Prop where
 wit:g=true-> ∀k,∃v L U,p v L U/\ ∀x∈L,k<x.1
 nod: ∀v L U,p v L U->(L.map (·.1)).Nodup/\(U.map (·.1)).Nodup
 upO: ∀v L U,p v L U-> ∀x∈U,(∃y,s.own x.1=Option.some y)/\s.nw x.1=false
theorem Aa9.genW{E:Env}{g:Y3}{ops:Array Oper}{o:Oper}{s:St}{p:Pst}(h:Aa9 E g ops o s (.gen p)):zb g s p:=by
 rcases h.kind with⟨_,a,rfl⟩|⟨_,a,rfl⟩|⟨_,a,rfl⟩
 ·exact⟨a.wit,a.nod,a.upO⟩
 ·exact⟨a.wit,a.nod,a.upO⟩
 ·exact⟨a.wit,a.nod,λv L U hp x hx=>by obtain⟨⟨_,h1⟩,_⟩:=a.upO v L U hp x hx;cases h1⟩
theorem Aa9.genPur{E:Env}{g:Y3}{ops:Array Oper}{o:Oper}{s:St}{p:Pst}(h:Aa9 E g ops o s (.gen p))(hk:kdo E.ks g ops o≠ .m){v:Y2}{L U:Y0 Bl}(hp:p v L U):U=[]:=by
 rcases h.kind with⟨_,a,rfl⟩|⟨b,_,_⟩|⟨_,a,rfl⟩
 ·exact a.pur Z v L U hp
 ·exact absurd b hk
 ·exact a.pur Z v L U hp
theorem Aa9.own{E:Env}{g:Y3}{ops:Array Oper}{o:Oper}{s:St}{b:Nat}{y:TypeId×Array Y2}(h:Aa9 E g ops o s (.sto b y)): ∃z,s.own b=some z:=by
 have key: ∀b' y',Ac8 E s o b' y'->Fx.sto b y= .sto b' y'-> ∃z,s.own b=some z:=λb' y' h e=>by
  cases e
  unfold Ac8 at h
  split at h
  ·obtain⟨_,_,_,_,_,h2,_⟩:=h;exact⟨_,h2⟩
  ·exact h.elim
 unfold Aa9 at h
 split at h
 ·cases hk:kdo E.ks g ops o<;>simp only [hk] at h
  ·obtain⟨v,_,e⟩:=h;cases e
  ·obtain⟨v,_,e⟩:=h;cases e
  ·obtain⟨v,_,e⟩:=h;cases e
  ·obtain⟨b',y',h1,_,e⟩:=h;exact key b' y' h1 e
  ·obtain⟨b',y',h1,_,e⟩:=h;exact key b' y' h1 e
  ·obtain⟨_,e⟩:=h;cases e
  ·obtain⟨_,e⟩:=h;cases e
  ·obtain⟨v,_,e⟩:=h;cases e
  ·obtain⟨_,e⟩:=h;cases e
 ·cases h
theorem Aa9.storeS{E:Env}{g:Y3}{ops:Array Oper}{o:Oper}{s:St}{b:Nat}{y:TypeId×Array Y2}(h:Aa9 E g ops o s (.sto b y))(hk:kdo E.ks g ops o= .s): ∃y,Ac8 E s o b y:=by
 unfold Aa9 at h
 split at h
 ·simp only [hk] at h
  obtain⟨b',y',h1,_,e⟩:=h
  cases e;exact⟨_,h1⟩
 ·cases h
theorem Indep.fwd{E:Env}{ops:Array Oper}{ps:Y0 (Nat×Nat)}{x y:Oper}(hI:Indep E.ks ops ps x y)(hH:XC E ops)(hxo:x∈ops.toList){s s1:St}(hsep:Sep ps s.t){e:Fx}(hx:Aa9 E true ops x s e)(hd:Do E true x s e s1){e':Fx}(hy:Aa9 E true ops y s e'):Aa9 E true ops y s1 e':=by
 have hcl:=hI.cl
 have hkx:=hx.kind
 cases e with
 |val v=>simp only [Do] at hd;subst hd;exact(KK hI.f1 s v e').2 hy
 |new z=>
  obtain⟨r,hr,hn,rfl⟩:=hd
  rw [show({t:=putT s.t x.dst (.pointer (some ⟨r,0,none⟩)),own:=upd s.own r (some z),nw:=if true then upd s.nw r true else s.nw}:St)=
   {({s with own:=upd s.own r (some z),nw:=upd s.nw r true}:St)with t:=putT ({s with own:=upd s.own r (some z),nw:=upd s.nw r true}:St).t x.dst (.pointer (some ⟨r,0,none⟩))}from rfl]
  rw [KK hI.f1]
  unfold Aa9 at*
  split at hy
  ·rename_i hw
   rw [V8 hw]
   cases hk:kdo E.ks true ops y<;>simp only [hk] at hy ⊢
   ·exact hy
   ·simpa only [Wk hr hn] using hy
   ·exact hy
   ·simp only [hkx,hk] at hcl;simp [Gs,Kd.mem] at hcl
   ·obtain⟨b,y',h1,h2,rfl⟩:=hy
    obtain⟨hne,h3⟩:=eZ hn z y h1
    exact⟨b,y',h3,by show upd s.nw r true b=true;rw [Cg _ _ hne];exact h2,Z⟩
   ·obtain⟨h1,rfl⟩:=hy
    have hmv:=h1.move (s':={s with own:=upd s.own r (some z),nw:=upd s.nw r true}) rfl (cellA_new hr hn z) (λb y h1 h2=>by
     have hne:b≠r:=by intro e;subst e;rw [hn] at h1;cases h1
     exact⟨by show upd s.own r _ b=_;rw [Cg _ _ hne];exact h1,by show upd s.nw r true b=_;rw [Cg _ _ hne];exact h2⟩)
    exact⟨hmv.1,by rw [<-hmv.2]⟩
   ·obtain⟨h1,rfl⟩:=hy
    have hmv:=h1.move (s':={s with own:=upd s.own r (some z),nw:=upd s.nw r true}) rfl (cellA_new hr hn z) (λb y h1 h2=>by
     have hne:b≠r:=by intro e;subst e;rw [hn] at h1;cases h1
     exact⟨by show upd s.own r _ b=_;rw [Cg _ _ hne];exact h1,by show upd s.nw r true b=_;rw [Cg _ _ hne];exact h2⟩)
    exact⟨hmv.1,by rw [<-hmv.2]⟩
   ·simpa only [Zf hr hn] using hy
   ·exact hy
  ·rename_i hw;rw [V9 hw];exact hy
 |sto b z=>
  have hown:=hx.own
  have hxs:=λhk=>hx.storeS hk
  simp only [Do] at hd;subst hd
  rw [show({s with t:=putT s.t x.dst undef,own:=upd s.own b (some z)}:St)={({s with own:=upd s.own b (some z)}:St)with t:=putT ({s with own:=upd s.own b (some z)}:St).t x.dst undef}from rfl]
  rw [KK hI.f1]
  unfold Aa9 at*
  split at hy
  ·rename_i hw
   rw [V8 hw]
   cases hk:kdo E.ks true ops y<;>simp only [hk] at hy ⊢
   ·exact hy
   ·rcases hkx with⟨hkx,_⟩|⟨hkx,hnw⟩
    ·obtain⟨y0,hst⟩:=hxs hkx
     simpa only [Wj hsep (hI.sl hkx hk) hst] using hy
    ·obtain⟨z',hz'⟩:=hown
     simpa only [Wi hz' hnw] using hy
   ·exact hy
   ·rcases hkx with⟨hkx,_⟩|⟨hkx,hnw⟩<;>(simp only [hkx,hk] at hcl;simp [Gs,Kd.mem] at hcl)
   ·rcases hkx with⟨hkx,_⟩|⟨hkx,hnw⟩<;>(simp only [hkx,hk] at hcl;simp [Gs,Kd.mem] at hcl)
   ·rcases hkx with⟨hkx,_⟩|⟨hkx,hnw⟩
    ·simp only [hkx,hk] at hcl;simp [Gs,Kd.mem] at hcl
    ·obtain⟨h1,rfl⟩:=hy
     obtain⟨z',hz'⟩:=hown
     have hmv:=h1.move (s':={s with own:=upd s.own b (some z)}) rfl (cellA_sto hz' hnw z) (λb' y h1 h2=>by
      have hne:b'≠b:=by intro e;subst e;rw [hnw] at h2;cases h2
      exact⟨by show upd s.own b _ b'=_;rw [Cg _ _ hne];exact h1,h2⟩)
     exact⟨hmv.1,by rw [<-hmv.2]⟩
   ·rcases hkx with⟨hkx,_⟩|⟨hkx,hnw⟩
    ·simp only [hkx,hk] at hcl;simp [Gs,Kd.mem] at hcl
    ·obtain⟨h1,rfl⟩:=hy
     obtain⟨z',hz'⟩:=hown
     have hmv:=h1.move (s':={s with own:=upd s.own b (some z)}) rfl (cellA_sto hz' hnw z) (λb' y h1 h2=>by
      have hne:b'≠b:=by intro e;subst e;rw [hnw] at h2;cases h2
      exact⟨by show upd s.own b _ b'=_;rw [Cg _ _ hne];exact h1,h2⟩)
     exact⟨hmv.1,by rw [<-hmv.2]⟩
   ·rcases hkx with⟨hkx,hh⟩|⟨hkx,hnw⟩
    ·simpa only [Zg (hh (hI.sr hkx hk)) _] using hy
    ·obtain⟨z',hz'⟩:=hown
     simpa only [Ze hz' hnw] using hy
   ·exact hy
  ·rename_i hw;rw [V9 hw];exact hy
 |gen p=>
  have hG:=hx.genW
  obtain⟨v,L,U,hpv,hL,rfl⟩:=hd
  have hpur:=λhk=>hx.genPur hk hpv
  have hxx:=hx
  rw [show({t:=putT s.t x.dst v,own:=over L (over U s.own),nw:=seen L s.nw}:St)={({s with own:=over L (over U s.own),nw:=seen L s.nw}:St)with t:=putT ({s with own:=over L (over U s.own),nw:=seen L s.nw}:St).t x.dst v}from rfl]
  rw [KK hI.f1]
  have hkx':kdo E.ks true ops x= .g\/kdo E.ks true ops x= .m\/kdo E.ks true ops x= .bl:=by
   rcases hkx with⟨a,_⟩|⟨a,_⟩|⟨a,_⟩
   ·exact .inl a
   ·exact .inr (.inl a)
   ·exact .inr (.inr a)
  have hcon:kdo E.ks true ops x= .m-> ∀z∈U,∃vs c v',E.con x vs c v' L U:=λhm z _=>by
   rcases hxx.kind with⟨a,_⟩|⟨_,_,rfl⟩|⟨a,_⟩
   ·rw [a] at hm;cases hm
   ·exact⟨_,_,_,hpv⟩
   ·rw [a] at hm;cases hm
  unfold Aa9 at*
  split at hy
  ·rename_i hw
   rw [V8 hw]
   cases hk:kdo E.ks true ops y<;>simp only [hk] at hy ⊢
   ·exact hy
   ·by_cases hkx:kdo E.ks true ops x= .m
    rotate_left
    ·have hU:=hpur hkx
     subst hU
     obtain⟨v',h1,rfl⟩:=hy
     refine⟨v', ?_,Z⟩
     unfold loadOf at*
     split at h1
     ·rename_i v2 hev
      cases h1
      have:=bn (cellA_gen (E:=E) (own:=s.own) (nw:=s.nw) hL) _ _ hev
      show(match ev E.P (cellA E (over L (over [] s.own)) (seen L s.nw)) (execOp (rd s.t) y)with|some (.value v)=>some v|_=>none)=_
      rw [show over L (over [] s.own)=over L s.own from Z,this]
     ·cases h1
    ·simp only [hkx,hk] at hcl;simp [Gs] at hcl
   ·exact hy
   ·rcases hkx' with hkx|hkx|hkx<;>(simp only [hkx,hk] at hcl;simp [Gs,Kd.mem] at hcl)
   ·obtain⟨b,y',h1,h2,rfl⟩:=hy
    refine⟨b,y', ?_, ?_,Z⟩
    ·unfold Ac8 at*
     split at h1
     ·rename_i ty p' v' ho
      skip
      obtain⟨off,T,cs,i,g1,g2,g3⟩:=h1
      refine⟨off,T,cs,i,g1, ?_,g3⟩
      have n1: ∀x∈L,x.1≠b:=λx hx e=>by have:=(hL x hx).2;rw [e,g2] at this;cases this
      have n2: ∀x∈U,x.1≠b:=λx hx e=>by have:=(hG.upO v L U hpv x hx).2;rw [e,h2] at this;cases this
      show over L (over U s.own) b=_
      rw [Dv n1,Dv n2];exact g2
     ·exact h1.elim
    ·have: ∃z,s.own b=some z:=by
      unfold Ac8 at h1
      split at h1
      ·obtain⟨_,_,_,_,_,g2,_⟩:=h1;exact⟨_,g2⟩
      ·exact h1.elim
     obtain⟨z,hz⟩:=this
     have n1: ∀x∈L,x.1≠b:=λx hx e=>by have:=(hL x hx).2;rw [e,hz] at this;cases this
     show seen L s.nw b=true
     rw [Jf n1];exact h2
   ·rcases hkx' with hkx|hkx|hkx
    ·simp only [hkx,hk] at hcl;simp [Gs] at hcl
    ·simp only [hkx,hk] at hcl;simp [Gs] at hcl
    ·have hfn:fnk E.ks y=true:=by simp only [hkx,hk] at hcl;simpa [Gs] using hcl
     have hU:=hpur (by rw [hkx];decide)
     subst hU
     obtain⟨h1,rfl⟩:=hy
     have hmv:=h1.grow (s':={s with own:=over L (over [] s.own),nw:=seen L s.nw}) hfn rfl (λa v h=>cellA_gen (E:=E) (own:=s.own) (nw:=s.nw) hL a v h) (λb y h1 h2=>by
      have n1: ∀x∈L,x.1≠b:=λx hx e=>by have:=(hL x hx).2;rw [e,h1] at this;cases this
      exact⟨by show over L s.own b=_;rw [Dv n1];exact h1,by show seen L s.nw b=_;rw [Jf n1];exact h2⟩)
     exact⟨hmv.1,by rw [<-hmv.2]⟩
   ·rcases hkx' with hkx|hkx|hkx<;>(simp only [hkx,hk] at hcl;simp [Gs] at hcl)
   ·obtain⟨v',h1,rfl⟩:=hy
    refine⟨v', ?_,Z⟩
    unfold loadH at*
    split at h1
    ·rename_i v2 hev
     cases h1
     have hU: ∀x∈U,x.1∈E.hid:=by
      by_cases hkx:kdo E.ks true ops x= .m
      ·intro z hz
       obtain⟨vs,c,v',h9⟩:=hcon hkx z hz
       exact hH x hxo (hI.mr hkx hk) _ _ _ _ _ h9 z hz
      ·rw [hpur hkx];exact λ_ hx=>(nomatch hx)
     have:=bn (ZB (E:=E) (own:=s.own) (nw:=s.nw) hU hL) _ _ hev
     show(match ev E.P (Jw E (over L (over U s.own)) (seen L s.nw)) (execOp (rd s.t) y)with|some (.value v)=>some v|_=>none)=_
     rw [this]
    ·cases h1
   ·exact hy
  ·rename_i hw;rw [V9 hw];exact hy
def Fin(s:St):Prop:= ∃m,∀b,m<=b->s.own b=none
theorem Do.some{E:Env}{ops:Array Oper}{o:Oper}{s:St}(hf:Fin s){e:Fx}(hx:Aa9 E true ops o s e)(k:Nat): ∃s',Do E true o s e s'/\ ∀b,b<=k->(match e with| .new _=>s'.own b=s.own b|_=>True):=by
 have hkx:=hx.kind
 cases e with
 |gen p=>
  have hG:=hx.genW
  obtain⟨m,hm⟩:=hf
  obtain⟨v,L,U,h1,h2⟩:=hG.wit Z (max m E.base)
  exact⟨_,⟨v,L,U,h1,λx hx=>⟨by have:=h2 x hx;omega,hm _ (by have:=h2 x hx;omega)⟩,Z⟩,λ_ _=>trivial⟩
 |val v=>exact⟨_,Z,λ_ _=>trivial⟩
 |new x=>
  obtain⟨m,hm⟩:=hf
  refine⟨_,⟨max m (max E.base (k+1)),by omega,hm _ (by omega),Z⟩,λb hb=> ?_⟩
  show upd s.own _ _ b=s.own b
  rw [Cg _ _ (by omega)]
 |sto b y=>exact⟨_,Z,λ_ _=>trivial⟩
theorem Indep.back{E:Env}{ops:Array Oper}{ps:Y0 (Nat×Nat)}{x y:Oper}(hI:Indep E.ks ops ps x y)(hD: ¬(kdo E.ks true ops x= .bl/\kdo E.ks true ops y= .g))(hH:XC E ops)(hxo:x∈ops.toList){s:St}(hf:Fin s)(hsep:Sep ps s.t){e:Fx}(hx:Aa9 E true ops x s e)(h: ∀s1,Do E true x s e s1-> ∃e',Aa9 E true ops y s1 e'): ∃e',Aa9 E true ops y s e':=by
 have hcl:=hI.cl
 have hkx:=hx.kind
 have hown:=λb z (he:e= .sto b z)=>Aa9.own (by rw [<-he];exact hx)
 cases e with
 |val v=>
  obtain⟨e',he'⟩:=h _ Z
  exact⟨e',(KK hI.f1 s v e').1 he'⟩
 |new z=>
  -- the block that y's address names
  let k:Nat:=match y.op with| .store _ p _=>(match rd s.t p with| .pointer (some a)=>a.block|_=>0)|_=>0
  obtain⟨s1,hd,hk1⟩:=Do.some (E:=E) (o:=x) hf hx k
  obtain⟨e',he'⟩:=h s1 hd
  obtain⟨r,hr,hn,rfl⟩:=hd
  rw [show({t:=putT s.t x.dst (.pointer (some ⟨r,0,none⟩)),own:=upd s.own r (some z),nw:=if true then upd s.nw r true else s.nw}:St)=
   {({s with own:=upd s.own r (some z),nw:=upd s.nw r true}:St)with t:=putT ({s with own:=upd s.own r (some z),nw:=upd s.nw r true}:St).t x.dst (.pointer (some ⟨r,0,none⟩))}from rfl] at he'
  rw [KK hI.f1] at he'
  refine⟨e', ?_⟩
  unfold Aa9 at*
  split at he'
  ·rename_i hw
   have hw':Region.wanted y (Ee ops s.t)=true:=hw
   rw [V8 hw']
   cases hk:kdo E.ks true ops y<;>simp only [hk] at he' ⊢
   ·exact he'
   ·simpa only [Wk hr hn] using he'
   ·exact he'
   ·simp only [hkx,hk] at hcl;simp [Gs,Kd.mem] at hcl
   ·obtain⟨b,y',h1,h2,rfl⟩:=he'
    have hop:=vh hk
    unfold Ac8 at h1
    split at h1
    ·rename_i ty p v ho
     obtain⟨off,T,cs,i,g1,g2,g3⟩:=h1
     have hbk:b<=k:=by
      show b<=(match y.op with| .store _ p _=>(match rd s.t p with| .pointer (some a)=>a.block|_=>0)|_=>0)
      simp only [ho]
      have g1':rd s.t p= .pointer (some ⟨b,off,none⟩):=g1
      simp only [g1',Nat.le_refl]
     have g4:upd s.own r (some z) b=s.own b:=hk1 b hbk
     have g5:s.own b=some (T,cs):=by rw [<-g4];exact g2
     have hne:b≠r:=by intro e;subst e;rw [hn] at g5;cases g5
     refine⟨b,y', ?_, ?_,Z⟩
     ·unfold Ac8;simp only [ho];exact⟨off,T,cs,i,g1,g5,g3⟩
     ·have:upd s.nw r true b=true:=h2
      rwa [Cg _ _ hne] at this
    ·exact h1.elim
   ·obtain⟨h1,rfl⟩:=he'
    have hmv:=h1.move (s':={s with own:=s.own,nw:=s.nw}) rfl (cellA_new hr hn z).symm (λb y h1 h2=>by
     have hne:b≠r:=by intro e;subst e;change upd s.nw b true b=false at h2;rw [Ef] at h2;cases h2
     change upd s.own r (some z) b=_ at h1;change upd s.nw r true b=_ at h2
     rw [Cg _ _ hne] at h1 h2
     exact⟨h1,h2⟩)
    exact⟨hmv.1,by rw [<-hmv.2]⟩
   ·obtain⟨h1,rfl⟩:=he'
    have hmv:=h1.move (s':={s with own:=s.own,nw:=s.nw}) rfl (cellA_new hr hn z).symm (λb y h1 h2=>by
     have hne:b≠r:=by intro e;subst e;change upd s.nw b true b=false at h2;rw [Ef] at h2;cases h2
     change upd s.own r (some z) b=_ at h1;change upd s.nw r true b=_ at h2
     rw [Cg _ _ hne] at h1 h2
     exact⟨h1,h2⟩)
    exact⟨hmv.1,by rw [<-hmv.2]⟩
   ·simpa only [Zf hr hn] using he'
   ·exact he'
  ·rename_i hw
   have hw': ¬Region.wanted y (Ee ops s.t)=true:=hw
   rw [V9 hw'];exact he'
 |sto b z=>
  obtain⟨z',hz'⟩:=hown b z Z
  have hxs:=λhk=>hx.storeS hk
  obtain⟨e',he'⟩:=h _ Z
  rw [show({s with t:=putT s.t x.dst undef,own:=upd s.own b (some z)}:St)={({s with own:=upd s.own b (some z)}:St)with t:=putT ({s with own:=upd s.own b (some z)}:St).t x.dst undef}from rfl] at he'
  rw [KK hI.f1] at he'
  refine⟨e', ?_⟩
  unfold Aa9 at*
  split at he'
  ·rename_i hw
   have hw':Region.wanted y (Ee ops s.t)=true:=hw
   rw [V8 hw']
   cases hk:kdo E.ks true ops y<;>simp only [hk] at he' ⊢
   ·exact he'
   ·rcases hkx with⟨hkx,_⟩|⟨hkx,hnw⟩
    ·obtain⟨y0,hst⟩:=hxs hkx
     simpa only [Wj hsep (hI.sl hkx hk) hst] using he'
    ·simpa only [Wi hz' hnw] using he'
   ·exact he'
   ·rcases hkx with⟨hkx,_⟩|⟨hkx,hnw⟩<;>(simp only [hkx,hk] at hcl;simp [Gs,Kd.mem] at hcl)
   ·rcases hkx with⟨hkx,_⟩|⟨hkx,hnw⟩<;>(simp only [hkx,hk] at hcl;simp [Gs,Kd.mem] at hcl)
   ·rcases hkx with⟨hkx,_⟩|⟨hkx,hnw⟩
    ·simp only [hkx,hk] at hcl;simp [Gs,Kd.mem] at hcl
    ·obtain⟨h1,rfl⟩:=he'
     have hmv:=h1.move (s':={s with own:=s.own}) rfl (cellA_sto hz' hnw z).symm (λb' y h1 h2=>by
      have hne:b'≠b:=by intro e;subst e;change s.nw b'=false at h2;rw [hnw] at h2;cases h2
      change upd s.own b (some z) b'=_ at h1
      rw [Cg _ _ hne] at h1
      exact⟨h1,h2⟩)
     exact⟨hmv.1,by rw [<-hmv.2]⟩
   ·rcases hkx with⟨hkx,_⟩|⟨hkx,hnw⟩
    ·simp only [hkx,hk] at hcl;simp [Gs,Kd.mem] at hcl
    ·obtain⟨h1,rfl⟩:=he'
     have hmv:=h1.move (s':={s with own:=s.own}) rfl (cellA_sto hz' hnw z).symm (λb' y h1 h2=>by
      have hne:b'≠b:=by intro e;subst e;change s.nw b'=false at h2;rw [hnw] at h2;cases h2
      change upd s.own b (some z) b'=_ at h1
      rw [Cg _ _ hne] at h1
      exact⟨h1,h2⟩)
     exact⟨hmv.1,by rw [<-hmv.2]⟩
   ·rcases hkx with⟨hkx,hh⟩|⟨hkx,hnw⟩
    ·simpa only [Zg (hh (hI.sr hkx hk)) _] using he'
    ·simpa only [Ze hz' hnw] using he'
   ·exact he'
  ·rename_i hw
   have hw': ¬Region.wanted y (Ee ops s.t)=true:=hw
   rw [V9 hw'];exact he'
 |gen p=>
  have hG:=hx.genW
  obtain⟨n,hn⟩:=WV (P:=E.P) (c:=cellA E s.own s.nw) (execOp (rd s.t) y)
  obtain⟨n',hn'⟩:=WV (P:=E.P) (c:=Jw E s.own s.nw) (execOp (rd s.t) y)
  let k:Nat:=match y.op with| .store _ p _=>(match rd s.t p with| .pointer (some a)=>a.block|_=>0)|_=>0
  obtain⟨m,hm⟩:=hf
  obtain⟨v,L,U,hpv,hbig⟩:=hG.wit Z (max (max m E.base) (max (max n n') k))
  have hL: ∀x∈L,E.base<=x.1/\s.own x.1=none:=λx hx=>⟨by have:=hbig x hx;omega,hm _ (by have:=hbig x hx;omega)⟩
  obtain⟨e',he'⟩:=h _ ⟨v,L,U,hpv,hL,Z⟩
  have hpur:=λhk=>hx.genPur hk hpv
  have hxx:=hx
  rw [show({t:=putT s.t x.dst v,own:=over L (over U s.own),nw:=seen L s.nw}:St)={({s with own:=over L (over U s.own),nw:=seen L s.nw}:St)with t:=putT ({s with own:=over L (over U s.own),nw:=seen L s.nw}:St).t x.dst v}from rfl] at he'
  rw [KK hI.f1] at he'
  have hkx':kdo E.ks true ops x= .g\/kdo E.ks true ops x= .m\/kdo E.ks true ops x= .bl:=by
   rcases hkx with⟨a,_⟩|⟨a,_⟩|⟨a,_⟩
   ·exact .inl a
   ·exact .inr (.inl a)
   ·exact .inr (.inr a)
  have hcon:kdo E.ks true ops x= .m-> ∀z∈U,∃vs c v',E.con x vs c v' L U:=λhm z _=>by
   rcases hxx.kind with⟨a,_⟩|⟨_,_,rfl⟩|⟨a,_⟩
   ·rw [a] at hm;cases hm
   ·exact⟨_,_,_,hpv⟩
   ·rw [a] at hm;cases hm
  refine⟨e', ?_⟩
  unfold Aa9 at*
  split at he'
  ·rename_i hw
   have hw':Region.wanted y (Ee ops s.t)=true:=hw
   rw [V8 hw']
   cases hk:kdo E.ks true ops y<;>simp only [hk] at he' ⊢
   ·exact he'
   ·by_cases hkx:kdo E.ks true ops x= .m
    rotate_left
    ·have hU:=hpur hkx
     subst hU
     obtain⟨v',h1,rfl⟩:=he'
     refine⟨v', ?_,Z⟩
     unfold loadOf at*
     split at h1
     ·rename_i v2 hev
      cases h1
      have:=hn (cellA E (over L s.own) (seen L s.nw)) _ (cellA_gen (E:=E) (own:=s.own) (nw:=s.nw) hL) (λa ha=>TH (k:=n) (λx hx=>by have:=hbig x hx;omega) a ha) hev
      rw [this]
     ·cases h1
    ·simp only [hkx,hk] at hcl;simp [Gs] at hcl
   ·exact he'
   ·rcases hkx' with hkx|hkx|hkx<;>(simp only [hkx,hk] at hcl;simp [Gs,Kd.mem] at hcl)
   ·obtain⟨b,y',h1,h2,rfl⟩:=he'
    unfold Ac8 at h1
    split at h1
    ·rename_i ty p v' ho
     obtain⟨off,T,cs,i,g1,g2,g3⟩:=h1
     have hbk:b<=k:=by
      show b<=(match y.op with| .store _ p _=>(match rd s.t p with| .pointer (some a)=>a.block|_=>0)|_=>0)
      simp only [ho]
      have g1':rd s.t p= .pointer (some ⟨b,off,none⟩):=g1
      simp only [g1',Nat.le_refl]
     have n1: ∀x∈L,x.1≠b:=λx hx e=>by have:=hbig x hx;omega
     have h2':s.nw b=true:=by have:seen L s.nw b=true:=h2;rwa [Jf n1] at this
     have n2: ∀x∈U,x.1≠b:=λx hx e=>by have:=(hG.upO v L U hpv x hx).2;rw [e,h2'] at this;cases this
     have g5:s.own b=some (T,cs):=by
      have:over L (over U s.own) b=some (T,cs):=g2
      rwa [Dv n1,Dv n2] at this
     exact⟨b,y',by unfold Ac8;simp only [ho];exact⟨off,T,cs,i,g1,g5,g3⟩,h2',Z⟩
    ·exact h1.elim
   ·rcases hkx' with hkx|hkx|hkx
    ·simp only [hkx,hk] at hcl;simp [Gs] at hcl
    ·simp only [hkx,hk] at hcl;simp [Gs] at hcl
    ·exact absurd ⟨hkx,hk⟩ hD
   ·rcases hkx' with hkx|hkx|hkx<;>(simp only [hkx,hk] at hcl;simp [Gs] at hcl)
   ·obtain⟨v',h1,rfl⟩:=he'
    refine⟨v', ?_,Z⟩
    have hU: ∀x∈U,x.1∈E.hid:=by
     by_cases hkx:kdo E.ks true ops x= .m
     ·intro z hz
      obtain⟨vs,c,v',h9⟩:=hcon hkx z hz
      exact hH x hxo (hI.mr hkx hk) _ _ _ _ _ h9 z hz
     ·rw [hpur hkx];exact λ_ hx=>(nomatch hx)
    unfold loadH at*
    split at h1
    ·rename_i v2 hev
     cases h1
     have:=hn' (Jw E (over L (over U s.own)) (seen L s.nw)) _ (ZB (E:=E) (own:=s.own) (nw:=s.nw) hU hL) (λa ha=>bq (k:=n') hU (λx hx=>by have:=hbig x hx;omega) a ha) hev
     rw [this]
    ·cases h1
   ·exact he'
  ·rename_i hw
   have hw': ¬Region.wanted y (Ee ops s.t)=true:=hw
   rw [V9 hw'];exact he'
theorem Fin.next{E:Env}{g:Y3}{ops:Array Oper}{o:Oper}{s s':St}(hf:Fin s)(h:NxW E g ops o s s'):Fin s':=by
 obtain⟨m,hm⟩:=hf
 obtain⟨e,hx,hd⟩:=h
 cases e with
 |val v=>simp only [Do] at hd;subst hd;exact⟨m,hm⟩
 |new x=>
  obtain⟨r,_,_,rfl⟩:=hd
  refine⟨max m (r+1),λb hb=> ?_⟩
  show upd s.own r _ b=none
  rw [Cg _ _ (by omega)];exact hm b (by omega)
 |sto b y=>
  obtain⟨z,hz⟩:=hx.own
  simp only [Do] at hd;subst hd
  refine⟨m,λb' hb'=> ?_⟩
  have:b'≠b:=by intro e;subst e;rw [hm _ hb'] at hz;cases hz
  show upd s.own b _ b'=none
  rw [Cg _ _ this];exact hm b' hb'
 |gen p=>
  have hG:=hx.genW
  obtain⟨v,L,U,hpv,hL,rfl⟩:=hd
  have hmax: ∃n,∀x∈L,x.1<n:=by
   clear hpv hL
   induction L with
   |nil=>exact⟨0,λx hx=>nomatch hx⟩
   |cons y L ih=>
    obtain⟨n,hn⟩:=ih
    refine⟨max n (y.1+1),λx hx=> ?_⟩
    rcases List.mem_cons.1 hx with rfl|hx
    ·omega
    ·have:=hn x hx;omega
  obtain⟨n,hn⟩:=hmax
  refine⟨max m n,λb hb=> ?_⟩
  show over L (over U s.own) b=none
  rw [Dv (λx hx e=>by have:=hn x hx;omega),Dv (λx hx e=> ?_)]
  ·exact hm b (by omega)
  ·obtain⟨⟨y,hy⟩,_⟩:=hG.upO v L U hpv x hx
   rw [e,hm b (by omega)] at hy;cases hy
def jT(b:Array Oper)(c:Y0 (Nat×Nat)):Y3:=c.all λa=>b.toList.all λx=>x.dst !=some a.1&&x.dst !=some a.2
theorem Sep.next{E:Env}{g:Y3}{ops:Array Oper}{ps:Y0 (Nat×Nat)}{o:Oper}{s s':St}(hp:jT ops ps=true)(ho:o∈ops.toList)(hs:Sep ps s.t)(h:NxW E g ops o s s'):Sep ps s'.t:=by
 obtain⟨e,hx,hd⟩:=h
 have key: ∀v,Sep ps (putT s.t o.dst v):=by
  intro v pq hpq
  simp only [jT,List.all_eq_true,Bool.and_eq_true,bne_iff_ne,ne_eq] at hp
  obtain⟨h1,h2⟩:=hp pq hpq o ho
  have e1:putT s.t o.dst v pq.1=s.t pq.1:=by
   cases hdst:o.dst with
   |none=>rfl
   |some k=>rw [hdst] at h1;exact Cg _ _ (λe=>h1 (by rw [e]))
  have e2:putT s.t o.dst v pq.2=s.t pq.2:=by
   cases hdst:o.dst with
   |none=>rfl
   |some k=>rw [hdst] at h2;exact Cg _ _ (λe=>h2 (by rw [e]))
  rw [e1,e2];exact hs pq hpq
 cases e with
 |val v=>simp only [Do] at hd;subst hd;exact key v
 |new x=>obtain⟨r,_,_,rfl⟩:=hd;exact key _
 |sto b y=>simp only [Do] at hd;subst hd;exact key _
 |gen p=>obtain⟨v,L,U,_,_,rfl⟩:=hd;exact key _
theorem Indep.square{E:Env}{ops:Array Oper}{ps:Y0 (Nat×Nat)}{x y:Oper}(hI:Indep E.ks ops ps x y){s s1 s2:St}{ex ey:Fx}(hx:Aa9 E true ops x s ex)(hy:Aa9 E true ops y s ey)(h1:Do E true y s ey s1)(h2:Do E true x s1 ex s2): ∃s1',Do E true x s ex s1'/\Do E true y s1' ey s2:=by
 have hcl:=hI.cl
 have kx:=hx.kind
 have ky:=hy.kind
 have ox:=λb z (he:ex= .sto b z)=>Aa9.own (by rw [<-he];exact hx)
 have oy:=λb z (he:ey= .sto b z)=>Aa9.own (by rw [<-he];exact hy)
 have pc:=λv u=>jS s.t v u hI.ne
 have gx:=λp (he:ex= .gen p)=>Aa9.genW (p:=p) (by rw [<-he];exact hx)
 have gy:=λp (he:ey= .gen p)=>Aa9.genW (p:=p) (by rw [<-he];exact hy)
 cases ex with
 |val v=>
  cases ey with
  |val u=>simp only [Do] at*;subst h1;subst h2;exact⟨_,Z,by simp [pc]⟩
  |new z=>
   obtain⟨r,hr,hn,rfl⟩:=h1
   simp only [Do] at h2;subst h2
   exact⟨_,Z,r,hr,hn,by simp [pc]⟩
  |sto b z=>simp only [Do] at*;subst h1;subst h2;exact⟨_,Z,by simp [pc]⟩
  |gen q=>
   obtain⟨v',L,U,hq,hL,rfl⟩:=h1
   simp only [Do] at h2;subst h2
   exact⟨_,Z,v',L,U,hq,hL,by simp [pc]⟩
 |new z=>
  cases ey with
  |val u=>
   simp only [Do] at h1;subst h1
   obtain⟨r,hr,hn,rfl⟩:=h2
   exact⟨_,⟨r,hr,hn,Z⟩,by simp [Do,pc]⟩
  |new z'=>
   obtain⟨r',hr',hn',rfl⟩:=h1
   obtain⟨r,hr,hn,rfl⟩:=h2
   have hne:r≠r':=by intro e;subst e;simp [Ef] at hn
   simp only [Cg _ _ hne] at hn
   refine⟨_,⟨r,hr,hn,Z⟩,r',hr', ?_, ?_⟩
   ·show upd s.own r _ r'=none
    rw [Cg _ _ hne.symm];exact hn'
   ·simp only [if_true,pc,St.mk.injEq,true_and]
    exact⟨QU _ _ _ hne.symm,QU _ _ _ hne.symm⟩
  |sto b y=>
   obtain⟨w,hw⟩:=oy b y Z
   simp only [Do] at h1;subst h1
   obtain⟨r,hr,hn,rfl⟩:=h2
   have hne:r≠b:=by intro e;subst e;simp [Ef] at hn
   simp only [Cg _ _ hne] at hn
   refine⟨_,⟨r,hr,hn,Z⟩, ?_⟩
   simp only [Do,pc,St.mk.injEq,true_and,and_true]
   exact QU _ _ _ hne.symm
  |gen q=>
   have hG:=gy q Z
   obtain⟨v',L,U,hq,hL,rfl⟩:=h1
   obtain⟨r,hr,hn,rfl⟩:=h2
   change over L (over U s.own) r=none at hn
   have hnd:=(hG.nod v' L U hq).1
   have n1: ∀x∈L,x.1≠r:=λx hx e=>by subst e;rw [Mm hnd hx] at hn;cases hn
   rw [Dv n1] at hn
   have n2: ∀x∈U,x.1≠r:=λx hx e=>by
    unfold over at hn
    cases hf:U.find? (λx=>x.1==r)with
    |none=>exact absurd e (by simpa using List.find?_eq_none.1 hf x hx)
    |some x=>rw [hf] at hn;cases hn
   rw [Dv n2] at hn
   refine⟨_,⟨r,hr,hn,Z⟩,v',L,U,hq,λx hx=>⟨(hL x hx).1, ?_⟩, ?_⟩
   ·show upd s.own r _ x.1=none
    rw [Cg _ _ (n1 x hx)];exact(hL x hx).2
   ·simp only [if_true,pc,St.mk.injEq,true_and]
    exact⟨by rw [Nh n2,Nh n1],by rw [bV n1]⟩
 |sto b z=>
  obtain⟨w,hw⟩:=ox b z Z
  cases ey with
  |val u=>simp only [Do] at*;subst h1;subst h2;exact⟨_,Z,by simp [pc]⟩
  |new z'=>
   obtain⟨r,hr,hn,rfl⟩:=h1
   simp only [Do] at h2;subst h2
   have hne:b≠r:=by intro e;subst e;rw [hn] at hw;cases hw
   refine⟨_,Z,r,hr, ?_, ?_⟩
   ·show upd s.own b _ r=none
    rw [Cg _ _ hne.symm];exact hn
   ·simp only [pc,St.mk.injEq,true_and,and_true]
    exact QU _ _ _ hne.symm
  |gen q=>
   have hG:=gy q Z
   obtain⟨v',L,U,hq,hL,rfl⟩:=h1
   simp only [Do] at h2;subst h2
   rcases kx with⟨kx,_⟩|⟨kx,hnw⟩
   ·rcases ky with⟨ky,_⟩|⟨ky,_⟩|⟨ky,_⟩<;>(simp only [kx,ky] at hcl;simp [Gs,Kd.mem] at hcl)
   ·have n1: ∀x∈L,x.1≠b:=λx hx e=>by have:=(hL x hx).2;rw [e,hw] at this;cases this
    have n2: ∀x∈U,x.1≠b:=λx hx e=>by have:=(hG.upO v' L U hq x hx).2;rw [e,hnw] at this;cases this
    refine⟨_,Z,v',L,U,hq,λx hx=>⟨(hL x hx).1, ?_⟩, ?_⟩
    ·show upd s.own b _ x.1=none
     rw [Cg _ _ (n1 x hx)];exact(hL x hx).2
    ·simp only [pc,St.mk.injEq,true_and,and_true]
     rw [Nh n2,Nh n1]
  |sto b' z'=>
   rcases kx with⟨kx,_⟩|⟨kx,_⟩<;>rcases ky with⟨ky,_⟩|⟨ky,_⟩<;>(simp only [kx,ky] at hcl;simp [Gs,Kd.mem] at hcl)
 |gen p=>
  have hG:=gx p Z
  cases ey with
  |val u=>
   simp only [Do] at h1;subst h1
   obtain⟨v',L,U,hq,hL,rfl⟩:=h2
   exact⟨_,⟨v',L,U,hq,hL,Z⟩,by simp [Do,pc]⟩
  |new z=>
   obtain⟨r,hr,hn,rfl⟩:=h1
   obtain⟨v',L,U,hq,hL,rfl⟩:=h2
   have n1: ∀x∈L,x.1≠r:=λx hx e=>by subst e;have:=(hL x hx).2;change upd s.own x.1 _ x.1=none at this;rw [Ef] at this;cases this
   have n2: ∀x∈U,x.1≠r:=λx hx e=>by obtain⟨⟨y,hy⟩,_⟩:=hG.upO v' L U hq x hx;rw [e,hn] at hy;cases hy
   refine⟨_,⟨v',L,U,hq,λx hx=>⟨(hL x hx).1, ?_⟩,Z⟩,r,hr, ?_, ?_⟩
   ·have:=(hL x hx).2;change upd s.own r _ x.1=none at this;rwa [Cg _ _ (n1 x hx)] at this
   ·show over L (over U s.own) r=none
    rw [Dv n1,Dv n2];exact hn
   ·simp only [if_true,pc,St.mk.injEq,true_and]
    exact⟨by rw [Nh n2,Nh n1],by rw [bV n1]⟩
  |sto b y'=>
   obtain⟨w,hw⟩:=oy b y' Z
   simp only [Do] at h1;subst h1
   obtain⟨v',L,U,hq,hL,rfl⟩:=h2
   rcases ky with⟨ky,_⟩|⟨ky,hnw⟩
   ·rcases kx with⟨kx,_⟩|⟨kx,_⟩|⟨kx,_⟩<;>(simp only [kx,ky] at hcl;simp [Gs,Kd.mem] at hcl)
   ·have n1: ∀x∈L,x.1≠b:=λx hx e=>by subst e;have:=(hL x hx).2;change upd s.own x.1 _ x.1=none at this;rw [Ef] at this;cases this
    have n2: ∀x∈U,x.1≠b:=λx hx e=>by have:=(hG.upO v' L U hq x hx).2;rw [e,hnw] at this;cases this
    refine⟨_,⟨v',L,U,hq,λx hx=>⟨(hL x hx).1, ?_⟩,Z⟩, ?_⟩
    ·have:=(hL x hx).2;change upd s.own b _ x.1=none at this;rwa [Cg _ _ (n1 x hx)] at this
    ·simp only [Do,pc,St.mk.injEq,true_and,and_true]
     rw [Nh n2,Nh n1]
  |gen q=>
   have hkk:kdo E.ks true ops x≠ .m/\kdo E.ks true ops y≠ .m:=by
    rcases kx with⟨kx,_⟩|⟨kx,_⟩|⟨kx,_⟩<;>rcases ky with⟨ky,_⟩|⟨ky,_⟩|⟨ky,_⟩<;>first|(refine⟨?_, ?_⟩<;>(first|rw [kx]|rw [ky])<;>decide)|(simp only [kx,ky] at hcl;simp [Gs] at hcl)
   have hGy:=gy q Z
   obtain⟨v',L',U',hq,hL',rfl⟩:=h1
   obtain⟨v,L,U,hp,hL,rfl⟩:=h2
   obtain rfl:=hx.genPur hkk.1 hp
   obtain rfl:=hy.genPur hkk.2 hq
   have hnd:=(hG.nod v L [] hp).1
   have hnd':=(hGy.nod v' L' [] hq).1
   have ov: ∀own,over [] own=own:=λown=>Z
   have dis: ∀a∈L,∀c∈L',a.1≠c.1:=λa ha c hc e=>by
    have h3:=(hL a ha).2
    change over L' (over [] s.own) a.1=none at h3
    rw [e,Mm hnd' hc] at h3;cases h3
   refine⟨_,⟨v,L,[],hp,λa ha=>⟨(hL a ha).1, ?_⟩,Z⟩,v',L',[],hq,λc hc=>⟨(hL' c hc).1, ?_⟩, ?_⟩
   ·have h3:=(hL a ha).2
    change over L' (over [] s.own) a.1=none at h3
    rwa [Dv (λc hc e=>dis a ha c hc e.symm),ov] at h3
   ·show over L (over [] s.own) c.1=none
    rw [Dv (λa ha=>dis a ha c hc),ov];exact(hL' c hc).2
   ·simp only [ov,pc,St.mk.injEq,true_and]
    refine⟨?_, ?_⟩
    ·funext k
     by_cases h9: ∃a∈L,a.1=k
     ·obtain⟨a,ha,rfl⟩:=h9
      rw [Mm hnd ha,Dv (λc hc e=>dis a ha c hc e.symm),Mm hnd ha]
     ·have h9': ∀a∈L,a.1≠k:=λa ha e=>h9 ⟨a,ha,e⟩
      rw [Dv h9']
      by_cases h8: ∃c∈L',c.1=k
      ·obtain⟨c,hc,rfl⟩:=h8
       rw [Mm hnd' hc,Mm hnd' hc]
      ·have h8': ∀c∈L',c.1≠k:=λc hc e=>h8 ⟨c,hc,e⟩
       rw [Dv h8',Dv h8',Dv h9']
    ·funext k
     by_cases h9: ∃a∈L,a.1=k
     ·obtain⟨a,ha,rfl⟩:=h9
      rw [Rf ha,Jf (λc hc e=>dis a ha c hc e.symm),Rf ha]
     ·have h9': ∀a∈L,a.1≠k:=λa ha e=>h9 ⟨a,ha,e⟩
      rw [Jf h9']
      by_cases h8: ∃c∈L',c.1=k
      ·obtain⟨c,hc,rfl⟩:=h8
       rw [Rf hc,Rf hc]
      ·have h8': ∀c∈L',c.1≠k:=λc hc e=>h8 ⟨c,hc,e⟩
       rw [Jf h8',Jf h8',Jf h9']
theorem th{E:Env}{ops:Array Oper}{ps:Y0 (Nat×Nat)}{x y:Oper}(hI:Indep E.ks ops ps x y)(hD: ¬(kdo E.ks true ops x= .bl/\kdo E.ks true ops y= .g))(hH:XC E ops){s:St}{K:St->Prop}(hf:Fin s)(hp:jT ops ps=true)(hxo:x∈ops.toList)(hyo:y∈ops.toList)(hsep:Sep ps s.t)(hx:OkW E true ops x s)(h: ∀s1,NxW E true ops x s s1->OkW E true ops y s1/\ ∀s2,NxW E true ops y s1 s2->K s2):
  OkW E true ops y s/\ ∀s1,NxW E true ops y s s1->OkW E true ops x s1/\ ∀s2,NxW E true ops x s1 s2->K s2:=by
 obtain⟨dx,ex,hex⟩:=hx
 obtain⟨ey,hey⟩:=hI.back hD hH hxo hf hsep hex (λs1 h1=>(h s1 ⟨ex,hex,h1⟩).1.2)
 obtain⟨s0,hs0,_⟩:=Do.some (E:=E) (o:=x) hf hex 0
 refine⟨⟨(h s0 ⟨ex,hex,hs0⟩).1.1,ey,hey⟩,λs1 h1=> ?_⟩
 have hsep1:=hsep.next hp hyo h1
 obtain⟨ey',hy',hd'⟩:=h1
 have hx1:=hI.symm.fwd hH hyo hsep hy' hd' hex
 refine⟨⟨dx,ex,hx1⟩,λs2 h2=> ?_⟩
 obtain⟨ex',hx',hdx'⟩:=h2
 obtain rfl:=hx'.unique hx1
 obtain⟨s3,h3,h4⟩:=hI.square hex hy' hd' hdx'
 exact(h s3 ⟨ex',hex,h3⟩).2 s2 ⟨ey',hI.fwd hH hxo hsep hex h3 hy',h4⟩
def kN(E:Env)(ops:Array Oper)(Q:St->Prop):Nat->Array Y3->St->Prop
 |0,listed,s=>Region.ready .any ops listed=[]/\Q s
 |n+1,listed,s=>(Region.ready .any ops listed=[]->Q s)/\
  ∀i∈Region.ready .any ops listed,∀o,ops[i]? =some o->OkW E true ops o s/\ ∀s',NxW E true ops o s s'->kN E ops Q n (listed.setIfInBounds i true) s'
theorem gC{E:Env}{ops:Array Oper}{ps:Y0 (Nat×Nat)}{Q:St->Prop}(hH:XC E ops)(hp:jT ops ps=true){i:Nat}{oi:Oper}(hi:ops[i]? =some oi)(bl:Nat->Y3)(hbl: ∀j oj,ops[j]? =some oj->bl j=true-> ∃e∈oj.after,Region.binds .any e=true/\(e.on=i\/bl e.on=true)):
  ∀(n:Nat) (listed:Array Y3) (s:St),Fin s->Sep ps s.t->(∀j,bl j=true->listed.getD j true=false)->
   (∀j oj,ops[j]? =some oj->j≠i->listed.getD j true=false->bl j=false->Indep E.ks ops ps oi oj/\ ¬(kdo E.ks true ops oi= .bl/\kdo E.ks true ops oj= .g))->
   i∈Region.ready .any ops listed->OkW E true ops oi s->
   (∀s',NxW E true ops oi s s'->kN E ops Q n (listed.setIfInBounds i true) s')->kN E ops Q (n+1) listed s:=by
 intro n
 induction n with
 |zero=>
  intro listed s hf _ _ _ hr ho H
  refine⟨λh=>(by rw [h] at hr;cases hr),λj hj oj hoj=> ?_⟩
  by_cases hji:j=i
  ·subst hji;rw [hi] at hoj;cases hoj;exact⟨ho,H⟩
  ·obtain⟨_,e,he⟩:=ho
   obtain⟨s',hs',_⟩:=Do.some (E:=E) (o:=oi) hf he 0
   have:=ready_mono hj hji
   rw [(H s' ⟨e,he,hs'⟩).1] at this
   cases this
 |succ n ih=>
  intro listed s hf hsep hblu hfree hr ho H
  refine⟨λh=>(by rw [h] at hr;cases hr),λj hj oj hoj=> ?_⟩
  by_cases hji:j=i
  ·subst hji;rw [hi] at hoj;cases hoj;exact⟨ho,H⟩
  ·obtain⟨hjun,oj',hoj',hall⟩:=mem_ready.1 hj
   rw [hoj] at hoj';cases hoj'
   have hun: ∀(k:Nat),listed.getD k true=false->listed.getD k false=true->False:=λk h0 h1=>by
    rcases Nat.lt_or_ge k listed.size with h'|h'
    ·simp [h'] at h0 h1;rw [h0] at h1;cases h1
    ·simp [Array.getElem?_eq_none h'] at h1
   have hbj:bl j=false:=by
    cases hb:bl j with
    |false=>rfl
    |true=>
     obtain⟨e,he,hbi,h|h⟩:=hbl j oj hoj hb
     ·have h1:=hall e he hbi
      rw [h] at h1
      exact(hun i (mem_ready.1 hr).1 h1).elim
     ·exact(hun e.on (hblu _ h) (hall e he hbi)).elim
   obtain⟨hI,hD⟩:=hfree j oj hoj hji hjun hbj
   have hd:=th (K:=kN E ops Q n ((listed.setIfInBounds i true).setIfInBounds j true)) hI hD hH hf hp (by have:=Array.mem_of_getElem? hi;simpa using this) (by have:=Array.mem_of_getElem? hoj;simpa using this) hsep ho (λs1 h1=>(H s1 h1).2 j (ready_mono hj hji) oj hoj)
   refine⟨hd.1,λs1 h1=> ?_⟩
   refine ih (listed.setIfInBounds j true) s1 (hf.next h1) (hsep.next hp (by have:=Array.mem_of_getElem? hoj;simpa using this) h1) (λk hk=>by
    have hjk:j≠k:=by intro e;subst e;rw [hbj] at hk;cases hk
    rw [getD_set_ne true hjk];exact hblu k hk) ?_ (ready_mono hr (Ne.symm hji)) (hd.2 s1 h1).1 (λs2 h2=> ?_)
   ·intro k ok hk hki hun hno
    refine hfree k ok hk hki ?_ hno
    by_cases hjk:j=k
    ·subst hjk;exact hjun
    ·rw [getD_set_ne true hjk] at hun;exact hun
   ·rw [Array.setIfInBounds_comm _ _ hji]
    exact(hd.2 s1 h1).2 s2 h2
def Uj(b:Y0 (Y1 Tmp×Y3))(a:Array Oper)(c:Y0 (Nat×Nat))(x y:Oper):Y3:=x.apart a y&& !TF b a c x y
theorem Indep.of_B{ks:Y0 (Y1 Tmp×Y3)}{ops:Array Oper}{ps:Y0 (Nat×Nat)}{x y:Oper}(h:Uj ks ops ps x y=true):Indep ks ops ps x y:=by
 simp only [Uj,Bool.and_eq_true,Bool.not_eq_true'] at h
 obtain⟨h1,h2,h3⟩:=Oper.apart_spec h.1
 have hc:=h.2
 refine⟨λk hk=>h1 k hk,λk hk=>h3 k hk,λk hk=>h2 k hk, ?_,λa b=> ?_,λa b=> ?_,λa b=> ?_,λa b=> ?_,λa b=> ?_,λa b=> ?_⟩
 ·unfold TF at hc
  split at hc
  ·rename_i a b;exact .inl ⟨a,b⟩
  ·rename_i a b;exact .inr (.inl ⟨a,b⟩)
  ·rename_i a b;right;right;right;right;left;rw [a,b];rfl
  ·rename_i a b;right;right;right;right;left;rw [a,b];rfl
  ·rename_i a b;exact .inr (.inr (.inl ⟨a,b⟩))
  ·rename_i a b;exact .inr (.inr (.inr (.inl ⟨a,b⟩)))
  ·rename_i a b;rw [Bool.not_eq_false'] at hc;exact .inr (.inr (.inr (.inr (.inr (.inl ⟨a,b,hc⟩)))))
  ·exact .inr (.inr (.inr (.inr (.inl hc))))
 ·simp only [TF,a,b,Bool.not_eq_false'] at hc;exact hc
 ·simp only [TF,a,b,Bool.not_eq_false'] at hc;exact hc
 ·simp only [TF,a,b,Bool.not_eq_false'] at hc;exact hc
 ·simp only [TF,a,b,Bool.not_eq_false'] at hc;exact hc
 ·simp only [TF,a,b,Bool.not_eq_false'] at hc;exact hc
 ·simp only [TF,a,b,Bool.not_eq_false'] at hc;exact hc
theorem Indep.dir_of_B{ks:Y0 (Y1 Tmp×Y3)}{ops:Array Oper}{ps:Y0 (Nat×Nat)}{x y:Oper}(h:Uj ks ops ps x y=true): ¬(kdo ks true ops x= .bl/\kdo ks true ops y= .g):=by
 rintro⟨a,b⟩
 simp only [Uj,Bool.and_eq_true,Bool.not_eq_true'] at h
 have hc:=h.2
 simp only [TF,a,b,Gs] at hc
 cases hc
def blockB(b:Array Oper)(c:Array Y3)(i:Nat):Array Y3:=
 (List.range b.size).foldl (λa j=>a.setIfInBounds j (match b[j]? with
  |some oj=> !(c.getD j true)&&oj.after.any (λe=>Region.binds .any e&&(e.on==i||(decide (e.on<b.size)&&a.getD e.on false)))
  |none=>false)) (Array.replicate b.size false)
def freeB(d:Y0 (Y1 Tmp×Y3))(c:Array Oper)(f:Y0 (Nat×Nat))(b:Array Y3)(i:Nat):Y3:=
 match c[i]? with
 |none=>false
 |some oi=>freeA (blockB c b i) oi
where freeA (a:Array Y3) (oi:Oper):Y3:=(List.range c.size).all λj=>match c[j]? with
  |some oj=>if a.getD j false then !(b.getD j true)&&oj.after.any (λe=>Region.binds .any e&&(e.on==i||(decide (e.on<c.size)&&a.getD e.on false)))
   else j==i||b.getD j true||Uj d c f oi oj
  |none=>true
theorem ga{ks:Y0 (Y1 Tmp×Y3)}{ops:Array Oper}{ps:Y0 (Nat×Nat)}{i:Nat}{oi:Oper}{listed:Array Y3}(hi:ops[i]? =some oi)(h:freeB ks ops ps listed i=true):
  ∃bl:Nat->Y3,(∀j oj,ops[j]? =some oj->bl j=true-> ∃e∈oj.after,Region.binds .any e=true/\(e.on=i\/bl e.on=true))/\(∀j,bl j=true->listed.getD j true=false)/\
   ∀j oj,ops[j]? =some oj->j≠i->listed.getD j true=false->bl j=false->Indep ks ops ps oi oj/\ ¬(kdo ks true ops oi= .bl/\kdo ks true ops oj= .g):=by
 unfold freeB at h
 rw [hi] at h
 simp only at h
 generalize blockB ops listed i=a at h
 unfold freeB.freeA at h
 rw [List.all_eq_true] at h
 have hlt: ∀j oj,ops[j]? =some oj->j<ops.size:=λj oj hj=>(Array.getElem?_eq_some_iff.1 hj).1
 have key: ∀j oj,ops[j]? =some oj->(if a.getD j false then !(listed.getD j true)&&oj.after.any (λe=>Region.binds .any e&&(e.on==i||(decide (e.on<ops.size)&&a.getD e.on false)))else j==i||listed.getD j true||Uj ks ops ps oi oj)=true:=λj oj hj=>by
  have:=h j (List.mem_range.2 (hlt j oj hj))
  rw [hj] at this;exact this
 refine⟨λj=>decide (j<ops.size)&&a.getD j false,λj oj hj hb=> ?_,λj hb=> ?_,λj oj hj hne hun hb=> ?_⟩
 ·simp only [Bool.and_eq_true,decide_eq_true_eq] at hb
  have h1:=key j oj hj
  rw [V8 hb.2] at h1
  simp only [Bool.and_eq_true,Array.any_eq_true] at h1
  obtain⟨_,k,hk,h2,h3⟩:=h1
  refine⟨oj.after[k],Array.getElem_mem hk,h2, ?_⟩
  simp only [Bool.or_eq_true,beq_iff_eq,Bool.and_eq_true,decide_eq_true_eq] at h3 ⊢
  exact h3
 ·simp only [Bool.and_eq_true,decide_eq_true_eq] at hb
  have h1:=key j ops[j] (Array.getElem?_eq_getElem hb.1)
  rw [V8 hb.2] at h1
  simp only [Bool.and_eq_true,Bool.not_eq_true'] at h1
  exact h1.1
 ·have hb':a.getD j false=false:=by
   simp only [Bool.and_eq_false_iff,decide_eq_false_iff_not] at hb
   rcases hb with hb|hb
   ·exact absurd (hlt j oj hj) hb
   ·exact hb
  have h1:=key j oj hj
  rw [hb'] at h1
  simp only [Bool.false_eq_true,if_false,Bool.or_eq_true,beq_iff_eq] at h1
  rcases h1 with(h1|h1)|h1
  ·exact absurd h1 hne
  ·rw [hun] at h1;cases h1
  ·exact⟨Indep.of_B h1,Indep.dir_of_B h1⟩
def lU(ks:Y0 (Y1 Tmp×Y3))(ops:Array Oper)(ps:Y0 (Nat×Nat)):Y0 Nat->Array Y3->Y3
 | [],listed=>(Region.ready .any ops listed).isEmpty
 |k::π,listed=>(Region.ready .any ops listed).contains k&&freeB ks ops ps listed k&&lU ks ops ps π (listed.setIfInBounds k true)
def pick(a:Array Oper)(π:Y0 Nat):Y0 Oper:=π.filterMap λi=>a[i]?
def VY(c:Y0 (Y1 Tmp×Y3))(a:Array Oper)(b:Y0 (Nat×Nat))(π:Y0 Nat):Y3:=jT a b&&lU c a b π (Array.replicate a.size false)&&π.length==a.size&&π.all λi=>decide (i<a.size)
def ya(a:Array Oper)(b:Y0 (Nat×Nat)):Y3:=VY [] a b (List.range a.size)
theorem Xy{E:Env}{ops:Array Oper}{ps:Y0 (Nat×Nat)}{Q:St->Prop}(hH:XC E ops)(hp:jT ops ps=true): ∀(π:Y0 Nat) (listed:Array Y3) (s:St),Fin s->Sep ps s.t->(∀i∈π,i<ops.size)->
  lU E.ks ops ps π listed=true->lexK E true ops Q (pick ops π) s->kN E ops Q π.length listed s
 | [],_,_,_,_,_,hB,h=>⟨by simpa [lU] using hB,h⟩
 |k::π,listed,s,hf,hsep,hl,hB,h=>by
  have hk:k<ops.size:=hl k (by simp)
  have h0:ops[k]? =some ops[k]:=Array.getElem?_eq_getElem hk
  have e:pick ops (k::π)=ops[k]::pick ops π:=by unfold pick;rw [List.filterMap_cons,h0]
  rw [e] at h
  simp only [lU,Bool.and_eq_true] at hB
  obtain⟨⟨hr,hfr⟩,hB'⟩:=hB
  obtain⟨bl,hb1,hb2,hb3⟩:=ga h0 hfr
  obtain⟨_,_,hc,h1,h2⟩:=h
  obtain⟨rfl,rfl⟩:=hc Z
  refine gC hH hp h0 bl hb1 π.length listed s hf hsep hb2 hb3 (by simpa using hr) h1 (λs' hs'=> ?_)
  exact Xy hH hp π _ _ (hf.next hs') (hsep.next hp (by simp) hs') (λi hi=>hl i (List.mem_cons_of_mem _ hi)) hB' (h2 s' hs')
structure Kept(B:Nat)(F:Y0 Nat)(w w':World):Prop where
 os:w'.os=w.os
 tape:w'.tape=w.tape
 output:w'.output=w.output
 size:w.heap.size<=w'.heap.size
 block: ∀k,k<B->k ∉ F->w'.heap[k]? =w.heap[k]?
 keep: ∀k∈F,(∃T cs,Holds w k T cs)-> ∃T cs,Holds w' k T cs
 drawn:w.drawn<=w'.drawn
theorem Kept.refl(B:Nat)(F:Y0 Nat)(w:World):Kept B F w w:=⟨Z,Z,Z,Nat.le_refl _,λ_ _ _=>Z,λ_ _ h=>h,Nat.le_refl _⟩
theorem Kept.trans{B:Nat}{F:Y0 Nat}{a b c:World}(h:Kept B F a b)(k:Kept B F b c):Kept B F a c:=
 ⟨k.os.trans h.os,k.tape.trans h.tape,k.output.trans h.output,j5 h.size k.size,λi hi hf=>(k.block i hi hf).trans (h.block i hi hf),λi hi hh=>k.keep i hi (h.keep i hi hh),j5 h.drawn k.drawn⟩
theorem Kept.of_below{B C:Nat}{F:Y0 Nat}{a b:World}(h':Bel C a b)(hc:B<=C)(ha:a.heap.size<=C):Kept B F a b:=have h:=h'.below;⟨h.os,h.tape,h.output,h.size,λi hi _=>h.block i (by omega),λi _ ⟨T,cs,hh⟩=>⟨T,cs,hh.heap (h.block i (j4 hh.lt ha))⟩,h'.drawn⟩
theorem Kept.below{B:Nat}{a b:World}(h:Kept B [] a b):Bel B a b:=⟨⟨h.os,h.tape,h.output,h.size,λi hi=>h.block i hi (by simp)⟩,h.drawn⟩
theorem Kept.drew{B:Nat}{F:Y0 Nat}{a b:World}(h:Kept B F a b):Kept B F a {b with drawn:=b.drawn+1}:=⟨h.os,h.tape,h.output,h.size,h.block,λk hk hh=>by obtain⟨T,cs,h2⟩:=h.keep k hk hh;exact⟨T,cs,h2.heap Z⟩,Nat.le_succ_of_le h.drawn⟩
theorem Ps{w w':World}{p:Addr}(h:w'.heap[p.block]? =w.heap[p.block]?):w'.cell? p=w.cell? p:=by unfold World.cell?;rw [h]
structure Sim(E:Env)(w0:World)(s:St)(a:Act)(w:World):Prop where
 dfr:a.defers=[]
 sz:a.tmps.size=E.n
 tm: ∀k,a.tmps.getD k undef=s.t k
 bel:Kept E.base E.foot w0 w
 bs:E.base<=w.heap.size
 ro: ∀p v,E.ro p=some v->p.block<E.base/\p.block ∉ E.foot/\w.cell? p=some v
 own: ∀b T cs,s.own b=some (T,cs)->(E.base<=b\/b∈E.foot)/\Holds w b T cs
 iv: ∀w',Kept E.base E.foot w0 w'->E.inv w'
theorem Sim.fin{E:Env}{w0 w:World}{s:St}{a:Act}(h:Sim E w0 s a w):Fin s:=
 ⟨w.heap.size,λb hb=>by
  cases ho:s.own b with
  |none=>rfl
  |some x=>have:=(h.own b x.1 x.2 ho).2.lt;omega⟩
theorem Sim.eval{E:Env}{w0 w:World}{s:St}{a:Act}(h:Sim E w0 s a w):a.eval=rd s.t:=by
 funext x
 cases x with
 |tmp k=>exact h.tm k
 |_=>rfl
theorem Sim.put{E:Env}{w0 w:World}{s:St}{a:Act}(h:Sim E w0 s a w){d:Y1 Tmp}(hd: ∀k,d=some k->k<E.n)(v:Y2):
  Sim E w0 {s with t:=putT s.t d v} (a.put d v) w:=by
 cases d with
 |none=>exact h
 |some k=>
  have hk:=hd k Z
  refine⟨h.dfr,by simp [Act.put,h.sz],λj=> ?_,h.bel,h.bs,h.ro,h.own,h.iv⟩
  show(a.tmps.setIfInBounds k v).getD j undef=upd s.t k v j
  by_cases hj:j=k
  ·subst hj
   have:j<a.tmps.size:=by rw [h.sz];exact hk
   simp [Ef,this]
  ·rw [Cg _ _ hj,<-h.tm j]
   simp [Array.getElem?_setIfInBounds_ne (Ne.symm hj)]
theorem Sim.wanted{E:Env}{w0 w:World}{s:St}{a:Act}(h:Sim E w0 s a w)(ops:Array Oper)(o:Oper):
  Region.wanted o (yielded ops a.tmps)=Region.wanted o (Ee ops s.t):=by
 have:yielded ops a.tmps=Ee ops s.t:=by
  funext j
  unfold yielded Ee
  cases(ops[j]?).bind (·.dst)with
  |none=>rfl
  |some d=>
   have ht:=h.tm d
   simp only [q0,Option.map_some]
   cases hd:a.tmps[d]? with
   |none=>
    have:s.t d=undef:=by rw [<-ht];simp [hd]
    rw [this];rfl
   |some v=>
    have:s.t d=v:=by rw [<-ht];simp [hd]
    rw [this]
    cases v<;>rfl
 rw [this]
theorem Sim.below{E:Env}{w0 w w':World}{s:St}{a:Act}(h:Sim E w0 s a w)(hb':Bel w.heap.size w w'):Sim E w0 s a w':=by
 have hb:=hb'.below
 refine⟨h.dfr,h.sz,h.tm,h.bel.trans (.of_below hb' h.bs (Nat.le_refl _)),j5 h.bs hb.size,λp v hp=> ?_,λb T cs ho=> ?_,h.iv⟩
 ·obtain⟨h1,h2,h3⟩:=h.ro p v hp
  exact⟨h1,h2,by rw [hb.cell (p:=p) (j4 h1 h.bs)];exact h3⟩
 ·obtain⟨h1,h2⟩:=h.own b T cs ho
  exact⟨h1,h2.heap (hb.block b h2.lt)⟩
theorem Sim.ext{E:Env}{w0 w w':World}{s:St}{a:Act}(h:Sim E w0 s a w){L U:Y0 Bl}(hx:ExtW w w' L U)(hU: ∀x∈U,∃y,s.own x.1=some y):
  (∀x∈L,E.base<=x.1/\s.own x.1=none)/\Sim E w0 ⟨s.t,over L (over U s.own),seen L s.nw⟩ a w':=by
 have hin: ∀b y,s.own b=some y->b<w.heap.size:=by
  intro b y ho
  exact(h.own b y.1 y.2 ho).2.lt
 have hUf: ∀x∈U,E.base<=x.1\/x.1∈E.foot:=λx hxU=>by obtain⟨y,hy⟩:=hU x hxU;exact(h.own _ y.1 y.2 hy).1
 refine⟨λx hxL=>⟨j5 h.bs (hx.new x hxL).1, ?_⟩,h.dfr,h.sz,h.tm, ?_,j5 h.bs hx.size,λp v hp=> ?_,λb T cs ho=> ?_,h.iv⟩
 ·cases ho:s.own x.1 with
  |none=>rfl
  |some y=>have:=hin _ _ ho;have:=(hx.new x hxL).1;omega
 ·refine h.bel.trans ⟨hx.os,hx.tape,hx.output,hx.size,λk hk hf=>hx.same k (j4 hk h.bs) (λx hxU e=> ?_),λk _ ⟨T,cs,hh⟩=> ?_,hx.drawn⟩
  ·rcases hUf x hxU with h1|h1
   ·omega
   ·exact hf (e▸h1)
  ·by_cases hk: ∃x∈U,x.1=k
   ·obtain⟨x,hxU,rfl⟩:=hk;exact⟨_,_,hx.upd x hxU⟩
   ·exact⟨T,cs,hh.heap (hx.same k hh.lt (λx hxU e=>hk ⟨x,hxU,e⟩))⟩
 ·obtain⟨h1,h2,h3⟩:=h.ro p v hp
  refine⟨h1,h2, ?_⟩
  rw [Ps (hx.same _ (j4 h1 h.bs) (λx hxU e=> ?_))]
  ·exact h3
  ·rcases hUf x hxU with h4|h4
   ·omega
   ·exact h2 (e▸h4)
 ·rcases Zc ho with h1|⟨hL,h1⟩
  ·have:=hx.new _ h1
   exact⟨.inl (j5 h.bs this.1),this.2⟩
  ·rcases Zc h1 with h2|⟨hU2,h2⟩
   ·exact⟨hUf _ h2,hx.upd _ h2⟩
   ·obtain⟨h3,h4⟩:=h.own b T cs h2
    exact⟨h3,h4.heap (hx.same b (hin b _ h2) hU2)⟩
theorem Sim.draw{E:Env}{w0 w:World}{s:St}{a:Act}(h:Sim E w0 s a w):Sim E w0 s a {w with drawn:=w.drawn+1}:=
 ⟨h.dfr,h.sz,h.tm,h.bel.drew,h.bs,h.ro,h.own,h.iv⟩
theorem Ob{P:Program}{w:World}{ty:TypeId}{i:TypeInfo}(h:P.info? ty=some i):(sizeOf ty).run P w= .ok i.size w:=by
 simp [sizeOf,typeInfo,program,h,Sem.run,bind,Sem.bind,pure]
theorem RH{cs:Array Y2}{off:Nat}{vs:Array Y2}(h:off+vs.size<=cs.size):Jc cs off vs=(cs.toList.take off++vs.toList++cs.toList.drop (off+vs.size)).toArray:=by
 unfold Jc
 split
 ·rename_i h0
  obtain⟨rfl,h1⟩:=h0
  have:cs.toList.drop vs.size=[]:=by rw [List.drop_eq_nil_iff];simp;omega
  simp [this]
 ·split
  ·rename_i h1
   obtain⟨l⟩:=vs
   match l,h1 with
   | [x],_=>
    apply Array.ext'
    simp only [List.size_toArray,zg,zp,q7] at h
    simp only [Array.toList_setIfInBounds,List.size_toArray,zg,zp,q7]
    rw [List.set_eq_take_append_cons_drop,V8 (by simp;omega)]
    simp
  ·rfl
theorem QX{cs:Array Y2}{off:Nat}{vs:Array Y2}(h:off+vs.size<=cs.size):(Jc cs off vs).size=cs.size:=by
 rw [RH h]
 simp only [List.size_toArray,zf,q8,zq,Array.length_toList]
 omega
theorem Sim.cellA{E:Env}{w0 w:World}{s:St}{a:Act}(h:Sim E w0 s a w): ∀p v,cellA E s.own s.nw p=some v->w.cell? p=some v:=by
 intro p v hp
 unfold Eng.cellA at hp
 split at hp
 ·rename_i T cs ho
  split at hp
  ·cases hp
  ·rename_i hn
   simp only [Bool.or_eq_true,not_or,Bool.not_eq_true] at hn
   rcases(h.own _ _ _ ho).2 with⟨_,_,h2,_⟩|⟨rfl,_⟩|⟨rfl,_⟩
   ·simp [World.cell?,h2,hn.2,hp]
   ·simp at hp
   ·simp at hp
 ·split at hp
  ·exact(h.ro p v hp).2.2
  ·cases hp
theorem Sim.store{E:Env}{w0 w:World}{s:St}{a:Act}(h:Sim E w0 s a w){o:Oper}{b:Nat}{y:TypeId×Array Y2}(hst:Ac8 E s o b y)(hd: ∀d,o.dst=some d->d<E.n):
  ∃w',(execOp (rd s.t) o).run E.P w= .ok .skip w'/\Sim E w0 {s with t:=putT s.t o.dst undef,own:=upd s.own b (some y)} (a.put o.dst undef) w':=by
 unfold Ac8 at hst
 split at hst
 ·rename_i ty p x hop
  obtain⟨off,T,cs,i,hp,hown,hi,hsz,hle,hone,rfl⟩:=hst
  have hbw:=h.own b T cs hown
  by_cases hdead:T=Xe
  ·-- nothing is stored:the block has no cells
   have hz:cs= #[]:=by
    rcases hbw.2 with⟨h0,_⟩|⟨h0,_⟩|⟨h0,_⟩
    ·rw [hdead] at h0;exact absurd h0 (Nat.lt_irrefl _)
    ·exact h0
    ·exact h0
   subst hz
   have hv0:(rd s.t x).cells= #[]:=Array.eq_empty_of_size_eq_zero (by have h9:off+(rd s.t x).cells.size<=0:=hle;omega)
   have hsp:Jc #[] off (rd s.t x).cells= #[]:=Array.eq_empty_of_size_eq_zero (by have:=QX hle;simpa using this)
   refine⟨w, ?_, ?_⟩
   ·simp only [execOp,hop,Instr.storeAt,hp,Instr.sureAddr,storeVar,Sem.run_bind,pure,Sem.run,Result.andThen_ok,Ob hi]
    rw [V9 (by simpa using hsz),hv0]
    rfl
   ·have h2:=h.put hd undef
    refine⟨h2.dfr,h2.sz,h2.tm,h2.bel,h2.bs,h2.ro,λb' T' cs' ho'=> ?_,h2.iv⟩
    change upd s.own b (some (T,Jc #[] off (rd s.t x).cells)) b'=some (T',cs')at ho'
    by_cases hbb:b'=b
    ·subst hbb
     rw [Ef] at ho'
     cases ho'
     rw [hsp]
     exact h2.own b' T #[] hown
    ·rw [Cg _ _ hbb] at ho'
     exact h2.own b' T' cs' ho'
  have hst:=hbw.2.store hdead E.P off (rd s.t x).cells.toList (by simpa using hle) (λv hv=>hone v (by simpa using hv))
  have hrun:(execOp (rd s.t) o).run E.P w= .ok .skip (w.setRow b (Jc cs off (rd s.t x).cells)):=by
   simp only [execOp,hop,Instr.storeAt,hp,Instr.sureAddr,storeVar,Sem.run_bind,pure,Sem.run,Result.andThen_ok,Ob hi]
   rw [V9 (by simpa using hsz)]
   simp only [hst,Result.andThen_ok,RH hle]
   simp
  refine⟨_,hrun, ?_⟩
  have hne: ∀k,k<E.base->k ∉ E.foot->k≠b:=λk h1 h2 e=>by
   subst e
   rcases hbw.1 with h|h
   ·omega
   ·exact h2 h
  have hb:Kept E.base E.foot w (w.setRow b (Jc cs off (rd s.t x).cells)):=⟨Z,Z,Z,by simp,λk hk hf=>setRow_other _ _ _ _ (hne k hk hf),λk _ ⟨T1,c1,hh⟩=>by
   by_cases hkb:k=b
   ·subst hkb;exact⟨_,_,hbw.2.setRow _ (QX hle)⟩
   ·exact⟨T1,c1,hh.heap (setRow_other _ _ _ _ hkb)⟩,Nat.le_refl _⟩
  have h2:=h.put hd undef
  refine⟨h2.dfr,h2.sz,h2.tm,h2.bel.trans hb,by simpa using h2.bs,λq v hq=> ?_,λb' T' cs' ho'=> ?_,h2.iv⟩
  ·obtain⟨h3,h5,h4⟩:=h2.ro q v hq
   exact⟨h3,h5,by rw [Ps (hb.block _ h3 h5)];exact h4⟩
  ·change upd s.own b (some (T,Jc cs off (rd s.t x).cells)) b'=some (T',cs')at ho'
   by_cases hbb:b'=b
   ·subst hbb
    rw [Ef] at ho'
    cases ho'
    exact⟨hbw.1,hbw.2.setRow _ (QX hle)⟩
   ·rw [Cg _ _ hbb] at ho'
    exact⟨(h2.own b' T' cs' ho').1,(h2.own b' T' cs' ho').2.heap (setRow_other _ _ _ _ hbb)⟩
 ·exact hst.elim
theorem Sim.step{E:Env}{w0 w:World}{s:St}{a:Act}(h:Sim E w0 s a w){g:Y3}{ops:Array Oper}{o:Oper}{K:Act->World->Prop}{Q:Exit->Act->World->Prop}(ho:OkW E g ops o s)(hK: ∀s' a' w',NxW E g ops o s s'->Sim E w0 s' a' w'->K a' w'):
  if Region.wanted o (yielded ops a.tmps)then o.wp E.P a w K Q\/(o.asks E.P a w/\LetsOut Q)else K (a.put o.dst undef) w:=by
 rw [h.wanted ops o]
 obtain⟨hd,e,he⟩:=ho
 by_cases hw:Region.wanted o (Ee ops s.t)=true
 ·rw [V8 hw]
  left
  have hN: ∀s' a' w',Do E g o s e s'->Sim E w0 s' a' w'->K a' w':=λs' a' w' hdo hs=>hK s' a' w' ⟨e,he,hdo⟩ hs
  unfold Aa9 at he
  rw [V8 hw] at he
  unfold Oper.wp
  rw [h.eval]
  cases hk:kdo E.ks g ops o with
  |f=>
   simp only [hk] at he
   obtain⟨v,hy,rfl⟩:=he
   rcases hy with hy|⟨f,args,hy,hp⟩
   ·rw [SJ (λp v hp=>(h.ro p v hp).2.2) _ _ hy,Oper.upon_value]
    exact hN _ _ _ Z (h.put hd v)
   ·rw [SJ (λp v hp=>(h.ro p v hp).2.2) _ _ hy,Oper.upon_enter]
    refine(hp w).mono λe w' he=> ?_
    obtain⟨rfl,hb⟩:=he
    exact hN _ _ _ Z ((h.below hb).put hd v)
  |l=>
   simp only [hk] at he
   obtain⟨v,hl,rfl⟩:=he
   unfold loadOf at hl
   split at hl
   ·rename_i v' hev
    cases hl
    rw [SJ h.cellA _ _ hev,Oper.upon_value]
    exact hN _ _ _ Z (h.put hd v)
   ·cases hl
  |a=>
   simp only [hk] at he
   obtain⟨x,hx,rfl⟩:=he
   have hrun:(execOp (rd s.t) o).run E.P w= .ok (.value (.pointer (some ⟨w.heap.size,0,none⟩))) {w with heap:=w.heap.push (.cells x.2 x.1 (0,0))}:=by
    unfold allocOf at hx
    split at hx
    ·rename_i e hop
     split at hx
     case isFalse=>cases hx
     cases hi:E.P.info? e with
     |none=>simp [hi] at hx
     |some i=>
      simp only [hi,q0,Option.map_eq_some_iff] at hx
      obtain⟨z,hz,rfl⟩:=hx
      simp [execOp,hop,Instr.alloc,zeroValue,typeInfo,program,hi,hz,newVar,newRow,newObj,Sem.run,bind,Sem.bind,pure]
    ·rename_i e y hop
     split at hx
     case isFalse=>cases hx
     simp only [Option.some.injEq] at hx
     subst hx
     simp [execOp,hop,Instr.box,newVar,newRow,newObj,Sem.run,bind,Sem.bind,pure]
    ·cases hx
   rw [hrun,Oper.upon_value]
   have hfr:s.own w.heap.size=none:=by
    cases hq:s.own w.heap.size with
    |none=>rfl
    |some y=>have:=(h.own _ y.1 y.2 hq).2.lt;omega
   refine hN _ _ _ ⟨w.heap.size,h.bs,hfr,Z⟩ ?_
   have hb:Bel w.heap.size w {w with heap:=w.heap.push (.cells x.2 x.1 (0,0))}:=⟨⟨rfl,rfl,rfl,by simp,λk hk=>by
    show(w.heap.push _)[k]? =_
    rw [Array.getElem?_push,V9 (by omega)]⟩,Nat.le_refl _⟩
   have h2:=(h.below hb).put hd (.pointer (some ⟨w.heap.size,0,none⟩))
   refine⟨h2.dfr,h2.sz,h2.tm,h2.bel,h2.bs,h2.ro,λb T cs hown=> ?_,h2.iv⟩
   change upd s.own w.heap.size (some x) b=some (T,cs)at hown
   by_cases hbr:b=w.heap.size
   ·subst hbr
    rw [Ef] at hown
    cases hown
    exact⟨.inl h.bs, .of (gD hx) (by simp)⟩
   ·rw [Cg _ _ hbr] at hown
    exact h2.own b T cs hown
  |r=>
   simp only [hk] at he
   obtain⟨v,hl,rfl⟩:=he
   unfold loadH at hl
   split at hl
   ·rename_i v' hev
    cases hl
    rw [SJ (λp v hp=>h.cellA p v (tv hp)) _ _ hev,Oper.upon_value]
    exact hN _ _ _ Z (h.put hd v)
   ·cases hl
  |s=>
   simp only [hk] at he
   obtain⟨b,y,hst,_,rfl⟩:=he
   obtain⟨w',hrun,hsim⟩:=h.store hst hd
   rw [hrun]
   show o.upon E.P a K Q (.ok .skip _)
   rw [Oper.upon_skip]
   exact hN _ _ _ Z hsim
  |n=>
   simp only [hk] at he
   obtain⟨b,y,hst,_,rfl⟩:=he
   obtain⟨w',hrun,hsim⟩:=h.store hst hd
   rw [hrun]
   show o.upon E.P a K Q (.ok .skip _)
   rw [Oper.upon_skip]
   exact hN _ _ _ Z hsim
  |g=>
   simp only [hk] at he
   obtain⟨hG,rfl⟩:=he
   have hrun:=hG.run w ⟨h.bs,h.iv w h.bel⟩ h.cellA (λb y hb _=>(h.own b y.1 y.2 hb).2)
   have fin: ∀v w' L U,ExtW w w' L U->Ab6 E s o v L U->K (a.put o.dst v) w':=by
    intro v w' L U hx hp
    obtain⟨hL,hS⟩:=h.ext hx (λx hx=>(hG.upO v L U hp x hx).1)
    exact hN _ _ _ ⟨v,L,U,hp,hL,Z⟩ (hS.put hd v)
   rcases hrun with⟨v,w',L,U,hr,hx,hp⟩|⟨f,args,hr,hc⟩
   ·rw [hr,Oper.upon_value]
    exact fin v w' L U hx hp
   ·rw [hr,Oper.upon_enter]
    refine hc.mono λe w' he=> ?_
    obtain⟨v,L,U,rfl,hx,hp⟩:=he
    exact fin v w' L U hx hp
  |m=>
   simp only [hk] at he
   obtain⟨hG,rfl⟩:=he
   have hrun:=hG.run w ⟨h.bs,h.iv w h.bel⟩ h.cellA (λb y hb _=>(h.own b y.1 y.2 hb).2)
   have fin: ∀v w' L U,ExtW w w' L U->Ab6 E s o v L U->K (a.put o.dst v) w':=by
    intro v w' L U hx hp
    obtain⟨hL,hS⟩:=h.ext hx (λx hx=>(hG.upO v L U hp x hx).1)
    exact hN _ _ _ ⟨v,L,U,hp,hL,Z⟩ (hS.put hd v)
   rcases hrun with⟨v,w',L,U,hr,hx,hp⟩|⟨f,args,hr,hc⟩
   ·rw [hr,Oper.upon_value]
    exact fin v w' L U hx hp
   ·rw [hr,Oper.upon_enter]
    refine hc.mono λe w' he=> ?_
    obtain⟨v,L,U,rfl,hx,hp⟩:=he
    exact fin v w' L U hx hp
  |bl=>
   simp only [hk] at he
   obtain⟨hG,rfl⟩:=he
   have hrun:=hG.run w ⟨h.bs,h.iv w h.bel⟩ (λp v hp=>by
    unfold Eng.cellA at hp
    change (if p.block<E.base then E.ro p else none)=some v at hp
    split at hp
    ·exact(h.ro p v hp).2.2
    ·cases hp) (λb y hb _=>nomatch hb)
   have fin: ∀v w' L U,ExtW w w' L U->Ab6 E (blS s) o v L U->K (a.put o.dst v) w':=by
    intro v w' L U hx hp
    obtain⟨hL,hS⟩:=h.ext hx (λx hx=>by obtain⟨⟨_,h1⟩,_⟩:=hG.upO v L U hp x hx;cases h1)
    exact hN _ _ _ ⟨v,L,U,hp,hL,Z⟩ (hS.put hd v)
   rcases hrun with⟨v,w',L,U,hr,hx,hp⟩|⟨f,args,hr,hc⟩
   ·have hr':(execOp (rd s.t) o).run E.P w= .ok (.value v) w':=hr
    rw [hr',Oper.upon_value]
    exact fin v w' L U hx hp
   ·have hr':(execOp (rd s.t) o).run E.P w= .ok (.enter f args) w:=hr
    rw [hr',Oper.upon_enter]
    refine hc.mono λe w' he=> ?_
    obtain⟨v,L,U,rfl,hx,hp⟩:=he
    exact fin v w' L U hx hp
  |bad=>simp only [hk] at he
 ·rw [V9 hw]
  refine hK _ _ _ ⟨.val undef, ?_,Z⟩ (h.put hd undef)
  unfold Aa9
  rw [V9 hw]
theorem Sim.cn{E:Env}{ks:Y0 (Y1 Tmp×Y3)}{con:Con}{w0 w:World}{s:St}{a:Act}(h:Sim E w0 s a w):Sim {E with ks:=ks,con:=con} w0 s a w:=⟨h.dfr,h.sz,h.tm,h.bel,h.bs,h.ro,h.own,h.iv⟩
theorem Sim.un{E:Env}{ks:Y0 (Y1 Tmp×Y3)}{con:Con}{w0 w:World}{s:St}{a:Act}(h:Sim {E with ks:=ks,con:=con} w0 s a w):Sim E w0 s a w:=⟨h.dfr,h.sz,h.tm,h.bel,h.bs,h.ro,h.own,h.iv⟩
theorem Sim.list{E:Env}{w0:World}{g:Y3}{ops:Array Oper}{Q:St->Prop}{Q':Exit->Act->World->Prop}(hQ: ∀s a w,Q s->Sim E w0 s a w->Q' .normal a w):
  ∀(l:Y0 Oper) (s:St) (a:Act) (w:World),Sim E w0 s a w->lexK E g ops Q l s->wpList E.P ops Q' l a w
 | [],_,_,_,h,hl=>hQ _ _ _ hl h
 |_::l,_,_,_,h,⟨ks,con,_,h1,h2⟩=>(h.cn (ks:=ks) (con:=con)).step (g:=g) h1 (λs' a' w' hn hs=>Sim.list hQ l s' a' w' hs.un (h2 s' hn))
theorem Sim.any{E:Env}{w0:World}{ops:Array Oper}{Q:St->Prop}{Q':Exit->Act->World->Prop}(hQ: ∀s a w,Q s->Sim E w0 s a w->Q' .normal a w):
  ∀(n:Nat) (listed:Array Y3) (s:St) (a:Act) (w:World),Sim E w0 s a w->kN E ops Q n listed s->wpAny E.P .any ops Q' n listed a w
 |0,_,_,_,_,h,hl=>⟨hl.1,hQ _ _ _ hl.2 h⟩
 |n+1,listed,s,a,w,h,hl=>by
  refine⟨λh0=>hQ _ _ _ (hl.1 h0) h,λi hi=> ?_⟩
  unfold wpOp
  obtain⟨_,o,ho,_⟩:=mem_ready.1 hi
  have hl':=hl.2 i hi o ho
  simp only [ho]
  exact h.step (g:=true) hl'.1 (λs' a' w' hn hs=>Sim.any hQ n _ s' a' w' hs (hl'.2 s' hn))
def HC(E:Env)(s:St):ResultVar->Y1 Y2
 | .tmp k=>some (s.t k)
 | .cell k ty=>match s.t k with| .pointer (some a)=>ev E.P (cellA E s.own s.nw) (loadVar ty a)|_=>none
def MD(E:Env)(f:Array ResultVar)(s:St):Y1 Y2:=
 match f with
 |⟨[]⟩=>some (.tuple #[])
 |⟨[a]⟩=>HC E s a
 |⟨[a,b]⟩=>(HC E s a).bind λx=>(HC E s b).bind λy=>some (.tuple #[x,y])
 |⟨[a,b,c]⟩=>(HC E s a).bind λx=>(HC E s b).bind λy=>(HC E s c).bind λz=>some (.tuple #[x,y,z])
 |⟨[a,b,c,d]⟩=>(HC E s a).bind λx=>(HC E s b).bind λy=>(HC E s c).bind λz=>(HC E s d).bind λu=>some (.tuple #[x,y,z,u])
 |⟨[a,b,c,d,e]⟩=>(HC E s a).bind λx=>(HC E s b).bind λy=>(HC E s c).bind λz=>(HC E s d).bind λu=>(HC E s e).bind λw=>some (.tuple #[x,y,z,u,w])
 |_=>none
def rJ(tmps:Array Y2):ResultVar->Sem Y2
 | .tmp t=>pure (tmps.getD t undef)
 | .cell a t=>do loadVar t (<-asAddr (tmps.getD a undef))
theorem ZS(fn:Func)(tmps:Array Y2):results fn tmps=(do
  let vs<-fn.results.mapM (rJ tmps)
  pure (if h:vs.size=1 then vs[0] else .tuple vs)):=by
 unfold results
 congr 2
theorem Ih{E:Env}{w0 w:World}{s:St}{a:Act}(h:Sim E w0 s a w){r:ResultVar}{v:Y2}(hr:HC E s r=some v):(rJ a.tmps r).run E.P w= .ok v w:=by
 cases r with
 |tmp k=>
  simp only [HC,Option.some.injEq] at hr
  subst hr
  simp only [rJ,h.tm k];rfl
 |cell k ty=>
  simp only [HC] at hr
  simp only [rJ,h.tm k]
  split at hr
  ·rename_i q hq
   rw [hq]
   exact SJ h.cellA _ _ hr
  ·cases hr
theorem RJ{E:Env}{w0 w:World}{s:St}{a:Act}(h:Sim E w0 s a w){fn:Func}{v:Y2}(hr:MD E fn.results s=some v):
  (results fn a.tmps).run E.P w= .ok v w:=by
 unfold MD at hr
 rw [ZS]
 split at hr
 ·rename_i he
  cases hr
  simp [he]
 ·rename_i x he
  have hx:=Ih h hr
  simp [he,hx]
 ·rename_i x y he
  cases hx:HC E s x with
  |none=>simp [hx] at hr
  |some vx=>
   cases hy:HC E s y with
   |none=>simp [hx,hy] at hr
   |some vy=>
    simp only [hx,hy,q0,Option.some.injEq] at hr
    subst hr
    have hx:=Ih h hx
    have hy:=Ih h hy
    simp [he,hx,hy]
 ·rename_i x y z he
  cases hx:HC E s x with
  |none=>simp [hx] at hr
  |some vx=>
   cases hy:HC E s y with
   |none=>simp [hx,hy] at hr
   |some vy=>
    cases hz:HC E s z with
    |none=>simp [hx,hy,hz] at hr
    |some vz=>
     simp only [hx,hy,hz,q0,Option.some.injEq] at hr
     subst hr
     have hx:=Ih h hx
     have hy:=Ih h hy
     have hz:=Ih h hz
     simp [he,hx,hy,hz]
 ·rename_i x y z u he
  cases hx:HC E s x with
  |none=>simp [hx] at hr
  |some vx=>
   cases hy:HC E s y with
   |none=>simp [hx,hy] at hr
   |some vy=>
    cases hz:HC E s z with
    |none=>simp [hx,hy,hz] at hr
    |some vz=>
     cases hu:HC E s u with
     |none=>simp [hx,hy,hz,hu] at hr
     |some vu=>
      simp only [hx,hy,hz,hu,q0,Option.some.injEq] at hr
      subst hr
      have hx:=Ih h hx
      have hy:=Ih h hy
      have hz:=Ih h hz
      have hu:=Ih h hu
      simp [he,hx,hy,hz,hu]
 ·rename_i x y z u q he
  cases hx:HC E s x with
  |none=>simp [hx] at hr
  |some vx=>
   cases hy:HC E s y with
   |none=>simp [hx,hy] at hr
   |some vy=>
    cases hz:HC E s z with
    |none=>simp [hx,hy,hz] at hr
    |some vz=>
     cases hu:HC E s u with
     |none=>simp [hx,hy,hz,hu] at hr
     |some vu=>
      cases hq:HC E s q with
      |none=>simp [hx,hy,hz,hu,hq] at hr
      |some vq=>
       simp only [hx,hy,hz,hu,hq,q0,Option.some.injEq] at hr
       subst hr
       have hx:=Ih h hx
       have hy:=Ih h hy
       have hz:=Ih h hz
       have hu:=Ih h hu
       have hq:=Ih h hq
       simp [he,hx,hy,hz,hu,hq]
 ·cases hr
def St.init(a:Array Y2):St:=⟨λk=>a.getD k undef,λ_=>none,λ_=>false⟩
abbrev env(P:Program)(n base:Nat):Env:={P:=P,n:=n,base:=base,ro:=λ_=>none}
theorem VH{P:Program}{fn:Func}{args:Array Y2}{w:World}(n:Nat)(hn:args.size+(fn.ntmps - args.size)=n):
  Sim (env P n w.heap.size) w (St.init args) {tmps:=args++Array.replicate (fn.ntmps - args.size) undef,defers:=[]} w:=by
 refine⟨Z,by simp [hn],λk=> ?_,Kept.refl _ _ _,Nat.le_refl _,λp v hp=>(nomatch hp),λb T cs ho=>(nomatch ho),λ_ _=>trivial⟩
 show(args++Array.replicate (fn.ntmps - args.size) undef).getD k undef=args.getD k undef
 by_cases hk:k<args.size
 ·simp [hk,Array.getElem?_append]
 ·simp only [Array.getD_eq_getD_getElem?,Array.getElem?_append,V9 hk,Array.getElem?_replicate]
  rw [Array.getElem?_eq_none (by omega)]
  split<;>rfl
section
variable {E:Env} {g:Y3} {ops:Array Oper} {Q:St->Prop} {o:Oper} {r:Y0 Oper} {s:St}
theorem Kn(hg:o.guard=none)(y:Nat->Y1 Y3):Region.wanted o y=true:=by simp [Region.wanted,hg]
theorem IJ(hd:(match o.dst with|some d=>decide (d<E.n)|none=>true)=true){e:Fx}(he:Aa9 E g ops o s e)(h: ∀s',Do E g o s e s'->lexK E g ops Q r s'):lexK E g ops Q (o::r) s:=by
 refine⟨E.ks,E.con,λ_=>⟨Z,Z⟩,⟨λd hd'=>by rw [hd'] at hd;simpa using hd,e,he⟩,λs' hn=> ?_⟩
 obtain⟨e',he',hdo⟩:=hn
 obtain rfl:=he'.unique he
 exact h s' hdo
theorem mG(hg:o.guard=none)(hk:kdo E.ks g ops o= .f)(hd:(match o.dst with|some d=>decide (d<E.n)|none=>true)=true)(v:Y2)(hy:Yields E s.t o v)(h:lexK E g ops Q r {s with t:=putT s.t o.dst v}):lexK E g ops Q (o::r) s:=
 IJ hd (e:= .val v) (by unfold Aa9;rw [V8 (Kn hg _)];simp only [hk];exact⟨v,hy,Z⟩) (λs' hs=>by simp only [Do] at hs;subst hs;exact h)
theorem Wm(hg:o.guard=none)(hk:kdo E.ks g ops o= .l)(hd:(match o.dst with|some d=>decide (d<E.n)|none=>true)=true)(v:Y2)(hy:loadOf E s o=some v)(h:lexK E g ops Q r {s with t:=putT s.t o.dst v}):lexK E g ops Q (o::r) s:=
 IJ hd (e:= .val v) (by unfold Aa9;rw [V8 (Kn hg _)];simp only [hk];exact⟨v,hy,Z⟩) (λs' hs=>by simp only [Do] at hs;subst hs;exact h)
theorem wD(hg:o.guard=none)(hk:kdo E.ks g ops o= .a)(hd:(match o.dst with|some d=>decide (d<E.n)|none=>true)=true)(x:TypeId×Array Y2)(hy:allocOf E.P s.t o=some x)(h: ∀b,E.base<=b->s.own b=none->lexK E g ops Q r {t:=putT s.t o.dst (.pointer (some ⟨b,0,none⟩)),own:=upd s.own b (some x),nw:=if g then upd s.nw b true else s.nw}):lexK E g ops Q (o::r) s:=
 IJ hd (e:= .new x) (by unfold Aa9;rw [V8 (Kn hg _)];simp only [hk];exact⟨x,hy,Z⟩) (λs' hs=>by obtain⟨b,h1,h2,rfl⟩:=hs;exact h b h1 h2)
theorem fO(hg:o.guard=none)(hk:kdo E.ks g ops o= .s)(hd:(match o.dst with|some d=>decide (d<E.n)|none=>true)=true)(b:Nat)(y:TypeId×Array Y2)(hy:Ac8 E s o b y)(h:lexK E g ops Q r {s with t:=putT s.t o.dst undef,own:=upd s.own b (some y)})(hh:goodk E.ks o.dst=false\/b∈E.hid):lexK E g ops Q (o::r) s:=
 IJ hd (e:= .sto b y) (by unfold Aa9;rw [V8 (Kn hg _)];simp only [hk];exact⟨b,y,hy,λhg=>hh.elim (λh0=>by rw [h0] at hg;cases hg) id,Z⟩) (λs' hs=>by simp only [Do] at hs;subst hs;exact h)
theorem wB(hg:o.guard=none)(hk:kdo E.ks g ops o= .n)(hd:(match o.dst with|some d=>decide (d<E.n)|none=>true)=true)(b:Nat)(y:TypeId×Array Y2)(hy:Ac8 E s o b y)(hn:s.nw b=true)(h:lexK E g ops Q r {s with t:=putT s.t o.dst undef,own:=upd s.own b (some y)}):lexK E g ops Q (o::r) s:=
 IJ hd (e:= .sto b y) (by unfold Aa9;rw [V8 (Kn hg _)];simp only [hk];exact⟨b,y,hy,hn,Z⟩) (λs' hs=>by simp only [Do] at hs;subst hs;exact h)
theorem wC(hg:o.guard=none)(mu:Y3)(hk:kdo E.ks g ops o=(if mu then .m else .g))(hd:(match o.dst with|some d=>decide (d<E.n)|none=>true)=true)(hG:GenOk E g s o mu)(h: ∀v L U,Ab6 E s o v L U->(∀x∈L,E.base<=x.1/\s.own x.1=none)->lexK E g ops Q r {t:=putT s.t o.dst v,own:=over L (over U s.own),nw:=seen L s.nw}):lexK E g ops Q (o::r) s:=
 IJ hd (e:= .gen (Ab6 E s o)) (by
  unfold Aa9;rw [V8 (Kn hg _)]
  cases mu
  ·simp only [Bool.false_eq_true,if_false] at hk;simp only [hk];exact⟨hG,trivial⟩
  ·simp only [if_true] at hk;simp only [hk];exact⟨hG,trivial⟩) (λs' hs=>by obtain⟨v,L,U,h1,h2,rfl⟩:=hs;exact h v L U h1 h2)
end
end Go.Eng
