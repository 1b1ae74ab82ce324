import Derived.Test.YtoolcgbcfgnipaaGreatDoorRun
import Derived.Laws.Externs
import Derived.Laws.StructEq
import Derived.Lib.BitFns
namespace Go.Eng
open Go Go.RowKit
def hi(x:BitVec 128):BitVec 64:=x.extractLsb' 64 64
def lo(x:BitVec 128):BitVec 64:=x.extractLsb' 0 64
theorem RS(x:BitVec 128):(hi x).toNat=x.toNat / 2^64:=by
 have:=x.isLt
 simp [hi,BitVec.extractLsb'_toNat,Nat.shiftRight_eq_div_pow];omega
theorem UI(x:BitVec 128):(lo x).toNat=x.toNat%2^64:=by
 simp [lo,BitVec.extractLsb'_toNat]
theorem Tb(h l:BitVec 64):(h++l:BitVec 128).toNat=h.toNat*2^64+l.toNat:=by
 rw [BitVec.toNat_append,←Nat.shiftLeft_add_eq_or_of_lt l.isLt,Nat.shiftLeft_eq]
theorem dJ(h l:BitVec 64):hi (h++l)=h:=by
 apply BitVec.eq_of_toNat_eq;rw [RS,Tb];have:=l.isLt;omega
theorem dA(h l:BitVec 64):lo (h++l)=l:=by
 apply BitVec.eq_of_toNat_eq;rw [UI,Tb];have:=l.isLt;omega
theorem Bo:(∀h l:BitVec 64,hi (h++l)=h)∧ ∀h l:BitVec 64,lo (h++l)=l:=⟨dJ,dA⟩
theorem fo(x:BitVec 128):hi x++lo x=x:=by
 apply BitVec.eq_of_toNat_eq;rw [Tb,RS,UI];omega
theorem tP{x y:BitVec 128}(h:hi x=hi y)(l:lo x=lo y):x=y:=by rw [←fo x,←fo y,h,l]
section
variable {P:Program} {c:Addr→Option Value} {ρ:Operand→Value} {d:Option Tmp} {t t':TypeId} {a b:Operand} {ty:TypeId} {pos:String} {af:Array Edge} {g:Option (Nat×Bool)} {x y:BitVec 64}
theorem tQ{k:IntKind}{n:Nat}(hx:ρ a=U x)(hy:ρ b= .int k (n:Int)):ev P c (execOp ρ ⟨d, .binOp .shl t a b t',ty,pos,af,g⟩)=some (.value (.int .u64 (IntKind.u64.wrap ((x.toNat:Int)*2^(min n 64))))):=by
 refine Ef (s:=do eqGuard .shl t a b (ρ a) (ρ b);binOp .shl t (ρ a) (ρ b)) ?_
 rw [hx,hy]
 have h1: ¬((n:Int)<0):=by omega
 have h2:ev P c (eqGuard .shl t a b (U x) (.int k (n:Int)))=some ():=rfl
 simp only [AR,h2,q0,binOp,Op.shift,if_neg h1,q3,Bi,IntKind.bits]
theorem Vu{k:IntKind}{n:Nat}(hx:ρ a=U x)(hy:ρ b= .int k (n:Int)):ev P c (execOp ρ ⟨d, .binOp .shr t a b t',ty,pos,af,g⟩)=some (.value (.int .u64 ((x.toNat:Int).fdiv (2^(min n 64))))):=by
 refine Ef (s:=do eqGuard .shr t a b (ρ a) (ρ b);binOp .shr t (ρ a) (ρ b)) ?_
 rw [hx,hy]
 have h1: ¬((n:Int)<0):=by omega
 have h2:ev P c (eqGuard .shr t a b (U x) (.int k (n:Int)))=some ():=rfl
 simp only [AR,h2,q0,binOp,Op.shift,if_neg h1,q3,Bi,IntKind.bits]
end
end Go.Eng
namespace Go.Eng
open Go Go.RowKit
def CJ(f:Nat→Bool):Array Value:=Array.ofFn (n:=128) fun i=> .bool (f i)
abbrev vM(x:BitVec 128):Array Value:=CJ (BitVec.getLsbD x)
theorem HB(f:Nat→Bool):(CJ f).size=128:=by simp [CJ]
theorem PT{f g:Nat→Bool}(h: ∀j,j<128→f j=g j):CJ f=CJ g:=by
 unfold CJ;congr 1;funext i;rw [h i i.isLt]
theorem Uo(f:Nat→Bool){k:Nat}(h:k<128):(CJ f)[k]? =some (.bool (f k)):=by
 simp [CJ,h]
theorem ja(f:Nat→Bool)(k:Nat)(b:Bool):(CJ f).setIfInBounds k (.bool b)=CJ (upd f k b):=by
 apply Array.ext'
 apply List.ext_getElem?
 intro j
 simp only [Array.toList_setIfInBounds,List.getElem?_set,Array.length_toList,HB]
 by_cases hj:j<128
 ·have h1:=Uo (upd f k b) hj
  have h2:=Uo f hj
  rw [←Array.getElem?_toList] at h1 h2
  rw [h1,h2]
  by_cases hkj:k=j
  ·subst hkj;simp [hj,upd]
  ·rw [if_neg hkj,BK _ _ (Ne.symm hkj)]
 ·have h1:(CJ (upd f k b)).toList[j]? =none:=by rw [List.getElem?_eq_none];rw [Array.length_toList,HB];omega
  have h2:(CJ f).toList[j]? =none:=by rw [List.getElem?_eq_none];rw [Array.length_toList,HB];omega
  rw [h1,h2]
  by_cases hkj:k=j
  ·subst hkj;simp [hj]
  ·rw [if_neg hkj]
theorem PG(f:Nat→Bool)(k:Nat)(b:Bool):Ih (CJ f) k #[.bool b]=CJ (upd f k b):=by
 unfold Ih
 rw [if_neg (by rw [HB];simp),if_pos (by simp)]
 exact ja f k b
theorem db(cs vs:Array Value)(h:vs.size=cs.size):Ih cs 0 vs=vs:=by
 unfold Ih;rw [if_pos ⟨rfl,h⟩]
theorem Tf(f g:Nat→Bool):Ih (CJ f) 0 (CJ g)=CJ g:=db _ _ (by rw [HB,HB])
theorem Sr{P:Program}{e:TypeId}{i:TypeInfo}(hi:P.info? e=some i)(hs:i.size=1)(f:Nat→Bool){k:Nat}(b:Bool)(hk:k<128):StOk P e (CJ f) k #[.bool b]:=
 ⟨⟨i,hi,by rw [hs];rfl⟩,by rw [HB];exact hk,fun x hx=>by simp at hx;subst hx;rfl⟩
theorem WQ{P:Program}{e:TypeId}{i:TypeInfo}(hi:P.info? e=some i)(hs:i.size=128)(f g:Nat→Bool):StOk P e (CJ f) 0 (CJ g):=
 ⟨⟨i,hi,by rw [hs,HB]⟩,by rw [HB,HB];exact Nat.le_refl _,fun x hx=>by
  obtain⟨j,hj,rfl⟩:=Array.mem_iff_getElem.1 hx
  simp [CJ];rfl⟩
theorem TN{P:Program}{e:TypeId}(hu:P.underlying e=some .bool)(f:Nat→Bool){k:Nat}(hk:k<128):HA P e (CJ f) k=some (.bool (f k)):=by
 unfold HA;rw [hu];exact Uo f hk
theorem Yj{P:Program}{e n el:TypeId}{i:TypeInfo}(hu:P.underlying e=some (.array n el))(hi:P.info? e=some i)(hs:i.size=128)(f:Nat→Bool):HA P e (CJ f) 0=some (.agg (CJ f)):=by
 unfold HA;rw [hu,hi];simp only [hs,HB,and_self,if_true]
theorem dk:(⟨List.replicate 128 (Value.bool false)⟩:Array Value)=CJ (fun _=>false):=by
 apply Array.ext
 ·rw [HB];exact zi
 ·intro i h1 h2
  simp only [CJ,Array.getElem_ofFn]
  exact List.getElem_replicate ..
theorem ol{P:Program}{t:TypeId}(h:((P.info? t).bind (·.zero))=some (.agg ⟨List.replicate 128 (.bool false)⟩)):((P.info? t).bind (·.zero)).map (fun z=>(t,z.cells))=some (t,CJ fun _=>false):=by
 rw [h]
 show some (t,(⟨List.replicate 128 (Value.bool false)⟩:Array Value))=_
 rw [dk]
theorem Ql{P:Program}{c:Addr→Option Value}(d:Nat){t:TypeId}{k k':IntKind}(a b:Int)(h:P.underlying t=some (.int k')):ev P c (Op.equalIn (d+1) t (.int k a) (.int k b))=some (a==b):=by
 simp [Op.equalIn,AR,Bs h,Bi]
theorem gP{P:Program}{c:Addr→Option Value}(d:Nat){t:TypeId}(a b:Bool)(h:P.underlying t=some .bool):ev P c (Op.equalIn (d+1) t (.bool a) (.bool b))=some (a==b):=by
 simp [Op.equalIn,AR,Bs h,Bi]
theorem Kx{P:Program}{c:Addr→Option Value}{t:TypeId}{de:TypeDesc}(h:P.underlying t=some de)(hs: ∀fs,de≠ .struct fs)(ha: ∀n e,de≠ .array n e)(cs:Array Value)(off:Nat){v:Value}(hv:cs[off]? =some v):ev P c (part t cs off)=some v:=by
 unfold part isAgg
 cases de<;>simp_all [AR,Bs h,Bi]
theorem Tr{P:Program}{c:Addr→Option Value}(d:Nat){t:TypeId}{fs:Array Field}(xs ys:Array Value)(ht:P.underlying t=some (.struct fs))(hp:P.stoodInHeld t=false)(g:Field→Bool)
  (h: ∀f∈fs.toList,f.name≠ "_"∧ ∃a b,ev P c (part f.type xs f.offset)=some a∧ev P c (part f.type ys f.offset)=some b∧ev P c (Op.equalIn d f.type a b)=some (g f)):
  ev P c (Op.equalIn (d+1) t (.agg xs) (.agg ys))=some (fs.toList.all g):=by
 have hst:ev P c (do pure (←program):Sem Program)=some P:=rfl
 simp only [Op.equalIn,AR,Bs ht,q0]
 rw [show ev P c program=some P from rfl]
 simp only [q0,hp,Bool.false_eq_true,if_false]
 rw [←Array.forIn_toList]
 generalize fs.toList=l at h
 clear ht
 induction l with
 |nil=>simp [Bi]
 |cons f l ih=>
  obtain⟨hn,a,b,ha,hb,he⟩:=h f (by simp)
  have ih':=ih (fun f hf=>h f (by simp [hf]))
  rw [AR] at ih'
  simp only [List.forIn_cons,AR,if_pos hn,ha,hb,he,q0]
  cases hg:g f
  ·simp [hg,Bi]
  ·simp only [Bool.not_true,Bool.false_eq_true,if_false,Bi,q0,List.all_cons,hg,Bool.true_and]
   exact ih'
theorem ZE(x y:BitVec 128):((((hi x).toNat:Int)==((hi y).toNat:Int))&&(((lo x).toNat:Int)==((lo y).toNat:Int)))=(x==y):=by
 rw [Bool.eq_iff_iff]
 simp only [Bool.and_eq_true,beq_iff_eq]
 constructor
 ·rintro⟨h1,h2⟩
  exact tP (BitVec.eq_of_toNat_eq (by omega)) (BitVec.eq_of_toNat_eq (by omega))
 ·rintro rfl;exact⟨rfl,rfl⟩
theorem Vw{P:Program}{c:Addr→Option Value}{ρ:Operand→Value}{d:Option Tmp}{t t':TypeId}{x y:Operand}{ty:TypeId}{pos:String}{af:Array Edge}{g:Option (Nat×Bool)}{xs ys:Array Value}{b:Bool}
  (hx:ρ x= .agg xs) (hy:ρ y= .agg ys) (hg:P.eqGuardType P.depth t=false) (he:ev P c (Op.equal t (.agg xs) (.agg ys))=some b):
  ev P c (execOp ρ ⟨d, .binOp .eql t x y t',ty,pos,af,g⟩)=some (.value (.bool b)):=by
 refine Ef (s:=do eqGuard .eql t x y (ρ x) (ρ y);binOp .eql t (ρ x) (ρ y)) ?_
 rw [hx,hy]
 have h1:ev P c (eqGuard .eql t x y (.agg xs) (.agg ys))=some ():=by
  simp [eqGuard,AR,program,ev,hg,Bi]
 simp only [AR,h1,q0,binOp,he,Bi]
theorem bu{P:Program}{c:Addr→Option Value}{ρ:Operand→Value}{d:Option Tmp}{t t':TypeId}{x y:Operand}{ty:TypeId}{pos:String}{af:Array Edge}{g:Option (Nat×Bool)}{xs ys:Array Value}{b:Bool}
  (hx:ρ x= .agg xs) (hy:ρ y= .agg ys) (hg:P.eqGuardType P.depth t=false) (he:ev P c (Op.equal t (.agg xs) (.agg ys))=some b):
  ev P c (execOp ρ ⟨d, .binOp .neq t x y t',ty,pos,af,g⟩)=some (.value (.bool (!b))):=by
 refine Ef (s:=do eqGuard .neq t x y (ρ x) (ρ y);binOp .neq t (ρ x) (ρ y)) ?_
 rw [hx,hy]
 have h1:ev P c (eqGuard .neq t x y (.agg xs) (.agg ys))=some ():=by
  simp [eqGuard,AR,program,ev,hg,Bi]
 simp only [AR,h1,q0,binOp,he,Bi]
theorem bw{P:Program}{c:Addr→Option Value}{ρ:Operand→Value}{d:Option Tmp}{t t':TypeId}{x y:Operand}{ty:TypeId}{pos:String}{af:Array Edge}{g:Option (Nat×Bool)}{a b:Bool}(ht:P.underlying t=some .bool)
  (hx:ρ x= .bool a) (hy:ρ y= .bool b):ev P c (execOp ρ ⟨d, .binOp .neq t x y t',ty,pos,af,g⟩)=some (.value (.bool (a !=b))):=by
 refine Ef (s:=do eqGuard .neq t x y (ρ x) (ρ y);binOp .neq t (ρ x) (ρ y)) ?_
 rw [hx,hy]
 have h1:ev P c (eqGuard .neq t x y (.bool a) (.bool b))=some ():=by simp [eqGuard,Bi]
 simp only [AR,h1,q0,binOp,Op.equal,gP _ a b ht,Bi,Op.maxDepth,bne]
theorem pT{P:Program}{c:Addr→Option Value}{ρ:Operand→Value}{d:Option Tmp}{t t':TypeId}{x y:Operand}{ty:TypeId}{pos:String}{af:Array Edge}{g:Option (Nat×Bool)}{a b:ByteArray}
  (hx:ρ x= .string a) (hy:ρ y= .string b):ev P c (execOp ρ ⟨d, .binOp .eql t x y t',ty,pos,af,g⟩)=some (.value (.bool (a==b))):=by
 refine Ef (s:=do eqGuard .eql t x y (ρ x) (ρ y);binOp .eql t (ρ x) (ρ y)) ?_
 rw [hx,hy]
 have h1:ev P c (eqGuard .eql t x y (.string a) (.string b))=some ():=by simp [eqGuard,Bi]
 simp only [AR,h1,q0,binOp,Op.stringOp,Bi,beq_toListBytes]
end Go.Eng
namespace Go.Eng
structure Guess(u d y1 y0 q r:Nat):Prop where
 heq:q*y1+r=u
 hge:(u*4294967296+d) / (y1*4294967296+y0)≤q
 hr:r<4294967296
 hq:q≤4294967297
structure Digits(u d y1 y0:Nat):Prop where
 hy1lo:2147483648≤y1
 hy1hi:y1<4294967296
 hy0:y0<4294967296
 hd:d<4294967296
 hu:u<y1*4294967296+y0
theorem Digits.small{u d y1 y0:Nat}(h:Digits u d y1 y0):(u*4294967296+d) / (y1*4294967296+y0)<4294967296:=by
 have:=h.hu;have:=h.hd;have:=h.hy1lo
 rw [Nat.div_lt_iff_lt_mul (by omega)]
 omega
theorem Guess.done{u d y1 y0 q r:Nat}(h:Guess u d y1 y0 q r)(hD:Digits u d y1 y0)(hc:q*y0≤4294967296*r+d):q=(u*4294967296+d) / (y1*4294967296+y0):=by
 have h1:=hD.hy1lo
 apply Nat.le_antisymm _ h.hge
 rw [Nat.le_div_iff_mul_le (by omega),Nat.mul_add,←Nat.mul_assoc]
 have:=h.heq
 omega
theorem Guess.more{u d y1 y0 q r:Nat}(h:Guess u d y1 y0 q r)(hD:Digits u d y1 y0)(hc:4294967296≤q∨4294967296*r+d<q*y0):(u*4294967296+d) / (y1*4294967296+y0)<q:=by
 have h1:=hD.hy1lo
 rcases hc with hc|hc
 ·exact zw hD.small hc
 ·rw [Nat.div_lt_iff_lt_mul (by omega),Nat.mul_add,←Nat.mul_assoc]
  have:=h.heq
  omega
theorem Guess.next{u d y1 y0 q r:Nat}(h:Guess u d y1 y0 q r)(hD:Digits u d y1 y0)(hc:4294967296≤q∨4294967296*r+d<q*y0):
  1≤q∧(q - 1)*y1+(r+y1)=u∧(u*4294967296+d) / (y1*4294967296+y0)≤q - 1∧q - 1≤4294967296:=by
 have h1:=h.more hD hc
 have h2:=h.hq
 have h3:=h.heq
 have h0:=Nat.zero_le ((u*4294967296+d) / (y1*4294967296+y0))
 refine⟨by omega, ?_,by omega,by omega⟩
 obtain⟨k,rfl⟩: ∃k,q=k+1:=⟨q - 1,by omega⟩
 rw [Nat.add_mul] at h3
 simp only [Nat.add_sub_cancel]
 omega
def qd(u d y:BitVec 64):Nat:=(u.toNat*4294967296+d.toNat) / y.toNat
structure DigB(u d y1 y0 y:BitVec 64):Prop where
 hy:y.toNat=y1.toNat*4294967296+y0.toNat
 hD:Digits u.toNat d.toNat y1.toNat y0.toNat
def GuessB(u d b a q r:BitVec 64):Prop:=Guess u.toNat d.toNat b.toNat a.toNat q.toNat r.toNat
section
variable {u d y1 y0 y q r:BitVec 64}
theorem DigB.qy0(h:DigB u d y1 y0 y)(hq:q.toNat<4294967296):(q*y0).toNat=q.toNat*y0.toNat:=by
 have:=h.hD.hy0
 rw [BitVec.toNat_mul,Nat.mod_eq_of_lt]
 calc q.toNat*y0.toNat≤4294967295*y0.toNat:=Nat.mul_le_mul_right _ (by omega)
  _<2^64:=by omega
theorem DigB.rd(h:DigB u d y1 y0 y)(hr:r.toNat<4294967296):(4294967296#64*r+d).toNat=4294967296*r.toNat+d.toNat:=by
 have:=h.hD.hd
 rw [BitVec.toNat_add,BitVec.toNat_mul,show(4294967296#64).toNat=4294967296 from rfl]
 omega
theorem GuessB.qlt(hq: ¬4294967296#64≤q):q.toNat<4294967296:=by
 simp only [BitVec.le_def,show(4294967296#64).toNat=4294967296 from rfl] at hq;omega
theorem GuessB.done(h:DigB u d y1 y0 y)(g:GuessB u d y1 y0 q r)(hq: ¬4294967296#64≤q)(hc: ¬(4294967296#64*r+d)<q*y0):q.toNat=qd u d y:=by
 have hq':=GuessB.qlt hq
 rw [BitVec.lt_def,h.qy0 hq',h.rd g.hr] at hc
 unfold qd;rw [h.hy]
 exact Guess.done g h.hD (by omega)
theorem GuessB.next(h:DigB u d y1 y0 y)(g:GuessB u d y1 y0 q r)(hc:4294967296#64≤q∨(4294967296#64*r+d)<q*y0):
  (q - 1#64).toNat=q.toNat - 1∧1≤q.toNat∧(r+y1).toNat=r.toNat+y1.toNat∧(q.toNat - 1)*y1.toNat+(r.toNat+y1.toNat)=u.toNat∧(u.toNat*4294967296+d.toNat) / (y1.toNat*4294967296+y0.toNat)≤q.toNat - 1∧q.toNat - 1≤4294967296:=by
 have hc':4294967296≤q.toNat∨4294967296*r.toNat+d.toNat<q.toNat*y0.toNat:=by
  by_cases hq:4294967296#64≤q
  ·left;simpa only [BitVec.le_def,show(4294967296#64).toNat=4294967296 from rfl] using hq
  ·right
   rcases hc with hc|hc
   ·exact absurd hc hq
   ·rwa [BitVec.lt_def,h.qy0 (GuessB.qlt hq),h.rd g.hr] at hc
 obtain⟨n1,n2,n3,n4⟩:=Guess.next g h.hD hc'
 have h1:=h.hD.hy1hi;have h2:=g.hr;have h3:=q.isLt
 refine⟨?_,n1, ?_,n2,n3,n4⟩
 ·rw [BitVec.toNat_sub,show(1#64).toNat=1 from rfl];omega
 ·rw [BitVec.toNat_add];omega
theorem GuessB.again(h:DigB u d y1 y0 y)(g:GuessB u d y1 y0 q r)(hc:4294967296#64≤q∨(4294967296#64*r+d)<q*y0)(hr: ¬4294967296#64≤r+y1):GuessB u d y1 y0 (q - 1#64) (r+y1)∧(q - 1#64).toNat<q.toNat:=by
 obtain⟨e1,n1,e2,n2,n3,n4⟩:=g.next h hc
 have hr':=GuessB.qlt hr
 refine⟨⟨by rw [e1,e2];exact n2,by rw [e1];exact n3,hr',by rw [e1];omega⟩,by omega⟩
theorem jU{a b p m:Nat}(h:p+m=a*4294967296+b)(hm:m<2^64):(2^64 - p%2^64+((a*4294967296%2^64+b)%2^64))%2^64=m:=by omega
theorem DigB.left(h:DigB u d y1 y0 y)(hq:q.toNat=qd u d y):(u*4294967296#64+d - q*y).toNat=(u.toNat*4294967296+d.toNat)%y.toNat:=by
 have h1:=h.hD.hy1lo;have hy:=h.hy
 have hm:=Nat.div_add_mod (u.toNat*4294967296+d.toNat) y.toNat
 have hlt:=Nat.mod_lt (u.toNat*4294967296+d.toNat) (show y.toNat>0 by omega)
 rw [Nat.mul_comm] at hm
 rw [BitVec.toNat_sub,BitVec.toNat_add,BitVec.toNat_mul,BitVec.toNat_mul,hq,show(4294967296#64).toNat=4294967296 from rfl]
 unfold qd
 exact jU hm (Nat.lt_trans hlt y.isLt)
end
theorem TY: ∀(x:Nat),x<2^64→x<2^Lib.bitLen x∧(x≠0→1≤Lib.bitLen x∧2^(Lib.bitLen x - 1)≤x)∧Lib.bitLen x≤64:=by
 have key: ∀(f x:Nat),f≤64→x<2^f→x<2^Lib.bitLen x∧(x≠0→1≤Lib.bitLen x∧2^(Lib.bitLen x - 1)≤x)∧Lib.bitLen x≤f:=by
  intro f
  induction f with
  |zero=>
   intro x _ hx
   have:x=0:=by simpa using hx
   subst this
   have h0:Lib.bitLen 0=0:=by decide+kernel
   rw [h0]
   exact⟨by decide,fun h=>absurd rfl h,by decide⟩
  |succ f ih=>
   intro x hf hx
   by_cases h0:x=0
   ·subst h0
    have h0:Lib.bitLen 0=0:=by decide+kernel
    rw [h0]
    exact⟨by decide,fun h=>absurd rfl h,by omega⟩
   ·have hx64:x<2^64:=zw hx (Nat.pow_le_pow_right (by decide) hf)
    rw [Lib.bitLen_half x h0 hx64]
    obtain⟨i1,i2,i3⟩:=ih (x / 2) (by omega) (by rw [Nat.pow_succ] at hx;omega)
    refine⟨?_,fun _=>⟨by omega, ?_⟩,by omega⟩
    ·rw [Nat.pow_add];omega
    ·rw [Nat.add_sub_cancel_left]
     by_cases h2:x / 2=0
     ·have:x=1:=by omega
      subst this;decide+kernel
     ·obtain⟨j1,j2⟩:=i2 h2
      have:2^Lib.bitLen (x / 2)=2*2^(Lib.bitLen (x / 2) - 1):=by
       rw [←Nat.pow_succ'];congr 1;omega
      omega
 exact fun x hx=>key 64 x (Nat.le_refl _) hx
def lz(y:BitVec 64):Nat:=64 - Lib.bitLen y.toNat
def sh(y:BitVec 64):BitVec 64:=BitVec.ofNat 64 (lz y)
theorem Uj(y:BitVec 64):(sh y).toNat=lz y:=by
 unfold sh;rw [BitVec.toNat_ofNat,Nat.mod_eq_of_lt];unfold lz;omega
def un(h l y:BitVec 64):BitVec 64:=h<<<(sh y).toNat|||l>>>(64#64 - sh y).toNat
def u10(l y:BitVec 64):BitVec 64:=l<<<(sh y).toNat
def d1(l y:BitVec 64):BitVec 64:=u10 l y>>>32
def d0(l y:BitVec 64):BitVec 64:=u10 l y&&&4294967295#64
theorem al{y:BitVec 64}(hy:y≠0#64):lz y≤63∧2^63≤y.toNat*2^lz y∧y.toNat*2^lz y<2^64:=by
 have h0:y.toNat≠0:=fun e=>hy (BitVec.eq_of_toNat_eq (by simpa using e))
 obtain⟨b1,b2,b3⟩:=TY y.toNat y.isLt
 obtain⟨b4,b5⟩:=b2 h0
 unfold lz
 generalize Lib.bitLen y.toNat=b at*
 refine⟨by omega, ?_, ?_⟩
 ·calc 2^63=2^(b - 1)*2^(64 - b):=by rw [←Nat.pow_add];congr 1;omega
   _≤y.toNat*2^(64 - b):=Nat.mul_le_mul_right _ b5
 ·calc y.toNat*2^(64 - b)<2^b*2^(64 - b):=Nat.mul_lt_mul_of_pos_right b1 (Nat.two_pow_pos _)
   _=2^64:=by rw [←Nat.pow_add];congr 1;omega
theorem fY(a:Nat){s:Nat}(hs:s≤64):a*2^s=a / 2^(64 - s)*2^64+(a*2^s)%2^64:=by
 have e:(2:Nat)^64=2^(64 - s)*2^s:=by rw [←Nat.pow_add];congr 1;omega
 have h1:=Nat.div_add_mod (a*2^s) (2^64)
 have h2:a*2^s / 2^64=a / 2^(64 - s):=by rw [e,Nat.mul_div_mul_right _ _ (Nat.two_pow_pos s)]
 rw [h2,Nat.mul_comm] at h1
 exact h1.symm
theorem iu{h l y:BitVec 64}(hy:y≠0#64)(hlt:h<y):(un h l y).toNat=h.toNat*2^lz y+l.toNat / 2^(64 - lz y):=by
 obtain⟨f1,f2,f3⟩:=al hy
 have e1:(64#64 - sh y).toNat=64 - lz y:=by
  rw [BitVec.toNat_sub,Uj,show(64#64).toNat=64 from rfl];omega
 have hl:h.toNat*2^lz y<2^64:=Nat.lt_of_le_of_lt (Nat.mul_le_mul_right _ (Nat.le_of_lt (BitVec.lt_def.1 hlt))) f3
 unfold un
 rw [BitVec.toNat_or,BitVec.toNat_shiftLeft,BitVec.toNat_ushiftRight,Uj,e1,Nat.shiftLeft_eq,Nat.mod_eq_of_lt hl,Nat.shiftRight_eq_div_pow]
 rw [←Nat.shiftLeft_eq,Nat.shiftLeft_add_eq_or_of_lt]
 have:=l.isLt
 rw [Nat.div_lt_iff_lt_mul (Nat.two_pow_pos _),←Nat.pow_add]
 rwa [show lz y+(64 - lz y)=64 from by omega]
theorem fV(l y:BitVec 64):(u10 l y).toNat=l.toNat*2^lz y%2^64:=by
 unfold u10;rw [BitVec.toNat_shiftLeft,Uj,Nat.shiftLeft_eq]
theorem wh{h l y:BitVec 64}(hy:y≠0#64)(hlt:h<y):(un h l y).toNat*2^64+(u10 l y).toNat=(h.toNat*2^64+l.toNat)*2^lz y:=by
 obtain⟨f1,_,_⟩:=al hy
 have h1:=fY l.toNat (show lz y≤64 by omega)
 rw [iu hy hlt,fV,Nat.add_mul,Nat.add_mul,Nat.mul_right_comm h.toNat (2^lz y)]
 omega
end Go.Eng
namespace Go.Eng
open Go Go.RowKit
def ck{α:Type}(c:Prop)[Decidable c](k:Option α):Option α:=if c then k else none
theorem EU{α:Type}{c:Prop}[Decidable c]{k:Option α}{r:α}(h:ck c k=some r):c∧k=some r:=by
 unfold ck at h;split at h
 ·exact⟨by assumption,h⟩
 ·cases h
theorem Aj{α:Type}{c:Prop}[Decidable c](k:Option α)(h:c):ck c k=k:=if_pos h
theorem HU{α β:Type}{x:Option α}{f:α→Option β}{r:β}(h:x.bind f=some r): ∃y,x=some y∧f y=some r:=by
 cases x with
 |none=>cases h
 |some y=>exact⟨y,rfl,h⟩
theorem ifp{α:Type}{c:Prop}[Decidable c]{a b r:α}(hc:c)(h:(if c then a else b)=r):a=r:=by rwa [if_pos hc] at h
theorem ifn{α:Type}{c:Prop}[Decidable c]{a b r:α}(hc: ¬c)(h:(if c then a else b)=r):b=r:=by rwa [if_neg hc] at h
theorem Da{b:Bool}(h:(!b)=true):b=false:=by cases b<;>first|rfl|cases h
theorem Db{b:Bool}(h:(!b)=false):b=true:=by cases b<;>first|rfl|cases h
theorem vo{α:Type}[BEq α][LawfulBEq α]{a b:α}(h:(a !=b)=false): ¬a≠b:=fun hn=>absurd (bne_iff_ne.2 hn) (by rw [h];decide)
section
variable {P:Program} {c:Addr→Option Value} {ρ:Operand→Value} {d:Option Tmp} {ty t t':TypeId} {pos:String} {af:Array Edge} {g:Option (Nat×Bool)} {x y:Operand}
def IW(l:List UInt8)(i:Int):Int:=((l.getD i.toNat 0).toNat:Int)
theorem GU{l:List UInt8}{i:Int}{k:IntKind}(ht:P.underlying t=some .string)(hi:0≤i∧i<(l.length:Int)):ev P c (Instr.index t (.string ⟨l.toArray⟩) (.int k i))=some (.int .u8 (IW l i)):=by
 unfold Instr.index
 have hlt:i.toNat<l.length:=by omega
 have hget:(⟨l.toArray⟩:ByteArray)[i.toNat]? =some (l.getD i.toNat 0):=by
  have h1:i.toNat<(⟨l.toArray⟩:ByteArray).size:=by simpa [ByteArray.size] using hlt
  rw [getElem?_pos (⟨l.toArray⟩:ByteArray) i.toNat h1]
  show some (l.toArray[i.toNat])=_
  simp [zo hlt]
 simp only [AR,asIntOf,Bi,Bs ht,q0,if_pos hi.1,hget,IW]
theorem MO{l:List UInt8}{ts:Array TypeId}(hts:ts= #[t])(ht:P.underlying t=some .string)(hx:ρ x= .string ⟨l.toArray⟩):
  ev P c (execOp ρ ⟨d, .call ⟨.builtin .len, #[x],ts⟩,ty,pos,af,g⟩)=some (.value (.int .i64 ((l.length:Nat):Int))):=by
 subst hts
 have h2:ev P c (Builtin.len_ #[t] ty #[Value.string ⟨l.toArray⟩])=some (.int .i64 ((l.length:Nat):Int)):=by
  have h3:ev P c (do match←underlying t,Value.string ⟨l.toArray⟩with
   | .string, .string s=>pure (goInt s.size)
   |_,_=>stuck "":Sem Value)=some (.int .i64 ((l.length:Nat):Int)):=by
   rw [AR,Bs ht]
   show some (Value.int .i64 ((l.toArray.size:Nat):Int))=_
   simp
  show ev P c (underlying t>>=fun u=>_)=_
  rw [AR,Bs ht]
  show some (Value.int .i64 ((l.toArray.size:Nat):Int))=_
  simp
 show ev P c (do let d←resolve ρ ⟨.builtin .len, #[x], #[t]⟩ ty;invoke d.target d.args)=_
 simp [resolve,invoke,builtin,Rn,h2,hx]
theorem rD(a b:List UInt8):((⟨a.toArray⟩:ByteArray)==⟨b.toArray⟩)=(a==b):=by
 show(a.toArray==b.toArray)=_
 simp
theorem EY{a b:List UInt8}(hx:ρ x= .string ⟨a.toArray⟩)(hy:ρ y= .string ⟨b.toArray⟩):ev P c (execOp ρ ⟨d, .binOp .eql t x y t',ty,pos,af,g⟩)=some (.value (.bool (a==b))):=by
 rw [pT hx hy,rD]
theorem dR{l:List UInt8}{i:Int}{k:IntKind}(ht:P.underlying t=some .string)(h:0≤i∧i≤(l.length:Int)):ev P c (Instr.slice t (.string ⟨l.toArray⟩) (some (.int k i)) none none)=some (.string ⟨(l.drop i.toNat).toArray⟩):=by
 obtain⟨h0,h2⟩:=h
 have hs:(⟨l.toArray⟩:ByteArray).size=l.length:=by simp [ByteArray.size]
 have e:(⟨l.toArray⟩:ByteArray).extract i.toNat l.length=⟨(l.drop i.toNat).toArray⟩:=by
  apply ByteArray.ext
  rw [ByteArray.data_extract]
  apply Array.ext'
  simp [j6]
 unfold Instr.slice
 simp only [AR,Bs ht,q0,Instr.sliceBounds,Instr.sliceBound,asIntOf,Bi,hs,Option.isSome_none,Bool.false_eq_true,if_false]
 rw [if_pos ⟨h0,h2⟩]
 simp only [Bi,q0,e]
theorem fQ(x:Int):Value.int .u64 (IntKind.u64.wrap x)=U (BitVec.ofInt 64 x):=by
 congr 1
 simp only [IntKind.wrap,IntKind.signed,IntKind.bits,BitVec.toNat_ofInt]
 simp
 omega
end
theorem RV{P:Program}{c:Addr→Option Value}{t:TypeId}{b off n:Nat}{e:TypeId}{i:TypeInfo}{k:IntKind}{j:Int}(hu:P.underlying t=some (.array n e))(hi:P.info? e=some i)(hs:i.size=1)(hj:0≤j∧j<(n:Int)):
  ev P c (Instr.indexAt t (.pointer (some ⟨b,off,none⟩)) (.int k j))=some (.pointer (some ⟨b,off+j.toNat,none⟩)):=by
 unfold Instr.indexAt
 have hadd:(⟨b,off,none⟩:Addr).add j.toNat=⟨b,off+j.toNat,none⟩:=by unfold Addr.add;split<;>simp_all
 simp only [asIntOf,AR,Bi,q0,Bs hu,Instr.sureAddr]
 rw [if_pos hj]
 simp only [AR,Hn hi,hs,q0,Bi,Nat.mul_one,hadd]
def ZO(x:BitVec 128)(k:Nat)(b:Bool):BitVec 128:=if b then x|||BitVec.twoPow 128 k else x&&&~~~(BitVec.twoPow 128 k)
theorem iR(x:BitVec 128)(k:Nat)(b:Bool)(j:Nat)(hk:k<128):(ZO x k b).getLsbD j=if j=k then b else x.getLsbD j:=by
 unfold ZO
 by_cases hj:j<128
 ·by_cases h:j=k
  ·subst h;cases b<;>simp [hj]
  ·have h': ¬k=j:=fun e=>h e.symm
   cases b<;>simp [h,hj]
 ·rw [BitVec.getLsbD_of_ge _ _ (by omega),if_neg (by omega),BitVec.getLsbD_of_ge _ _ (by omega)]
theorem gj(x:BitVec 128)(k:Nat)(b:Bool)(hk:k<128):CJ (upd (BitVec.getLsbD x) k b)=CJ (BitVec.getLsbD (ZO x k b)):=PT fun j _=>by
 rw [iR x k b j hk];rfl
theorem ZT:CJ (fun _=>false)=CJ (BitVec.getLsbD 0#128):=PT fun j _=>by simp
end Go.Eng
