import Derived.Test.YthmpbldidnmenaaGreatDoorRun
import Derived.Laws.Externs
import Derived.Laws.StructEq
namespace Go.Eng
open Go Go.RowKit
def hi(x:BitVec 128):BitVec 64:=x.extractLsb' 64 64
def lo(x:BitVec 128):BitVec 64:=x.extractLsb' 0 64
theorem RK(x:BitVec 128):(hi x).toNat=x.toNat / 2^64:=by
 have:=x.isLt
 simp [hi,BitVec.extractLsb'_toNat,Nat.shiftRight_eq_div_pow];omega
theorem Ux(x:BitVec 128):(lo x).toNat=x.toNat%2^64:=by
 simp [lo,BitVec.extractLsb'_toNat]
theorem SP(h l:BitVec 64):(h++l:BitVec 128).toNat=h.toNat*2^64+l.toNat:=by
 rw [BitVec.toNat_append,←Nat.shiftLeft_add_eq_or_of_lt l.isLt,Nat.shiftLeft_eq]
theorem iT(h l:BitVec 64):hi (h++l)=h:=by
 apply BitVec.eq_of_toNat_eq;rw [RK,SP];have:=l.isLt;omega
theorem ik(h l:BitVec 64):lo (h++l)=l:=by
 apply BitVec.eq_of_toNat_eq;rw [Ux,SP];have:=l.isLt;omega
theorem Bn:(∀h l:BitVec 64,hi (h++l)=h)∧ ∀h l:BitVec 64,lo (h++l)=l:=⟨iT,ik⟩
theorem eg(x:BitVec 128):hi x++lo x=x:=by
 apply BitVec.eq_of_toNat_eq;rw [SP,RK,Ux];omega
theorem rk{x y:BitVec 128}(h:hi x=hi y)(l:lo x=lo y):x=y:=by rw [←eg x,←eg y,h,l]
section
variable {P:Program} {c:Addr→Option Value} {ρ:Operand→Value} {d:Option Tmp} {t t':TypeId} {a b:Operand} {ty:TypeId} {pos:String} {af:Array Edge} {g:Option (Nat×Bool)} {x y:BitVec 64}
theorem jd{k:IntKind}{n:Nat}(hx:ρ a=U x)(hy:ρ b= .int k (n:Int)):ev P c (execOp ρ ⟨d, .binOp .shl t a b t',ty,pos,af,g⟩)=some (.value (.int .u64 (IntKind.u64.wrap ((x.toNat:Int)*2^(min n 64))))):=by
 refine ET (s:=do eqGuard .shl t a b (ρ a) (ρ b);binOp .shl t (ρ a) (ρ b)) ?_
 rw [hx,hy]
 have h1: ¬((n:Int)<0):=by omega
 have h2:ev P c (eqGuard .shl t a b (U x) (.int k (n:Int)))=some ():=rfl
 simp only [AM,h2,q0,binOp,Op.shift,if_neg h1,q3,Ba,IntKind.bits]
theorem Vk{k:IntKind}{n:Nat}(hx:ρ a=U x)(hy:ρ b= .int k (n:Int)):ev P c (execOp ρ ⟨d, .binOp .shr t a b t',ty,pos,af,g⟩)=some (.value (.int .u64 ((x.toNat:Int).fdiv (2^(min n 64))))):=by
 refine ET (s:=do eqGuard .shr t a b (ρ a) (ρ b);binOp .shr t (ρ a) (ρ b)) ?_
 rw [hx,hy]
 have h1: ¬((n:Int)<0):=by omega
 have h2:ev P c (eqGuard .shr t a b (U x) (.int k (n:Int)))=some ():=rfl
 simp only [AM,h2,q0,binOp,Op.shift,if_neg h1,q3,Ba,IntKind.bits]
end
end Go.Eng
namespace Go.Eng
open Go Go.RowKit
def CL(f:Nat→Bool):Array Value:=Array.ofFn (n:=128) fun i=> .bool (f i)
abbrev sI(x:BitVec 128):Array Value:=CL (BitVec.getLsbD x)
theorem Hj(f:Nat→Bool):(CL f).size=128:=by simp [CL]
theorem Pq{f g:Nat→Bool}(h: ∀j,j<128→f j=g j):CL f=CL g:=by
 unfold CL;congr 1;funext i;rw [h i i.isLt]
theorem Uf(f:Nat→Bool){k:Nat}(h:k<128):(CL f)[k]? =some (.bool (f k)):=by
 simp [CL,h]
theorem gz(f:Nat→Bool)(k:Nat)(b:Bool):(CL f).setIfInBounds k (.bool b)=CL (upd f k b):=by
 apply Array.ext'
 apply List.ext_getElem?
 intro j
 simp only [Array.toList_setIfInBounds,List.getElem?_set,Array.length_toList,Hj]
 by_cases hj:j<128
 ·have h1:=Uf (upd f k b) hj
  have h2:=Uf f hj
  rw [←Array.getElem?_toList] at h1 h2
  rw [h1,h2]
  by_cases hkj:k=j
  ·subst hkj;simp [hj,upd]
  ·rw [if_neg hkj,BL _ _ (Ne.symm hkj)]
 ·have h1:(CL (upd f k b)).toList[j]? =none:=by rw [List.getElem?_eq_none];rw [Array.length_toList,Hj];omega
  have h2:(CL f).toList[j]? =none:=by rw [List.getElem?_eq_none];rw [Array.length_toList,Hj];omega
  rw [h1,h2]
  by_cases hkj:k=j
  ·subst hkj;simp [hj]
  ·rw [if_neg hkj]
theorem Pc(f:Nat→Bool)(k:Nat)(b:Bool):Hh (CL f) k #[.bool b]=CL (upd f k b):=by
 unfold Hh
 rw [if_neg (by rw [Hj];simp),if_pos (by simp)]
 exact gz f k b
theorem cf(cs vs:Array Value)(h:vs.size=cs.size):Hh cs 0 vs=vs:=by
 unfold Hh;rw [if_pos ⟨rfl,h⟩]
theorem SR(f g:Nat→Bool):Hh (CL f) 0 (CL g)=CL g:=cf _ _ (by rw [Hj,Hj])
theorem Sa{P:Program}{e:TypeId}{i:TypeInfo}(hi:P.info? e=some i)(hs:i.size=1)(f:Nat→Bool){k:Nat}(b:Bool)(hk:k<128):StOk P e (CL f) k #[.bool b]:=
 ⟨⟨i,hi,by rw [hs];rfl⟩,by rw [Hj];exact hk,fun x hx=>by simp at hx;subst hx;rfl⟩
theorem Xh{P:Program}{e:TypeId}{i:TypeInfo}(hi:P.info? e=some i)(hs:i.size=128)(f g:Nat→Bool):StOk P e (CL f) 0 (CL g):=
 ⟨⟨i,hi,by rw [hs,Hj]⟩,by rw [Hj,Hj];exact Nat.le_refl _,fun x hx=>by
  obtain⟨j,hj,rfl⟩:=Array.mem_iff_getElem.1 hx
  simp [CL];rfl⟩
theorem TG{P:Program}{e:TypeId}(hu:P.underlying e=some .bool)(f:Nat→Bool){k:Nat}(hk:k<128):GG P e (CL f) k=some (.bool (f k)):=by
 unfold GG;rw [hu];exact Uf f hk
theorem Yv{P:Program}{e n el:TypeId}{i:TypeInfo}(hu:P.underlying e=some (.array n el))(hi:P.info? e=some i)(hs:i.size=128)(f:Nat→Bool):GG P e (CL f) 0=some (.agg (CL f)):=by
 unfold GG;rw [hu,hi];simp only [hs,Hj,and_self,if_true]
theorem cq:(⟨List.replicate 128 (Value.bool false)⟩:Array Value)=CL (fun _=>false):=by
 apply Array.ext
 ·rw [Hj];exact zi
 ·intro i h1 h2
  simp only [CL,Array.getElem_ofFn]
  exact List.getElem_replicate ..
theorem mJ{P:Program}{t:TypeId}(h:((P.info? t).bind (·.zero))=some (.agg ⟨List.replicate 128 (.bool false)⟩)):((P.info? t).bind (·.zero)).map (fun z=>(t,z.cells))=some (t,CL fun _=>false):=by
 rw [h]
 show some (t,(⟨List.replicate 128 (Value.bool false)⟩:Array Value))=_
 rw [cq]
theorem PW{P:Program}{c:Addr→Option Value}(d:Nat){t:TypeId}{k k':IntKind}(a b:Int)(h:P.underlying t=some (.int k')):ev P c (Op.equalIn (d+1) t (.int k a) (.int k b))=some (a==b):=by
 simp [Op.equalIn,AM,Bk h,Ba]
theorem XC{P:Program}{c:Addr→Option Value}(d:Nat){t:TypeId}(a b:Bool)(h:P.underlying t=some .bool):ev P c (Op.equalIn (d+1) t (.bool a) (.bool b))=some (a==b):=by
 simp [Op.equalIn,AM,Bk h,Ba]
theorem Ib{P:Program}{c:Addr→Option Value}{t:TypeId}{de:TypeDesc}(h:P.underlying t=some de)(hs: ∀fs,de≠ .struct fs)(ha: ∀n e,de≠ .array n e)(cs:Array Value)(off:Nat){v:Value}(hv:cs[off]? =some v):ev P c (part t cs off)=some v:=by
 unfold part isAgg
 cases de<;>simp_all [AM,Bk h,Ba]
theorem Tf{P:Program}{c:Addr→Option Value}(d:Nat){t:TypeId}{fs:Array Field}(xs ys:Array Value)(ht:P.underlying t=some (.struct fs))(hp:P.stoodInHeld t=false)(g:Field→Bool)
  (h: ∀f∈fs.toList,f.name≠ "_"∧ ∃a b,ev P c (part f.type xs f.offset)=some a∧ev P c (part f.type ys f.offset)=some b∧ev P c (Op.equalIn d f.type a b)=some (g f)):
  ev P c (Op.equalIn (d+1) t (.agg xs) (.agg ys))=some (fs.toList.all g):=by
 have hst:ev P c (do pure (←program):Sem Program)=some P:=rfl
 simp only [Op.equalIn,AM,Bk ht,q0]
 rw [show ev P c program=some P from rfl]
 simp only [q0,hp,Bool.false_eq_true,if_false]
 rw [←Array.forIn_toList]
 generalize fs.toList=l at h
 clear ht
 induction l with
 |nil=>simp [Ba]
 |cons f l ih=>
  obtain⟨hn,a,b,ha,hb,he⟩:=h f (by simp)
  have ih':=ih (fun f hf=>h f (by simp [hf]))
  rw [AM] at ih'
  simp only [List.forIn_cons,AM,if_pos hn,ha,hb,he,q0]
  cases hg:g f
  ·simp [hg,Ba]
  ·simp only [Bool.not_true,Bool.false_eq_true,if_false,Ba,q0,List.all_cons,hg,Bool.true_and]
   exact ih'
theorem db{P:Program}{c:Addr→Option Value}(d:Nat){t el:TypeId}{n:Nat}{i:TypeInfo}(xs ys:Array Value)(sz:Nat)(ht:P.underlying t=some (.array n el))(hi:P.info? el=some i)(hs:i.size=sz)(g:Nat→Bool)
  (h: ∀j,j<n→ ∃a b,ev P c (part el xs (j*sz))=some a∧ev P c (part el ys (j*sz))=some b∧ev P c (Op.equalIn d el a b)=some (g j)):
  ev P c (Op.equalIn (d+1) t (.agg xs) (.agg ys))=some ((List.range n).all g):=by
 simp only [Op.equalIn,AM,Bk ht,q0,GK hi,hs]
 rw [Std.Legacy.Range.forIn_eq_forIn_range']
 have hr:List.range' (0:Nat) (Std.Legacy.Range.size [0:n]) 1=List.range n:=by rw [List.range_eq_range'];simp [Std.Legacy.Range.size]
 rw [show([0:n]:Std.Legacy.Range).step=1 from rfl,show([0:n]:Std.Legacy.Range).start=0 from rfl,hr]
 have hl: ∀j∈List.range n,j<n:=fun j hj=>List.mem_range.1 hj
 generalize List.range n=l at hl
 clear hr
 induction l with
 |nil=>simp [Ba]
 |cons j l ih=>
  obtain⟨a,b,ha,hb,he⟩:=h j (hl j (by simp))
  have ih':=ih (fun j hj=>hl j (by simp [hj]))
  try rw [AM] at ih'
  simp only [List.forIn_cons,AM,ha,hb,he,q0]
  cases hg:g j
  ·simp [hg,Ba]
  ·simp only [Bool.not_true,Bool.false_eq_true,if_false,Ba,q0,List.all_cons,hg,Bool.true_and]
   exact ih'
theorem Zy(x y:BitVec 128):((((hi x).toNat:Int)==((hi y).toNat:Int))&&(((lo x).toNat:Int)==((lo y).toNat:Int)))=(x==y):=by
 rw [Bool.eq_iff_iff]
 simp only [Bool.and_eq_true,beq_iff_eq]
 constructor
 ·rintro⟨h1,h2⟩
  exact rk (BitVec.eq_of_toNat_eq (by omega)) (BitVec.eq_of_toNat_eq (by omega))
 ·rintro rfl;exact⟨rfl,rfl⟩
theorem Vm{P:Program}{c:Addr→Option Value}{ρ:Operand→Value}{d:Option Tmp}{t t':TypeId}{x y:Operand}{ty:TypeId}{pos:String}{af:Array Edge}{g:Option (Nat×Bool)}{xs ys:Array Value}{b:Bool}
  (hx:ρ x= .agg xs) (hy:ρ y= .agg ys) (hg:P.eqGuardType P.depth t=false) (he:ev P c (Op.equal t (.agg xs) (.agg ys))=some b):
  ev P c (execOp ρ ⟨d, .binOp .eql t x y t',ty,pos,af,g⟩)=some (.value (.bool b)):=by
 refine ET (s:=do eqGuard .eql t x y (ρ x) (ρ y);binOp .eql t (ρ x) (ρ y)) ?_
 rw [hx,hy]
 have h1:ev P c (eqGuard .eql t x y (.agg xs) (.agg ys))=some ():=by
  simp [eqGuard,AM,program,ev,hg,Ba]
 simp only [AM,h1,q0,binOp,he,Ba]
theorem RN{P:Program}{c:Addr→Option Value}{ρ:Operand→Value}{d:Option Tmp}{t t':TypeId}{x y:Operand}{ty:TypeId}{pos:String}{af:Array Edge}{g:Option (Nat×Bool)}{xs ys:Array Value}{b:Bool}
  (hx:ρ x= .agg xs) (hy:ρ y= .agg ys) (hg:P.eqGuardType P.depth t=false) (he:ev P c (Op.equal t (.agg xs) (.agg ys))=some b):
  ev P c (execOp ρ ⟨d, .binOp .neq t x y t',ty,pos,af,g⟩)=some (.value (.bool (!b))):=by
 refine ET (s:=do eqGuard .neq t x y (ρ x) (ρ y);binOp .neq t (ρ x) (ρ y)) ?_
 rw [hx,hy]
 have h1:ev P c (eqGuard .neq t x y (.agg xs) (.agg ys))=some ():=by
  simp [eqGuard,AM,program,ev,hg,Ba]
 simp only [AM,h1,q0,binOp,he,Ba]
theorem aU{P:Program}{c:Addr→Option Value}{ρ:Operand→Value}{d:Option Tmp}{t t':TypeId}{x y:Operand}{ty:TypeId}{pos:String}{af:Array Edge}{g:Option (Nat×Bool)}{a b:Bool}(ht:P.underlying t=some .bool)
  (hx:ρ x= .bool a) (hy:ρ y= .bool b):ev P c (execOp ρ ⟨d, .binOp .neq t x y t',ty,pos,af,g⟩)=some (.value (.bool (a !=b))):=by
 refine ET (s:=do eqGuard .neq t x y (ρ x) (ρ y);binOp .neq t (ρ x) (ρ y)) ?_
 rw [hx,hy]
 have h1:ev P c (eqGuard .neq t x y (.bool a) (.bool b))=some ():=by simp [eqGuard,Ba]
 simp only [AM,h1,q0,binOp,Op.equal,XC _ a b ht,Ba,Op.maxDepth,bne]
theorem oc{P:Program}{c:Addr→Option Value}{ρ:Operand→Value}{d:Option Tmp}{t t':TypeId}{x y:Operand}{ty:TypeId}{pos:String}{af:Array Edge}{g:Option (Nat×Bool)}{a b:ByteArray}
  (hx:ρ x= .string a) (hy:ρ y= .string b):ev P c (execOp ρ ⟨d, .binOp .eql t x y t',ty,pos,af,g⟩)=some (.value (.bool (a==b))):=by
 refine ET (s:=do eqGuard .eql t x y (ρ x) (ρ y);binOp .eql t (ρ x) (ρ y)) ?_
 rw [hx,hy]
 have h1:ev P c (eqGuard .eql t x y (.string a) (.string b))=some ():=by simp [eqGuard,Ba]
 simp only [AM,h1,q0,binOp,Op.stringOp,Ba,beq_toListBytes]
end Go.Eng
