import Derived.Test.YtajdpjdejpcgnaaGreatDoorWm
import Derived.Laws.StructEq
namespace Go.Eng
open Go Go.RowKit
theorem Kh{P:Program}{c:Addr→Option Value}(d:Nat){t:TypeId}{k k':IntKind}(a b:Int)(h:P.underlying t=some (.int k')):ev P c (Op.equalIn (d+1) t (.int k a) (.int k b))=some (a==b):=by
 simp [Op.equalIn,AB,Bb h,AM]
theorem PZ{P:Program}{c:Addr→Option Value}(d:Nat){t:TypeId}(a b:Bool)(h:P.underlying t=some .bool):ev P c (Op.equalIn (d+1) t (.bool a) (.bool b))=some (a==b):=by
 simp [Op.equalIn,AB,Bb h,AM]
theorem Du{P:Program}{c:Addr→Option Value}{t:TypeId}{de:TypeDesc}(h:P.underlying t=some de)(hs: ∀fs,de≠ .struct fs)(ha: ∀n e,de≠ .array n e)(cs:Array Value)(off:Nat){v:Value}(hv:cs[off]? =some v):ev P c (part t cs off)=some v:=by
 unfold part isAgg
 cases de<;>simp_all [AB,Bb h,AM]
theorem MH{P:Program}{c:Addr→Option Value}(d:Nat){t:TypeId}{fs:Array Field}(xs ys:Array Value)(ht:P.underlying t=some (.struct fs))(hp:P.stoodInHeld t=false)(g:Field→Bool)
  (h: ∀f∈fs.toList,f.name≠ "_"∧ ∃a b,ev P c (part f.type xs f.offset)=some a∧ev P c (part f.type ys f.offset)=some b∧ev P c (Op.equalIn d f.type a b)=some (g f)):
  ev P c (Op.equalIn (d+1) t (.agg xs) (.agg ys))=some (fs.toList.all g):=by
 have hst:ev P c (do pure (←program):Sem Program)=some P:=rfl
 simp only [Op.equalIn,AB,Bb ht,Option.bind_some]
 rw [show ev P c program=some P from rfl]
 simp only [Option.bind_some,hp,Bool.false_eq_true,if_false]
 rw [←Array.forIn_toList]
 generalize fs.toList=l at h
 clear ht
 induction l with
 |nil=>simp [AM]
 |cons f l ih=>
  obtain⟨hn,a,b,ha,hb,he⟩:=h f (by simp)
  have ih':=ih (fun f hf=>h f (by simp [hf]))
  rw [AB] at ih'
  simp only [List.forIn_cons,AB,if_pos hn,ha,hb,he,Option.bind_some]
  cases hg:g f
  ·simp [hg,AM]
  ·simp only [Bool.not_true,Bool.false_eq_true,if_false,AM,Option.bind_some,List.all_cons,hg,Bool.true_and]
   exact ih'
theorem TM{P:Program}{c:Addr→Option Value}(d:Nat){t el:TypeId}{n:Nat}{i:TypeInfo}(xs ys:Array Value)(sz:Nat)(ht:P.underlying t=some (.array n el))(hi:P.info? el=some i)(hs:i.size=sz)(g:Nat→Bool)
  (h: ∀j,j<n→ ∃a b,ev P c (part el xs (j*sz))=some a∧ev P c (part el ys (j*sz))=some b∧ev P c (Op.equalIn d el a b)=some (g j)):
  ev P c (Op.equalIn (d+1) t (.agg xs) (.agg ys))=some ((List.range n).all g):=by
 simp only [Op.equalIn,AB,Bb ht,Option.bind_some,Da hi,hs]
 rw [Std.Legacy.Range.forIn_eq_forIn_range']
 have hr:List.range' (0:Nat) (Std.Legacy.Range.size [0:n]) 1=List.range n:=by rw [List.range_eq_range'];simp [Std.Legacy.Range.size]
 rw [show([0:n]:Std.Legacy.Range).step=1 from rfl,show([0:n]:Std.Legacy.Range).start=0 from rfl,hr]
 have hl: ∀j∈List.range n,j<n:=fun j hj=>List.mem_range.1 hj
 generalize List.range n=l at hl
 clear hr
 induction l with
 |nil=>simp [AM]
 |cons j l ih=>
  obtain⟨a,b,ha,hb,he⟩:=h j (hl j (by simp))
  have ih':=ih (fun j hj=>hl j (by simp [hj]))
  try rw [AB] at ih'
  simp only [List.forIn_cons,AB,ha,hb,he,Option.bind_some]
  cases hg:g j
  ·simp [hg,AM]
  ·simp only [Bool.not_true,Bool.false_eq_true,if_false,AM,Option.bind_some,List.all_cons,hg,Bool.true_and]
   exact ih'
theorem RG(x y:BitVec 128):((((hi x).toNat:Int)==((hi y).toNat:Int))&&(((lo x).toNat:Int)==((lo y).toNat:Int)))=(x==y):=by
 rw [Bool.eq_iff_iff]
 simp only [Bool.and_eq_true,beq_iff_eq]
 constructor
 ·rintro⟨h1,h2⟩
  exact aQ (BitVec.eq_of_toNat_eq (by omega)) (BitVec.eq_of_toNat_eq (by omega))
 ·rintro rfl;exact⟨rfl,rfl⟩
theorem Om{P:Program}{c:Addr→Option Value}{ρ:Operand→Value}{d:Option Tmp}{t t':TypeId}{x y:Operand}{ty:TypeId}{pos:String}{af:Array Edge}{g:Option (Nat×Bool)}{xs ys:Array Value}{b:Bool}
  (hx:ρ x= .agg xs) (hy:ρ y= .agg ys) (hg:P.eqGuardType P.depth t=false) (he:ev P c (Op.equal t (.agg xs) (.agg ys))=some b):
  ev P c (execOp ρ ⟨d, .binOp .eql t x y t',ty,pos,af,g⟩)=some (.value (.bool b)):=by
 refine Cf (s:=do eqGuard .eql t x y (ρ x) (ρ y);binOp .eql t (ρ x) (ρ y)) ?_
 rw [hx,hy]
 have h1:ev P c (eqGuard .eql t x y (.agg xs) (.agg ys))=some ():=by
  simp [eqGuard,AB,program,ev,hg,AM]
 simp only [AB,h1,Option.bind_some,binOp,he,AM]
theorem IE{P:Program}{c:Addr→Option Value}{ρ:Operand→Value}{d:Option Tmp}{t t':TypeId}{x y:Operand}{ty:TypeId}{pos:String}{af:Array Edge}{g:Option (Nat×Bool)}{xs ys:Array Value}{b:Bool}
  (hx:ρ x= .agg xs) (hy:ρ y= .agg ys) (hg:P.eqGuardType P.depth t=false) (he:ev P c (Op.equal t (.agg xs) (.agg ys))=some b):
  ev P c (execOp ρ ⟨d, .binOp .neq t x y t',ty,pos,af,g⟩)=some (.value (.bool (!b))):=by
 refine Cf (s:=do eqGuard .neq t x y (ρ x) (ρ y);binOp .neq t (ρ x) (ρ y)) ?_
 rw [hx,hy]
 have h1:ev P c (eqGuard .neq t x y (.agg xs) (.agg ys))=some ():=by
  simp [eqGuard,AB,program,ev,hg,AM]
 simp only [AB,h1,Option.bind_some,binOp,he,AM]
theorem LG{P:Program}{c:Addr→Option Value}{ρ:Operand→Value}{d:Option Tmp}{t t':TypeId}{x y:Operand}{ty:TypeId}{pos:String}{af:Array Edge}{g:Option (Nat×Bool)}{a b:Bool}(ht:P.underlying t=some .bool)
  (hx:ρ x= .bool a) (hy:ρ y= .bool b):ev P c (execOp ρ ⟨d, .binOp .neq t x y t',ty,pos,af,g⟩)=some (.value (.bool (a !=b))):=by
 refine Cf (s:=do eqGuard .neq t x y (ρ x) (ρ y);binOp .neq t (ρ x) (ρ y)) ?_
 rw [hx,hy]
 have h1:ev P c (eqGuard .neq t x y (.bool a) (.bool b))=some ():=by simp [eqGuard,AM]
 simp only [AB,h1,Option.bind_some,binOp,Op.equal,PZ _ a b ht,AM,Op.maxDepth,bne]
theorem Yx{P:Program}{c:Addr→Option Value}{ρ:Operand→Value}{d:Option Tmp}{t t':TypeId}{x y:Operand}{ty:TypeId}{pos:String}{af:Array Edge}{g:Option (Nat×Bool)}{a b:ByteArray}
  (hx:ρ x= .string a) (hy:ρ y= .string b):ev P c (execOp ρ ⟨d, .binOp .eql t x y t',ty,pos,af,g⟩)=some (.value (.bool (a==b))):=by
 refine Cf (s:=do eqGuard .eql t x y (ρ x) (ρ y);binOp .eql t (ρ x) (ρ y)) ?_
 rw [hx,hy]
 have h1:ev P c (eqGuard .eql t x y (.string a) (.string b))=some ():=by simp [eqGuard,AM]
 simp only [AB,h1,Option.bind_some,binOp,Op.stringOp,AM,beq_toListBytes]
end Go.Eng
