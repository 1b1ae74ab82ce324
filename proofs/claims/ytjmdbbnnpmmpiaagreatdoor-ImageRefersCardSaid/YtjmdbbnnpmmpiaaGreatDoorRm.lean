import Derived.Test.YtjmdbbnnpmmpiaaGreatDoorRun
import Derived.Laws.Externs
import Derived.Laws.StructEq
namespace Go.Eng
open Go Go.RowKit
def hi (x : BitVec 128) : BitVec 64 := x.extractLsb' 64 64
def lo (x : BitVec 128) : BitVec 64 := x.extractLsb' 0 64
theorem RH (x : BitVec 128) : (hi x).toNat = x.toNat / 2 ^ 64 := by
 have := x.isLt
 simp [hi, BitVec.extractLsb'_toNat, Nat.shiftRight_eq_div_pow]; omega
theorem Rm (x : BitVec 128) : (lo x).toNat = x.toNat % 2 ^ 64 := by
 simp [lo, BitVec.extractLsb'_toNat]
theorem LU (h l : BitVec 64) : (h ++ l : BitVec 128).toNat = h.toNat * 2 ^ 64 + l.toNat := by
 rw [BitVec.toNat_append, ← Nat.shiftLeft_add_eq_or_of_lt l.isLt, Nat.shiftLeft_eq]
theorem Xd (h l : BitVec 64) : hi (h ++ l) = h := by
 apply BitVec.eq_of_toNat_eq; rw [RH, LU]; have := l.isLt; omega
theorem WO (h l : BitVec 64) : lo (h ++ l) = l := by
 apply BitVec.eq_of_toNat_eq; rw [Rm, LU]; have := l.isLt; omega
theorem Bc : (∀ h l : BitVec 64, hi (h ++ l) = h) ∧ ∀ h l : BitVec 64, lo (h ++ l) = l := ⟨Xd, WO⟩
theorem cR (x : BitVec 128) : hi x ++ lo x = x := by
 apply BitVec.eq_of_toNat_eq; rw [LU, RH, Rm]; omega
theorem eD {x y : BitVec 128} (h : hi x = hi y) (l : lo x = lo y) : x = y := by rw [← cR x, ← cR y, h, l]
section
variable {P : Program} {c : Addr → Option Value} {ρ : Operand → Value} {d : Option Tmp} {t t' : TypeId} {a b : Operand} {ty : TypeId} {pos : String} {af : Array Edge} {g : Option (Nat × Bool)} {x y : BitVec 64}
end
end Go.Eng
namespace Go.Eng
open Go Go.RowKit
theorem Jy {P : Program} {c : Addr → Option Value} (d : Nat) {t : TypeId} {k k' : IntKind} (a b : Int) (h : P.underlying t = some (.int k')) : ev P c (Op.equalIn (d + 1) t (.int k a) (.int k b)) = some (a == b) := by
 simp [Op.equalIn, AU, Bo h, Bk]
theorem FM {P : Program} {c : Addr → Option Value} {t : TypeId} {de : TypeDesc} (h : P.underlying t = some de) (hs : ∀ fs, de ≠ .struct fs) (ha : ∀ n e, de ≠ .array n e) (cs : Array Value) (off : Nat) {v : Value} (hv : cs[off]? = some v) : ev P c (part t cs off) = some v := by
 unfold part isAgg
 cases de <;> simp_all [AU, Bo h, Bk]
theorem Mh {P : Program} {c : Addr → Option Value} (d : Nat) {t : TypeId} {fs : Array Field} (xs ys : Array Value) (ht : P.underlying t = some (.struct fs)) (hp : P.stoodInHeld t = false) (g : Field → Bool)
  (h : ∀ f ∈ fs.toList, f.name ≠ "_" ∧ ∃ a b, ev P c (part f.type xs f.offset) = some a ∧ ev P c (part f.type ys f.offset) = some b ∧ ev P c (Op.equalIn d f.type a b) = some (g f)) :
  ev P c (Op.equalIn (d + 1) t (.agg xs) (.agg ys)) = some (fs.toList.all g) := by
 have hst : ev P c (do pure (← program) : Sem Program) = some P := rfl
 simp only [Op.equalIn, AU, Bo ht, Option.bind_some]
 rw [show ev P c program = some P from rfl]
 simp only [Option.bind_some, hp, Bool.false_eq_true, if_false]
 rw [← Array.forIn_toList]
 generalize fs.toList = l at h
 clear ht
 induction l with
 | nil => simp [Bk]
 | cons f l ih =>
  obtain ⟨hn, a, b, ha, hb, he⟩ := h f (by simp)
  have ih' := ih (fun f hf => h f (by simp [hf]))
  rw [AU] at ih'
  simp only [List.forIn_cons, AU, if_pos hn, ha, hb, he, Option.bind_some]
  cases hg : g f
  ·simp [hg, Bk]
  ·simp only [Bool.not_true, Bool.false_eq_true, if_false, Bk, Option.bind_some, List.all_cons, hg, Bool.true_and]
   exact ih'
theorem QR (x y : BitVec 128) : ((((hi x).toNat : Int) == ((hi y).toNat : Int)) && (((lo x).toNat : Int) == ((lo y).toNat : Int))) = (x == y) := by
 rw [Bool.eq_iff_iff]
 simp only [Bool.and_eq_true, beq_iff_eq]
 constructor
 ·rintro ⟨h1, h2⟩
  exact eD (BitVec.eq_of_toNat_eq (by omega)) (BitVec.eq_of_toNat_eq (by omega))
 ·rintro rfl; exact ⟨rfl, rfl⟩
theorem NT {P : Program} {c : Addr → Option Value} {ρ : Operand → Value} {d : Option Tmp} {t t' : TypeId} {x y : Operand} {ty : TypeId} {pos : String} {af : Array Edge} {g : Option (Nat × Bool)} {xs ys : Array Value} {b : Bool}
  (hx : ρ x = .agg xs) (hy : ρ y = .agg ys) (hg : P.eqGuardType P.depth t = false) (he : ev P c (Op.equal t (.agg xs) (.agg ys)) = some b) :
  ev P c (execOp ρ ⟨d, .binOp .eql t x y t', ty, pos, af, g⟩) = some (.value (.bool b)) := by
 refine AD (s := do eqGuard .eql t x y (ρ x) (ρ y); binOp .eql t (ρ x) (ρ y)) ?_
 rw [hx, hy]
 have h1 : ev P c (eqGuard .eql t x y (.agg xs) (.agg ys)) = some () := by
  simp [eqGuard, AU, program, ev, hg, Bk]
 simp only [AU, h1, Option.bind_some, binOp, he, Bk]
theorem bK {P : Program} {c : Addr → Option Value} {ρ : Operand → Value} {d : Option Tmp} {t t' : TypeId} {x y : Operand} {ty : TypeId} {pos : String} {af : Array Edge} {g : Option (Nat × Bool)} {a b : ByteArray}
  (hx : ρ x = .string a) (hy : ρ y = .string b) : ev P c (execOp ρ ⟨d, .binOp .eql t x y t', ty, pos, af, g⟩) = some (.value (.bool (a == b))) := by
 refine AD (s := do eqGuard .eql t x y (ρ x) (ρ y); binOp .eql t (ρ x) (ρ y)) ?_
 rw [hx, hy]
 have h1 : ev P c (eqGuard .eql t x y (.string a) (.string b)) = some () := by simp [eqGuard, Bk]
 simp only [AU, h1, Option.bind_some, binOp, Op.stringOp, Bk, beq_toListBytes]
end Go.Eng
