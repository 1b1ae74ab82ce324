import Derived.Test.YthafnifhhblkbaaGreatDoorWm
import Derived.Laws.StructEq
namespace Go.Eng
open Go Go.RowKit
def Cp (f : Nat → Bool) : Array Value := Array.ofFn (n := 128) fun i => .bool (f i)
abbrev mm (x : BitVec 128) : Array Value := Cp (BitVec.getLsbD x)
theorem Ek (f : Nat → Bool) : (Cp f).size = 128 := by simp [Cp]
theorem OA {f g : Nat → Bool} (h : ∀ j, j < 128 → f j = g j) : Cp f = Cp g := by
 unfold Cp; congr 1; funext i; rw [h i i.isLt]
theorem Rq (f : Nat → Bool) {k : Nat} (h : k < 128) : (Cp f)[k]? = some (.bool (f k)) := by
 simp [Cp, h]
theorem bx (f : Nat → Bool) (k : Nat) (b : Bool) : (Cp f).setIfInBounds k (.bool b) = Cp (upd f k b) := by
 apply Array.ext'
 apply List.ext_getElem?
 intro j
 simp only [Array.toList_setIfInBounds, List.getElem?_set, Array.length_toList, Ek]
 by_cases hj : j < 128
 ·have h1 := Rq (upd f k b) hj
  have h2 := Rq f hj
  rw [← Array.getElem?_toList] at h1 h2
  rw [h1, h2]
  by_cases hkj : k = j
  ·subst hkj; simp [hj, upd]
  ·rw [if_neg hkj, Bx _ _ (Ne.symm hkj)]
 ·have h1 : (Cp (upd f k b)).toList[j]? = none := by rw [List.getElem?_eq_none]; rw [Array.length_toList, Ek]; omega
  have h2 : (Cp f).toList[j]? = none := by rw [List.getElem?_eq_none]; rw [Array.length_toList, Ek]; omega
  rw [h1, h2]
  by_cases hkj : k = j
  ·subst hkj; simp [hj]
  ·rw [if_neg hkj]
theorem PZ (f : Nat → Bool) (k : Nat) (b : Bool) : EC (Cp f) k #[.bool b] = Cp (upd f k b) := by
 unfold EC
 rw [if_neg (by rw [Ek]; simp), if_pos (by simp)]
 exact bx f k b
theorem Ys (cs vs : Array Value) (h : vs.size = cs.size) : EC cs 0 vs = vs := by
 unfold EC; rw [if_pos ⟨rfl, h⟩]
theorem PY (f g : Nat → Bool) : EC (Cp f) 0 (Cp g) = Cp g := Ys _ _ (by rw [Ek, Ek])
theorem Uj {P : Program} {e : TypeId} {i : TypeInfo} (hi : P.info? e = some i) (hs : i.size = 1) (f : Nat → Bool) {k : Nat} (b : Bool) (hk : k < 128) : StOk P e (Cp f) k #[.bool b] :=
 ⟨⟨i, hi, by rw [hs]; rfl⟩, by rw [Ek]; exact hk, fun x hx => by simp at hx; subst hx; rfl⟩
theorem Ui {P : Program} {e : TypeId} {i : TypeInfo} (hi : P.info? e = some i) (hs : i.size = 128) (f g : Nat → Bool) : StOk P e (Cp f) 0 (Cp g) :=
 ⟨⟨i, hi, by rw [hs, Ek]⟩, by rw [Ek, Ek]; exact Nat.le_refl _, fun x hx => by
  obtain ⟨j, hj, rfl⟩ := Array.mem_iff_getElem.1 hx
  simp [Cp]; rfl⟩
theorem Zu {P : Program} {e : TypeId} (hu : P.underlying e = some .bool) (f : Nat → Bool) {k : Nat} (hk : k < 128) : DE P e (Cp f) k = some (.bool (f k)) := by
 unfold DE; rw [hu]; exact Rq f hk
theorem Zt {P : Program} {e n el : TypeId} {i : TypeInfo} (hu : P.underlying e = some (.array n el)) (hi : P.info? e = some i) (hs : i.size = 128) (f : Nat → Bool) : DE P e (Cp f) 0 = some (.agg (Cp f)) := by
 unfold DE; rw [hu, hi]; simp only [hs, Ek, and_self, if_true]
theorem Yz : (⟨List.replicate 128 (Value.bool false)⟩ : Array Value) = Cp (fun _ => false) := by
 apply Array.ext
 ·rw [Ek]; exact List.length_replicate
 ·intro i h1 h2
  simp only [Cp, Array.getElem_ofFn]
  exact List.getElem_replicate ..
theorem km {P : Program} {t : TypeId} (h : ((P.info? t).bind (·.zero)) = some (.agg ⟨List.replicate 128 (.bool false)⟩)) : ((P.info? t).bind (·.zero)).map (fun z => (t, z.cells)) = some (t, Cp fun _ => false) := by
 rw [h]
 show some (t, (⟨List.replicate 128 (Value.bool false)⟩ : Array Value)) = _
 rw [Yz]
theorem Nc {P : Program} {c : Addr → Option Value} (d : Nat) {t : TypeId} {k k' : IntKind} (a b : Int) (h : P.underlying t = some (.int k')) : ev P c (Op.equalIn (d + 1) t (.int k a) (.int k b)) = some (a == b) := by
 simp [Op.equalIn, AK, Bq h, Bk]
theorem GN {P : Program} {c : Addr → Option Value} {t : TypeId} {de : TypeDesc} (h : P.underlying t = some de) (hs : ∀ fs, de ≠ .struct fs) (ha : ∀ n e, de ≠ .array n e) (cs : Array Value) (off : Nat) {v : Value} (hv : cs[off]? = some v) : ev P c (part t cs off) = some v := by
 unfold part isAgg
 cases de <;> simp_all [AK, Bq h, Bk]
theorem Qn {P : Program} {c : Addr → Option Value} (d : Nat) {t : TypeId} {fs : Array Field} (xs ys : Array Value) (ht : P.underlying t = some (.struct fs)) (hp : P.stoodInHeld t = false) (g : Field → Bool)
  (h : ∀ f ∈ fs.toList, f.name ≠ "_" ∧ ∃ a b, ev P c (part f.type xs f.offset) = some a ∧ ev P c (part f.type ys f.offset) = some b ∧ ev P c (Op.equalIn d f.type a b) = some (g f)) :
  ev P c (Op.equalIn (d + 1) t (.agg xs) (.agg ys)) = some (fs.toList.all g) := by
 have hst : ev P c (do pure (← program) : Sem Program) = some P := rfl
 simp only [Op.equalIn, AK, Bq ht, Option.bind_some]
 rw [show ev P c program = some P from rfl]
 simp only [Option.bind_some, hp, Bool.false_eq_true, if_false]
 rw [← Array.forIn_toList]
 generalize fs.toList = l at h
 clear ht
 induction l with
 | nil => simp [Bk]
 | cons f l ih =>
  obtain ⟨hn, a, b, ha, hb, he⟩ := h f (by simp)
  have ih' := ih (fun f hf => h f (by simp [hf]))
  rw [AK] at ih'
  simp only [List.forIn_cons, AK, if_pos hn, ha, hb, he, Option.bind_some]
  cases hg : g f
  ·simp [hg, Bk]
  ·simp only [Bool.not_true, Bool.false_eq_true, if_false, Bk, Option.bind_some, List.all_cons, hg, Bool.true_and]
   exact ih'
theorem Wg (x y : BitVec 128) : ((((hi x).toNat : Int) == ((hi y).toNat : Int)) && (((lo x).toNat : Int) == ((lo y).toNat : Int))) = (x == y) := by
 rw [Bool.eq_iff_iff]
 simp only [Bool.and_eq_true, beq_iff_eq]
 constructor
 ·rintro ⟨h1, h2⟩
  exact ld (BitVec.eq_of_toNat_eq (by omega)) (BitVec.eq_of_toNat_eq (by omega))
 ·rintro rfl; exact ⟨rfl, rfl⟩
theorem Sy {P : Program} {c : Addr → Option Value} {ρ : Operand → Value} {d : Option Tmp} {t t' : TypeId} {x y : Operand} {ty : TypeId} {pos : String} {af : Array Edge} {g : Option (Nat × Bool)} {xs ys : Array Value} {b : Bool}
  (hx : ρ x = .agg xs) (hy : ρ y = .agg ys) (hg : P.eqGuardType P.depth t = false) (he : ev P c (Op.equal t (.agg xs) (.agg ys)) = some b) :
  ev P c (execOp ρ ⟨d, .binOp .eql t x y t', ty, pos, af, g⟩) = some (.value (.bool b)) := by
 refine GE (s := do eqGuard .eql t x y (ρ x) (ρ y); binOp .eql t (ρ x) (ρ y)) ?_
 rw [hx, hy]
 have h1 : ev P c (eqGuard .eql t x y (.agg xs) (.agg ys)) = some () := by
  simp [eqGuard, AK, program, ev, hg, Bk]
 simp only [AK, h1, Option.bind_some, binOp, he, Bk]
theorem cr {P : Program} {c : Addr → Option Value} {ρ : Operand → Value} {d : Option Tmp} {t t' : TypeId} {x y : Operand} {ty : TypeId} {pos : String} {af : Array Edge} {g : Option (Nat × Bool)} {xs ys : Array Value} {b : Bool}
  (hx : ρ x = .agg xs) (hy : ρ y = .agg ys) (hg : P.eqGuardType P.depth t = false) (he : ev P c (Op.equal t (.agg xs) (.agg ys)) = some b) :
  ev P c (execOp ρ ⟨d, .binOp .neq t x y t', ty, pos, af, g⟩) = some (.value (.bool (!b))) := by
 refine GE (s := do eqGuard .neq t x y (ρ x) (ρ y); binOp .neq t (ρ x) (ρ y)) ?_
 rw [hx, hy]
 have h1 : ev P c (eqGuard .neq t x y (.agg xs) (.agg ys)) = some () := by
  simp [eqGuard, AK, program, ev, hg, Bk]
 simp only [AK, h1, Option.bind_some, binOp, he, Bk]
theorem ji {P : Program} {c : Addr → Option Value} {ρ : Operand → Value} {d : Option Tmp} {t t' : TypeId} {x y : Operand} {ty : TypeId} {pos : String} {af : Array Edge} {g : Option (Nat × Bool)} {a b : ByteArray}
  (hx : ρ x = .string a) (hy : ρ y = .string b) : ev P c (execOp ρ ⟨d, .binOp .eql t x y t', ty, pos, af, g⟩) = some (.value (.bool (a == b))) := by
 refine GE (s := do eqGuard .eql t x y (ρ x) (ρ y); binOp .eql t (ρ x) (ρ y)) ?_
 rw [hx, hy]
 have h1 : ev P c (eqGuard .eql t x y (.string a) (.string b)) = some () := by simp [eqGuard, Bk]
 simp only [AK, h1, Option.bind_some, binOp, Op.stringOp, Bk, beq_toListBytes]
end Go.Eng
