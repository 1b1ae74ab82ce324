/- Rows of 128 bits as arrays of truths, and equality of structs and arrays: what the walks need. Conditions: none. -/
import Derived.Test.YtnpbpllibmcokaaWm
import Derived.Laws.StructEq
namespace Go.Eng
open Go Go.RowKit
/-! ### Rows -/
def rowF (f : Nat → Bool) : Array Value := Array.ofFn (n := 128) fun i => .bool (f i)
abbrev rowA (x : BitVec 128) : Array Value := rowF (BitVec.getLsbD x)
theorem rowF_size (f : Nat → Bool) : (rowF f).size = 128 := by simp [rowF]
theorem rowF_ext {f g : Nat → Bool} (h : ∀ j, j < 128 → f j = g j) : rowF f = rowF g := by
  unfold rowF; congr 1; funext i; rw [h i i.isLt]
theorem rowF_get (f : Nat → Bool) {k : Nat} (h : k < 128) : (rowF f)[k]? = some (.bool (f k)) := by
  simp [rowF, h]
theorem rowF_set (f : Nat → Bool) (k : Nat) (b : Bool) : (rowF f).setIfInBounds k (.bool b) = rowF (upd f k b) := by
  apply Array.ext'
  apply List.ext_getElem?
  intro j
  simp only [Array.toList_setIfInBounds, List.getElem?_set, Array.length_toList, rowF_size]
  by_cases hj : j < 128
  · have h1 := rowF_get (upd f k b) hj
    have h2 := rowF_get f hj
    rw [← Array.getElem?_toList] at h1 h2
    rw [h1, h2]
    by_cases hkj : k = j
    · subst hkj; simp [hj, upd]
    · rw [if_neg hkj, upd_ne _ _ (Ne.symm hkj)]
  · have h1 : (rowF (upd f k b)).toList[j]? = none := by rw [List.getElem?_eq_none]; rw [Array.length_toList, rowF_size]; omega
    have h2 : (rowF f).toList[j]? = none := by rw [List.getElem?_eq_none]; rw [Array.length_toList, rowF_size]; omega
    rw [h1, h2]
    by_cases hkj : k = j
    · subst hkj; simp [hj]
    · rw [if_neg hkj]
theorem splice_row1 (f : Nat → Bool) (k : Nat) (b : Bool) : splice (rowF f) k #[.bool b] = rowF (upd f k b) := by
  unfold splice
  rw [if_neg (by rw [rowF_size]; simp), if_pos (by simp)]
  exact rowF_set f k b
theorem splice_all (cs vs : Array Value) (h : vs.size = cs.size) : splice cs 0 vs = vs := by
  unfold splice; rw [if_pos ⟨rfl, h⟩]
theorem splice_rows (f g : Nat → Bool) : splice (rowF f) 0 (rowF g) = rowF g := splice_all _ _ (by rw [rowF_size, rowF_size])
theorem stok_row1 {P : Program} {e : TypeId} {i : TypeInfo} (hi : P.info? e = some i) (hs : i.size = 1) (f : Nat → Bool) {k : Nat} (b : Bool) (hk : k < 128) : StOk P e (rowF f) k #[.bool b] :=
  ⟨⟨i, hi, by rw [hs]; rfl⟩, by rw [rowF_size]; exact hk, fun x hx => by simp at hx; subst hx; rfl⟩
theorem stok_rows {P : Program} {e : TypeId} {i : TypeInfo} (hi : P.info? e = some i) (hs : i.size = 128) (f g : Nat → Bool) : StOk P e (rowF f) 0 (rowF g) :=
  ⟨⟨i, hi, by rw [hs, rowF_size]⟩, by rw [rowF_size, rowF_size]; exact Nat.le_refl _, fun x hx => by
    obtain ⟨j, hj, rfl⟩ := Array.mem_iff_getElem.1 hx
    simp [rowF]; rfl⟩
theorem ld_row1 {P : Program} {e : TypeId} (hu : P.underlying e = some .bool) (f : Nat → Bool) {k : Nat} (hk : k < 128) : ldCells P e (rowF f) k = some (.bool (f k)) := by
  unfold ldCells; rw [hu]; exact rowF_get f hk
theorem ld_rows {P : Program} {e n el : TypeId} {i : TypeInfo} (hu : P.underlying e = some (.array n el)) (hi : P.info? e = some i) (hs : i.size = 128) (f : Nat → Bool) : ldCells P e (rowF f) 0 = some (.agg (rowF f)) := by
  unfold ldCells; rw [hu, hi]; simp only [hs, rowF_size, and_self, if_true]
theorem rowA_inj {x y : BitVec 128} : rowA x = rowA y ↔ x = y := by
  constructor
  · intro h
    apply BitVec.eq_of_getLsbD_eq
    intro i hi
    have h1 := rowF_get (BitVec.getLsbD x) hi
    have h2 := rowF_get (BitVec.getLsbD y) hi
    rw [show rowF (BitVec.getLsbD x) = rowF (BitVec.getLsbD y) from h, h2] at h1
    simpa using h1.symm
  · rintro rfl; rfl

theorem rowF_false : (⟨List.replicate 128 (Value.bool false)⟩ : Array Value) = rowF (fun _ => false) := by
  apply Array.ext
  · rw [rowF_size]; exact List.length_replicate
  · intro i h1 h2
    simp only [rowF, Array.getElem_ofFn]
    exact List.getElem_replicate ..
theorem zrow {P : Program} {t : TypeId} (h : ((P.info? t).bind (·.zero)) = some (.agg ⟨List.replicate 128 (.bool false)⟩)) : ((P.info? t).bind (·.zero)).map (fun z => (t, z.cells)) = some (t, rowF fun _ => false) := by
  rw [h]
  show some (t, (⟨List.replicate 128 (Value.bool false)⟩ : Array Value)) = _
  rw [rowF_false]
/-! ### Equality -/
theorem ev_eqInt {P : Program} {c : Addr → Option Value} (d : Nat) {t : TypeId} {k k' : IntKind} (a b : Int) (h : P.underlying t = some (.int k')) : ev P c (Op.equalIn (d + 1) t (.int k a) (.int k b)) = some (a == b) := by
  simp [Op.equalIn, ev_bind, ev_underlying h, ev_pure]
theorem ev_eqBool {P : Program} {c : Addr → Option Value} (d : Nat) {t : TypeId} (a b : Bool) (h : P.underlying t = some .bool) : ev P c (Op.equalIn (d + 1) t (.bool a) (.bool b)) = some (a == b) := by
  simp [Op.equalIn, ev_bind, ev_underlying h, ev_pure]
theorem ev_eqStr {P : Program} {c : Addr → Option Value} (d : Nat) {t : TypeId} (a b : ByteArray) (h : P.underlying t = some .string) : ev P c (Op.equalIn (d + 1) t (.string a) (.string b)) = some (a == b) := by
  simp [Op.equalIn, ev_bind, ev_underlying h, ev_pure]
theorem ev_partS {P : Program} {c : Addr → Option Value} {t : TypeId} {de : TypeDesc} (h : P.underlying t = some de) (hs : ∀ fs, de ≠ .struct fs) (ha : ∀ n e, de ≠ .array n e) (cs : Array Value) (off : Nat) {v : Value} (hv : cs[off]? = some v) : ev P c (part t cs off) = some v := by
  unfold part isAgg
  cases de <;> simp_all [ev_bind, ev_underlying h, ev_pure]
theorem ev_eqStruct {P : Program} {c : Addr → Option Value} (d : Nat) {t : TypeId} {fs : Array Field} (xs ys : Array Value) (ht : P.underlying t = some (.struct fs)) (hp : P.stoodInHeld t = false) (g : Field → Bool)
    (h : ∀ f ∈ fs.toList, f.name ≠ "_" ∧ ∃ a b, ev P c (part f.type xs f.offset) = some a ∧ ev P c (part f.type ys f.offset) = some b ∧ ev P c (Op.equalIn d f.type a b) = some (g f)) :
    ev P c (Op.equalIn (d + 1) t (.agg xs) (.agg ys)) = some (fs.toList.all g) := by
  have hst : ev P c (do pure (← program) : Sem Program) = some P := rfl
  simp only [Op.equalIn, ev_bind, ev_underlying ht, Option.bind_some]
  rw [show ev P c program = some P from rfl]
  simp only [Option.bind_some, hp, Bool.false_eq_true, if_false]
  rw [← Array.forIn_toList]
  generalize fs.toList = l at h
  clear ht
  induction l with
  | nil => simp [ev_pure]
  | cons f l ih =>
    obtain ⟨hn, a, b, ha, hb, he⟩ := h f (by simp)
    have ih' := ih (fun f hf => h f (by simp [hf]))
    rw [ev_bind] at ih'
    simp only [List.forIn_cons, ev_bind, if_pos hn, ha, hb, he, Option.bind_some]
    cases hg : g f
    · simp [hg, ev_pure]
    · simp only [Bool.not_true, Bool.false_eq_true, if_false, ev_pure, Option.bind_some, List.all_cons, hg, Bool.true_and]
      exact ih'
theorem ev_eqArray {P : Program} {c : Addr → Option Value} (d : Nat) {t el : TypeId} {n : Nat} {i : TypeInfo} (xs ys : Array Value) (sz : Nat) (ht : P.underlying t = some (.array n el)) (hi : P.info? el = some i) (hs : i.size = sz) (g : Nat → Bool)
    (h : ∀ j, j < n → ∃ a b, ev P c (part el xs (j * sz)) = some a ∧ ev P c (part el ys (j * sz)) = some b ∧ ev P c (Op.equalIn d el a b) = some (g j)) :
    ev P c (Op.equalIn (d + 1) t (.agg xs) (.agg ys)) = some ((List.range n).all g) := by
  simp only [Op.equalIn, ev_bind, ev_underlying ht, Option.bind_some, ev_sizeOf hi, hs]
  rw [Std.Legacy.Range.forIn_eq_forIn_range']
  have hr : List.range' (0 : Nat) (Std.Legacy.Range.size [0:n]) 1 = List.range n := by rw [List.range_eq_range']; simp [Std.Legacy.Range.size]
  rw [show ([0:n] : Std.Legacy.Range).step = 1 from rfl, show ([0:n] : Std.Legacy.Range).start = 0 from rfl, hr]
  have hl : ∀ j ∈ List.range n, j < n := fun j hj => List.mem_range.1 hj
  generalize List.range n = l at hl
  clear hr
  induction l with
  | nil => simp [ev_pure]
  | cons j l ih =>
    obtain ⟨a, b, ha, hb, he⟩ := h j (hl j (by simp))
    have ih' := ih (fun j hj => hl j (by simp [hj]))
    try rw [ev_bind] at ih'
    simp only [List.forIn_cons, ev_bind, ha, hb, he, Option.bind_some]
    cases hg : g j
    · simp [hg, ev_pure]
    · simp only [Bool.not_true, Bool.false_eq_true, if_false, ev_pure, Option.bind_some, List.all_cons, hg, Bool.true_and]
      exact ih'
theorem row_beq (x y : BitVec 128) : ((List.range 128).all fun j => BitVec.getLsbD x j == BitVec.getLsbD y j) = (x == y) := by
  rw [Bool.eq_iff_iff]
  simp only [List.all_eq_true, List.mem_range, beq_iff_eq]
  exact ⟨fun h => BitVec.eq_of_getLsbD_eq h, fun h _ _ => by rw [h]⟩
theorem word_beq (x y : BitVec 128) : ((((hi x).toNat : Int) == ((hi y).toNat : Int)) && (((lo x).toNat : Int) == ((lo y).toNat : Int))) = (x == y) := by
  rw [Bool.eq_iff_iff]
  simp only [Bool.and_eq_true, beq_iff_eq]
  constructor
  · rintro ⟨h1, h2⟩
    exact ext_hl (BitVec.eq_of_toNat_eq (by omega)) (BitVec.eq_of_toNat_eq (by omega))
  · rintro rfl; exact ⟨rfl, rfl⟩

/-- Equality as an operation. -/
theorem ev_binEq {P : Program} {c : Addr → Option Value} {ρ : Operand → Value} {d : Option Tmp} {t t' : TypeId} {x y : Operand} {ty : TypeId} {pos : String} {af : Array Edge} {g : Option (Nat × Bool)} {xs ys : Array Value} {b : Bool}
    (hx : ρ x = .agg xs) (hy : ρ y = .agg ys) (hg : P.eqGuardType P.depth t = false) (he : ev P c (Op.equal t (.agg xs) (.agg ys)) = some b) :
    ev P c (execOp ρ ⟨d, .binOp .eql t x y t', ty, pos, af, g⟩) = some (.value (.bool b)) := by
  refine ev_v (s := do eqGuard .eql t x y (ρ x) (ρ y); binOp .eql t (ρ x) (ρ y)) ?_
  rw [hx, hy]
  have h1 : ev P c (eqGuard .eql t x y (.agg xs) (.agg ys)) = some () := by
    simp [eqGuard, ev_bind, program, ev, hg, ev_pure]
  simp only [ev_bind, h1, Option.bind_some, binOp, he, ev_pure]
theorem ev_binNe {P : Program} {c : Addr → Option Value} {ρ : Operand → Value} {d : Option Tmp} {t t' : TypeId} {x y : Operand} {ty : TypeId} {pos : String} {af : Array Edge} {g : Option (Nat × Bool)} {xs ys : Array Value} {b : Bool}
    (hx : ρ x = .agg xs) (hy : ρ y = .agg ys) (hg : P.eqGuardType P.depth t = false) (he : ev P c (Op.equal t (.agg xs) (.agg ys)) = some b) :
    ev P c (execOp ρ ⟨d, .binOp .neq t x y t', ty, pos, af, g⟩) = some (.value (.bool (!b))) := by
  refine ev_v (s := do eqGuard .neq t x y (ρ x) (ρ y); binOp .neq t (ρ x) (ρ y)) ?_
  rw [hx, hy]
  have h1 : ev P c (eqGuard .neq t x y (.agg xs) (.agg ys)) = some () := by
    simp [eqGuard, ev_bind, program, ev, hg, ev_pure]
  simp only [ev_bind, h1, Option.bind_some, binOp, he, ev_pure]
theorem ev_binB {P : Program} {c : Addr → Option Value} {ρ : Operand → Value} {d : Option Tmp} {t t' : TypeId} {x y : Operand} {ty : TypeId} {pos : String} {af : Array Edge} {g : Option (Nat × Bool)} {a b : Bool} (ht : P.underlying t = some .bool)
    (hx : ρ x = .bool a) (hy : ρ y = .bool b) : ev P c (execOp ρ ⟨d, .binOp .eql t x y t', ty, pos, af, g⟩) = some (.value (.bool (a == b))) := by
  refine ev_v (s := do eqGuard .eql t x y (ρ x) (ρ y); binOp .eql t (ρ x) (ρ y)) ?_
  rw [hx, hy]
  have h1 : ev P c (eqGuard .eql t x y (.bool a) (.bool b)) = some () := by simp [eqGuard, ev_pure]
  simp only [ev_bind, h1, Option.bind_some, binOp, Op.equal, ev_eqBool _ a b ht, ev_pure, Op.maxDepth]
theorem ev_binBn {P : Program} {c : Addr → Option Value} {ρ : Operand → Value} {d : Option Tmp} {t t' : TypeId} {x y : Operand} {ty : TypeId} {pos : String} {af : Array Edge} {g : Option (Nat × Bool)} {a b : Bool} (ht : P.underlying t = some .bool)
    (hx : ρ x = .bool a) (hy : ρ y = .bool b) : ev P c (execOp ρ ⟨d, .binOp .neq t x y t', ty, pos, af, g⟩) = some (.value (.bool (a != b))) := by
  refine ev_v (s := do eqGuard .neq t x y (ρ x) (ρ y); binOp .neq t (ρ x) (ρ y)) ?_
  rw [hx, hy]
  have h1 : ev P c (eqGuard .neq t x y (.bool a) (.bool b)) = some () := by simp [eqGuard, ev_pure]
  simp only [ev_bind, h1, Option.bind_some, binOp, Op.equal, ev_eqBool _ a b ht, ev_pure, Op.maxDepth, bne]

theorem ev_binS {P : Program} {c : Addr → Option Value} {ρ : Operand → Value} {d : Option Tmp} {t t' : TypeId} {x y : Operand} {ty : TypeId} {pos : String} {af : Array Edge} {g : Option (Nat × Bool)} {a b : ByteArray}
    (hx : ρ x = .string a) (hy : ρ y = .string b) : ev P c (execOp ρ ⟨d, .binOp .eql t x y t', ty, pos, af, g⟩) = some (.value (.bool (a == b))) := by
  refine ev_v (s := do eqGuard .eql t x y (ρ x) (ρ y); binOp .eql t (ρ x) (ρ y)) ?_
  rw [hx, hy]
  have h1 : ev P c (eqGuard .eql t x y (.string a) (.string b)) = some () := by simp [eqGuard, ev_pure]
  simp only [ev_bind, h1, Option.bind_some, binOp, Op.stringOp, ev_pure, beq_toListBytes]
theorem ev_binSn {P : Program} {c : Addr → Option Value} {ρ : Operand → Value} {d : Option Tmp} {t t' : TypeId} {x y : Operand} {ty : TypeId} {pos : String} {af : Array Edge} {g : Option (Nat × Bool)} {a b : ByteArray}
    (hx : ρ x = .string a) (hy : ρ y = .string b) : ev P c (execOp ρ ⟨d, .binOp .neq t x y t', ty, pos, af, g⟩) = some (.value (.bool (a != b))) := by
  refine ev_v (s := do eqGuard .neq t x y (ρ x) (ρ y); binOp .neq t (ρ x) (ρ y)) ?_
  rw [hx, hy]
  have h1 : ev P c (eqGuard .neq t x y (.string a) (.string b)) = some () := by simp [eqGuard, ev_pure]
  simp only [ev_bind, h1, Option.bind_some, binOp, Op.stringOp, ev_pure, bne, beq_toListBytes]
end Go.Eng
