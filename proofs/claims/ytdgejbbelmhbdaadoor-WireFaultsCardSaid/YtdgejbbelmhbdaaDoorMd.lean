/- Models: partial answers, and what operations on texts give. Conditions: none. -/
import Derived.Test.YtdgejbbelmhbdaaDoorRm
import Derived.Test.YtdgejbbelmhbdaaDoorTm
namespace Go.Eng
open Go Go.RowKit
def ck {α : Type} (c : Prop) [Decidable c] (k : Option α) : Option α := if c then k else none
theorem ck_some {α : Type} {c : Prop} [Decidable c] {k : Option α} {r : α} (h : ck c k = some r) : c ∧ k = some r := by
  unfold ck at h; split at h
  · exact ⟨by assumption, h⟩
  · cases h
theorem ck_pos {α : Type} {c : Prop} [Decidable c] (k : Option α) (h : c) : ck c k = k := if_pos h
theorem bind_sm {α β : Type} {x : Option α} {f : α → Option β} {r : β} (h : x.bind f = some r) : ∃ y, x = some y ∧ f y = some r := by
  cases x with
  | none => cases h
  | some y => exact ⟨y, rfl, h⟩
theorem ifp {α : Type} {c : Prop} [Decidable c] {a b r : α} (hc : c) (h : (if c then a else b) = r) : a = r := by rwa [if_pos hc] at h
theorem ifn {α : Type} {c : Prop} [Decidable c] {a b r : α} (hc : ¬ c) (h : (if c then a else b) = r) : b = r := by rwa [if_neg hc] at h
theorem not_t {b : Bool} (h : (!b) = true) : b = false := by cases b <;> first | rfl | cases h
theorem not_f {b : Bool} (h : (!b) = false) : b = true := by cases b <;> first | rfl | cases h
theorem bne_f {α : Type} [BEq α] [LawfulBEq α] {a b : α} (h : (a != b) = false) : ¬ a ≠ b := fun hn => absurd (bne_iff_ne.2 hn) (by rw [h]; decide)
section
variable {P : Program} {c : Addr → Option Value} {ρ : Operand → Value} {d : Option Tmp} {ty t t' : TypeId} {pos : String} {af : Array Edge} {g : Option (Nat × Bool)} {x y : Operand}
theorem arr_beq (a b : List UInt8) : ((⟨a.toArray⟩ : ByteArray) == ⟨b.toArray⟩) = (a == b) := by
  show (a.toArray == b.toArray) = _
  simp
theorem ev_eqS {a b : List UInt8} (hx : ρ x = .string ⟨a.toArray⟩) (hy : ρ y = .string ⟨b.toArray⟩) : ev P c (execOp ρ ⟨d, .binOp .eql t x y t', ty, pos, af, g⟩) = some (.value (.bool (a == b))) := by
  rw [ev_binS hx hy, arr_beq]
theorem ev_neS {a b : List UInt8} (hx : ρ x = .string ⟨a.toArray⟩) (hy : ρ y = .string ⟨b.toArray⟩) : ev P c (execOp ρ ⟨d, .binOp .neq t x y t', ty, pos, af, g⟩) = some (.value (.bool (a != b))) := by
  rw [ev_binSn hx hy]; simp only [bne, arr_beq]
theorem ev_addS {a b : List UInt8} (hl : (a.length : Int) + (b.length : Int) ≤ 9223372036854775807) (hx : ρ x = .string ⟨a.toArray⟩) (hy : ρ y = .string ⟨b.toArray⟩) : ev P c (execOp ρ ⟨d, .binOp .add t x y t', ty, pos, af, g⟩) = some (.value (.string ⟨(a ++ b).toArray⟩)) := by
  refine ev_v (s := do eqGuard .add t x y (ρ x) (ρ y); binOp .add t (ρ x) (ρ y)) ?_
  rw [hx, hy]
  have h1 : ev P c (eqGuard .add t x y (.string ⟨a.toArray⟩) (.string ⟨b.toArray⟩)) = some () := by simp [eqGuard, ev_pure]
  simp only [ev_bind, h1, Option.bind_some, binOp, Op.stringOp]
  rw [if_neg]
  · rw [ev_pure]; congr 2
  · show ¬ (((a.toArray.size + b.toArray.size : Nat) : Int) > 9223372036854775807)
    simp; omega
theorem ev_sliceS {l : List UInt8} {i j : Int} {k k' : IntKind} (ht : P.underlying t = some .string) (h : 0 ≤ i ∧ i ≤ j ∧ j ≤ (l.length : Int)) : ev P c (Instr.slice t (.string ⟨l.toArray⟩) (some (.int k i)) (some (.int k' j)) none) = some (.string ⟨((l.take j.toNat).drop i.toNat).toArray⟩) := by
  obtain ⟨h0, h1, h2⟩ := h
  have hs : ((⟨l.toArray⟩ : ByteArray).size : Int) = l.length := by simp [ByteArray.size]
  have e : (⟨l.toArray⟩ : ByteArray).extract i.toNat j.toNat = ⟨((l.take j.toNat).drop i.toNat).toArray⟩ := by
    apply ByteArray.ext
    rw [ByteArray.data_extract]
    apply Array.ext'
    simp [List.extract_eq_take_drop, List.drop_take]
  have h3 : i ≤ (j.toNat : Int) := by omega
  unfold Instr.slice
  simp only [ev_bind, ev_underlying ht, Option.bind_some, Instr.sliceBounds, Instr.sliceBound, asIntOf, ev_pure, hs, Option.isSome_none, Bool.false_eq_true, if_false]
  rw [if_pos ⟨by omega, h2⟩]
  simp only [ev_pure, Option.bind_some]
  rw [if_pos ⟨h0, h3⟩]
  simp only [ev_pure, Option.bind_some, e]
theorem U_wrapI (x : Int) : Value.int .u64 (IntKind.u64.wrap x) = U (BitVec.ofInt 64 x) := by
  congr 1
  simp only [IntKind.wrap, IntKind.signed, IntKind.bits, BitVec.toNat_ofInt]
  simp
  omega
end
/-- An index into an array behind its address. -/
theorem ev_idxI {P : Program} {c : Addr → Option Value} {t : TypeId} {b off n : Nat} {e : TypeId} {i : TypeInfo} {k : IntKind} {j : Int} (hu : P.underlying t = some (.array n e)) (hi : P.info? e = some i) (hs : i.size = 1) (hj : 0 ≤ j ∧ j < (n : Int)) :
    ev P c (Instr.indexAt t (.pointer (some ⟨b, off, none⟩)) (.int k j)) = some (.pointer (some ⟨b, off + j.toNat, none⟩)) := by
  unfold Instr.indexAt
  have hadd : (⟨b, off, none⟩ : Addr).add j.toNat = ⟨b, off + j.toNat, none⟩ := by unfold Addr.add; split <;> simp_all
  simp only [asIntOf, ev_bind, ev_pure, Option.bind_some, ev_underlying hu, Instr.sureAddr]
  rw [if_pos hj]
  simp only [ev_bind, ev_sizeOf hi, hs, Option.bind_some, ev_pure, Nat.mul_one, hadd]
theorem row_zero : rowF (fun _ => false) = rowF (BitVec.getLsbD 0#128) := rowF_ext fun j _ => by simp
end Go.Eng
