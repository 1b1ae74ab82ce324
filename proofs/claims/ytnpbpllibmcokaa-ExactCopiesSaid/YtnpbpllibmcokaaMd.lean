/- Models: partial answers, and what operations on texts give. Conditions: none. -/
import Derived.Test.YtnpbpllibmcokaaRm
import Derived.Test.YtnpbpllibmcokaaTm
namespace Go.Eng
open Go Go.RowKit
def ck {α : Type} (c : Prop) [Decidable c] (k : Option α) : Option α := if c then k else none
theorem ck_some {α : Type} {c : Prop} [Decidable c] {k : Option α} {r : α} (h : ck c k = some r) : c ∧ k = some r := by
  unfold ck at h; split at h
  · exact ⟨by assumption, h⟩
  · cases h
theorem ck_pos {α : Type} {c : Prop} [Decidable c] (k : Option α) (h : c) : ck c k = k := if_pos h
theorem bind_sm {α β : Type} {x : Option α} {f : α → Option β} {r : β} (h : x.bind f = some r) : ∃ y, x = some y ∧ f y = some r := by
  cases x with
  | none => cases h
  | some y => exact ⟨y, rfl, h⟩
theorem ifp {α : Type} {c : Prop} [Decidable c] {a b r : α} (hc : c) (h : (if c then a else b) = r) : a = r := by rwa [if_pos hc] at h
theorem ifn {α : Type} {c : Prop} [Decidable c] {a b r : α} (hc : ¬ c) (h : (if c then a else b) = r) : b = r := by rwa [if_neg hc] at h
theorem not_t {b : Bool} (h : (!b) = true) : b = false := by cases b <;> first | rfl | cases h
theorem not_f {b : Bool} (h : (!b) = false) : b = true := by cases b <;> first | rfl | cases h
theorem bne_f {α : Type} [BEq α] [LawfulBEq α] {a b : α} (h : (a != b) = false) : ¬ a ≠ b := fun hn => absurd (bne_iff_ne.2 hn) (by rw [h]; decide)
section
variable {P : Program} {c : Addr → Option Value} {ρ : Operand → Value} {d : Option Tmp} {ty t t' : TypeId} {pos : String} {af : Array Edge} {g : Option (Nat × Bool)} {x y : Operand}
def byteAt (l : List UInt8) (i : Int) : Int := ((l.getD i.toNat 0).toNat : Int)
theorem ev_indexS {l : List UInt8} {i : Int} {k : IntKind} (ht : P.underlying t = some .string) (hi : 0 ≤ i ∧ i < (l.length : Int)) : ev P c (Instr.index t (.string ⟨l.toArray⟩) (.int k i)) = some (.int .u8 (byteAt l i)) := by
  unfold Instr.index
  have hlt : i.toNat < l.length := by omega
  have hget : (⟨l.toArray⟩ : ByteArray)[i.toNat]? = some (l.getD i.toNat 0) := by
    have h1 : i.toNat < (⟨l.toArray⟩ : ByteArray).size := by simpa [ByteArray.size] using hlt
    rw [getElem?_pos (⟨l.toArray⟩ : ByteArray) i.toNat h1]
    show some (l.toArray[i.toNat]) = _
    simp [List.getElem?_eq_getElem hlt]
  simp only [ev_bind, asIntOf, ev_pure, ev_underlying ht, Option.bind_some, if_pos hi.1, hget, byteAt]
theorem ev_lenS {l : List UInt8} {ts : Array TypeId} (hts : ts = #[t]) (ht : P.underlying t = some .string) (hx : ρ x = .string ⟨l.toArray⟩) :
    ev P c (execOp ρ ⟨d, .call ⟨.builtin .len, #[x], ts⟩, ty, pos, af, g⟩) = some (.value (.int .i64 ((l.length : Nat) : Int))) := by
  subst hts
  have h2 : ev P c (Builtin.len_ #[t] ty #[Value.string ⟨l.toArray⟩]) = some (.int .i64 ((l.length : Nat) : Int)) := by
    have h3 : ev P c (do match ← underlying t, Value.string ⟨l.toArray⟩ with
      | .string, .string s => pure (goInt s.size)
      | _, _ => stuck "" : Sem Value) = some (.int .i64 ((l.length : Nat) : Int)) := by
      rw [ev_bind, ev_underlying ht]
      show some (Value.int .i64 ((l.toArray.size : Nat) : Int)) = _
      simp
    show ev P c (underlying t >>= fun u => _) = _
    rw [ev_bind, ev_underlying ht]
    show some (Value.int .i64 ((l.toArray.size : Nat) : Int)) = _
    simp
  show ev P c (do let d ← resolve ρ ⟨.builtin .len, #[x], #[t]⟩ ty; invoke d.target d.args) = _
  simp [resolve, invoke, builtin, ev_map, h2, hx]
theorem arr_beq (a b : List UInt8) : ((⟨a.toArray⟩ : ByteArray) == ⟨b.toArray⟩) = (a == b) := by
  show (a.toArray == b.toArray) = _
  simp
theorem ev_eqS {a b : List UInt8} (hx : ρ x = .string ⟨a.toArray⟩) (hy : ρ y = .string ⟨b.toArray⟩) : ev P c (execOp ρ ⟨d, .binOp .eql t x y t', ty, pos, af, g⟩) = some (.value (.bool (a == b))) := by
  rw [ev_binS hx hy, arr_beq]
theorem ev_neS {a b : List UInt8} (hx : ρ x = .string ⟨a.toArray⟩) (hy : ρ y = .string ⟨b.toArray⟩) : ev P c (execOp ρ ⟨d, .binOp .neq t x y t', ty, pos, af, g⟩) = some (.value (.bool (a != b))) := by
  rw [ev_binSn hx hy]; simp only [bne, arr_beq]
theorem ev_addS {a b : List UInt8} (hl : (a.length : Int) + (b.length : Int) ≤ 9223372036854775807) (hx : ρ x = .string ⟨a.toArray⟩) (hy : ρ y = .string ⟨b.toArray⟩) : ev P c (execOp ρ ⟨d, .binOp .add t x y t', ty, pos, af, g⟩) = some (.value (.string ⟨(a ++ b).toArray⟩)) := by
  refine ev_v (s := do eqGuard .add t x y (ρ x) (ρ y); binOp .add t (ρ x) (ρ y)) ?_
  rw [hx, hy]
  have h1 : ev P c (eqGuard .add t x y (.string ⟨a.toArray⟩) (.string ⟨b.toArray⟩)) = some () := by simp [eqGuard, ev_pure]
  simp only [ev_bind, h1, Option.bind_some, binOp, Op.stringOp]
  rw [if_neg]
  · rw [ev_pure]; congr 2
  · show ¬ (((a.toArray.size + b.toArray.size : Nat) : Int) > 9223372036854775807)
    simp; omega
theorem ev_sliceS {l : List UInt8} {i j : Int} {k k' : IntKind} (ht : P.underlying t = some .string) (h : 0 ≤ i ∧ i ≤ j ∧ j ≤ (l.length : Int)) : ev P c (Instr.slice t (.string ⟨l.toArray⟩) (some (.int k i)) (some (.int k' j)) none) = some (.string ⟨((l.take j.toNat).drop i.toNat).toArray⟩) := by
  obtain ⟨h0, h1, h2⟩ := h
  have hs : ((⟨l.toArray⟩ : ByteArray).size : Int) = l.length := by simp [ByteArray.size]
  have e : (⟨l.toArray⟩ : ByteArray).extract i.toNat j.toNat = ⟨((l.take j.toNat).drop i.toNat).toArray⟩ := by
    apply ByteArray.ext
    rw [ByteArray.data_extract]
    apply Array.ext'
    simp [List.extract_eq_take_drop, List.drop_take]
  have h3 : i ≤ (j.toNat : Int) := by omega
  unfold Instr.slice
  simp only [ev_bind, ev_underlying ht, Option.bind_some, Instr.sliceBounds, Instr.sliceBound, asIntOf, ev_pure, hs, Option.isSome_none, Bool.false_eq_true, if_false]
  rw [if_pos ⟨by omega, h2⟩]
  simp only [ev_pure, Option.bind_some]
  rw [if_pos ⟨h0, h3⟩]
  simp only [ev_pure, Option.bind_some, e]
theorem ev_sliceS1 {l : List UInt8} {i : Int} {k : IntKind} (ht : P.underlying t = some .string) (h : 0 ≤ i ∧ i ≤ (l.length : Int)) : ev P c (Instr.slice t (.string ⟨l.toArray⟩) (some (.int k i)) none none) = some (.string ⟨(l.drop i.toNat).toArray⟩) := by
  obtain ⟨h0, h2⟩ := h
  have hs : (⟨l.toArray⟩ : ByteArray).size = l.length := by simp [ByteArray.size]
  have e : (⟨l.toArray⟩ : ByteArray).extract i.toNat l.length = ⟨(l.drop i.toNat).toArray⟩ := by
    apply ByteArray.ext
    rw [ByteArray.data_extract]
    apply Array.ext'
    simp [List.take_of_length_le]
  unfold Instr.slice
  simp only [ev_bind, ev_underlying ht, Option.bind_some, Instr.sliceBounds, Instr.sliceBound, asIntOf, ev_pure, hs, Option.isSome_none, Bool.false_eq_true, if_false]
  rw [if_pos ⟨h0, h2⟩]
  simp only [ev_pure, Option.bind_some, e]
theorem ev_sliceS2 {l : List UInt8} {j : Int} {k : IntKind} (ht : P.underlying t = some .string) (h : 0 ≤ j ∧ j ≤ (l.length : Int)) : ev P c (Instr.slice t (.string ⟨l.toArray⟩) none (some (.int k j)) none) = some (.string ⟨(l.take j.toNat).toArray⟩) := by
  obtain ⟨h0, h2⟩ := h
  have hs : ((⟨l.toArray⟩ : ByteArray).size : Int) = l.length := by simp [ByteArray.size]
  have e : (⟨l.toArray⟩ : ByteArray).extract 0 j.toNat = ⟨(l.take j.toNat).toArray⟩ := by
    apply ByteArray.ext
    rw [ByteArray.data_extract]
    apply Array.ext'
    simp [List.extract_eq_take_drop]
  unfold Instr.slice
  simp only [ev_bind, ev_underlying ht, Option.bind_some, Instr.sliceBounds, Instr.sliceBound, asIntOf, ev_pure, hs, Option.isSome_none, Bool.false_eq_true, if_false]
  rw [if_pos ⟨h0, h2⟩]
  simp only [ev_pure, Option.bind_some, e]
theorem U_wrapI (x : Int) : Value.int .u64 (IntKind.u64.wrap x) = U (BitVec.ofInt 64 x) := by
  congr 1
  simp only [IntKind.wrap, IntKind.signed, IntKind.bits, BitVec.toNat_ofInt]
  simp
  omega
end
/-- An index into an array behind its address. -/
theorem ev_idxI {P : Program} {c : Addr → Option Value} {t : TypeId} {b off n : Nat} {e : TypeId} {i : TypeInfo} {k : IntKind} {j : Int} (hu : P.underlying t = some (.array n e)) (hi : P.info? e = some i) (hs : i.size = 1) (hj : 0 ≤ j ∧ j < (n : Int)) :
    ev P c (Instr.indexAt t (.pointer (some ⟨b, off, none⟩)) (.int k j)) = some (.pointer (some ⟨b, off + j.toNat, none⟩)) := by
  unfold Instr.indexAt
  have hadd : (⟨b, off, none⟩ : Addr).add j.toNat = ⟨b, off + j.toNat, none⟩ := by unfold Addr.add; split <;> simp_all
  simp only [asIntOf, ev_bind, ev_pure, Option.bind_some, ev_underlying hu, Instr.sureAddr]
  rw [if_pos hj]
  simp only [ev_bind, ev_sizeOf hi, hs, Option.bind_some, ev_pure, Nat.mul_one, hadd]
def setb (x : BitVec 128) (k : Nat) (b : Bool) : BitVec 128 := if b then x ||| BitVec.twoPow 128 k else x &&& ~~~(BitVec.twoPow 128 k)
theorem setb_get (x : BitVec 128) (k : Nat) (b : Bool) (j : Nat) (hk : k < 128) : (setb x k b).getLsbD j = if j = k then b else x.getLsbD j := by
  unfold setb
  by_cases hj : j < 128
  · by_cases h : j = k
    · subst h; cases b <;> simp [hj]
    · have h' : ¬ k = j := fun e => h e.symm
      cases b <;> simp [h, hj]
  · rw [BitVec.getLsbD_of_ge _ _ (by omega), if_neg (by omega), BitVec.getLsbD_of_ge _ _ (by omega)]
theorem rowF_setb (x : BitVec 128) (k : Nat) (b : Bool) (hk : k < 128) : rowF (upd (BitVec.getLsbD x) k b) = rowF (BitVec.getLsbD (setb x k b)) := rowF_ext fun j _ => by
  rw [setb_get x k b j hk]; rfl
theorem row_zero : rowF (fun _ => false) = rowF (BitVec.getLsbD 0#128) := rowF_ext fun j _ => by simp
end Go.Eng
