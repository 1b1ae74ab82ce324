import Derived.Test.YthafnifhhblkbaaGreatDoorDm
import Derived.Test.YthafnifhhblkbaaGreatDoorRm
namespace Go.Eng
open Go Go.RowKit
theorem aF {P : Program} {c : Addr → Option Value} {src dst e : TypeId} {v w : Value} (h1 : P.underlying src = some (.slice e)) (h2 : P.underlying dst = some .string) (h3 : P.underlying e = some (.int .u8)) {a : Option Addr} {n k : Nat} (hv : v = .slice a n k)
  (h : ev P c (Conv.bytesToString v) = some w) : ev P c (convert src dst v) = some w := by
 subst hv
 unfold convert
 simp only [AK, Bq h1, Bq h2, Bq h3, Option.bind_some, h]
section
variable {b : Nat}
end
end Go.Eng
namespace Go.Eng
open Go Go.RowKit
def ck {α : Type} (c : Prop) [Decidable c] (k : Option α) : Option α := if c then k else none
theorem Rc {α : Type} {c : Prop} [Decidable c] {k : Option α} {r : α} (h : ck c k = some r) : c ∧ k = some r := by
 unfold ck at h; split at h
 ·exact ⟨by assumption, h⟩
 ·cases h
theorem AR {α : Type} {c : Prop} [Decidable c] (k : Option α) (h : c) : ck c k = k := if_pos h
theorem BG {α β : Type} {x : Option α} {f : α → Option β} {r : β} (h : x.bind f = some r) : ∃ y, x = some y ∧ f y = some r := by
 cases x with
 | none => cases h
 | some y => exact ⟨y, rfl, h⟩
theorem ifp {α : Type} {c : Prop} [Decidable c] {a b r : α} (hc : c) (h : (if c then a else b) = r) : a = r := by rwa [if_pos hc] at h
theorem ifn {α : Type} {c : Prop} [Decidable c] {a b r : α} (hc : ¬ c) (h : (if c then a else b) = r) : b = r := by rwa [if_neg hc] at h
theorem EF {b : Bool} (h : (!b) = true) : b = false := by cases b <;> first | rfl | cases h
theorem EG {b : Bool} (h : (!b) = false) : b = true := by cases b <;> first | rfl | cases h
theorem mc {α : Type} [BEq α] [LawfulBEq α] {a b : α} (h : (a != b) = false) : ¬ a ≠ b := fun hn => absurd (bne_iff_ne.2 hn) (by rw [h]; decide)
section
variable {P : Program} {c : Addr → Option Value} {ρ : Operand → Value} {d : Option Tmp} {ty t t' : TypeId} {pos : String} {af : Array Edge} {g : Option (Nat × Bool)} {x y : Operand}
theorem Pb {l : List UInt8} {ts : Array TypeId} (hts : ts = #[t]) (ht : P.underlying t = some .string) (hx : ρ x = .string ⟨l.toArray⟩) :
  ev P c (execOp ρ ⟨d, .call ⟨.builtin .len, #[x], ts⟩, ty, pos, af, g⟩) = some (.value (.int .i64 ((l.length : Nat) : Int))) := by
 subst hts
 have h2 : ev P c (Builtin.len_ #[t] ty #[Value.string ⟨l.toArray⟩]) = some (.int .i64 ((l.length : Nat) : Int)) := by
  have h3 : ev P c (do match ← underlying t, Value.string ⟨l.toArray⟩ with
   | .string, .string s => pure (goInt s.size)
   | _, _ => stuck "" : Sem Value) = some (.int .i64 ((l.length : Nat) : Int)) := by
   rw [AK, Bq ht]
   show some (Value.int .i64 ((l.toArray.size : Nat) : Int)) = _
   simp
  show ev P c (underlying t >>= fun u => _) = _
  rw [AK, Bq ht]
  show some (Value.int .i64 ((l.toArray.size : Nat) : Int)) = _
  simp
 show ev P c (do let d ← resolve ρ ⟨.builtin .len, #[x], #[t]⟩ ty; invoke d.target d.args) = _
 simp [resolve, invoke, builtin, Oj, h2, hx]
theorem jH (a b : List UInt8) : ((⟨a.toArray⟩ : ByteArray) == ⟨b.toArray⟩) = (a == b) := by
 show (a.toArray == b.toArray) = _
 simp
theorem Ok {a b : List UInt8} (hx : ρ x = .string ⟨a.toArray⟩) (hy : ρ y = .string ⟨b.toArray⟩) : ev P c (execOp ρ ⟨d, .binOp .eql t x y t', ty, pos, af, g⟩) = some (.value (.bool (a == b))) := by
 rw [ji hx hy, jH]
theorem ZK {a b : List UInt8} (hl : (a.length : Int) + (b.length : Int) ≤ 9223372036854775807) (hx : ρ x = .string ⟨a.toArray⟩) (hy : ρ y = .string ⟨b.toArray⟩) : ev P c (execOp ρ ⟨d, .binOp .add t x y t', ty, pos, af, g⟩) = some (.value (.string ⟨(a ++ b).toArray⟩)) := by
 refine GE (s := do eqGuard .add t x y (ρ x) (ρ y); binOp .add t (ρ x) (ρ y)) ?_
 rw [hx, hy]
 have h1 : ev P c (eqGuard .add t x y (.string ⟨a.toArray⟩) (.string ⟨b.toArray⟩)) = some () := by simp [eqGuard, Bk]
 simp only [AK, h1, Option.bind_some, binOp, Op.stringOp]
 rw [if_neg]
 ·rw [Bk]; congr 2
 ·show ¬ (((a.toArray.size + b.toArray.size : Nat) : Int) > 9223372036854775807)
  simp; omega
theorem ZU (x : Int) : Value.int .u64 (IntKind.u64.wrap x) = U (BitVec.ofInt 64 x) := by
 congr 1
 simp only [IntKind.wrap, IntKind.signed, IntKind.bits, BitVec.toNat_ofInt]
 simp
 omega
end
theorem ZJ {P : Program} {c : Addr → Option Value} {t : TypeId} {b off n : Nat} {e : TypeId} {i : TypeInfo} {k : IntKind} {j : Int} (hu : P.underlying t = some (.array n e)) (hi : P.info? e = some i) (hs : i.size = 1) (hj : 0 ≤ j ∧ j < (n : Int)) :
  ev P c (Instr.indexAt t (.pointer (some ⟨b, off, none⟩)) (.int k j)) = some (.pointer (some ⟨b, off + j.toNat, none⟩)) := by
 unfold Instr.indexAt
 have hadd : (⟨b, off, none⟩ : Addr).add j.toNat = ⟨b, off + j.toNat, none⟩ := by unfold Addr.add; split <;> simp_all
 simp only [asIntOf, AK, Bk, Option.bind_some, Bq hu, Instr.sureAddr]
 rw [if_pos hj]
 simp only [AK, Em hi, hs, Option.bind_some, Bk, Nat.mul_one, hadd]
theorem bw : Cp (fun _ => false) = Cp (BitVec.getLsbD 0#128) := OA fun j _ => by simp
end Go.Eng
