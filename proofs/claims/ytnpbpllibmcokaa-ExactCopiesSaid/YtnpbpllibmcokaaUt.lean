/- Numbers of 16 and of 32 bits. Conditions: none. -/
import Derived.Test.YtnpbpllibmcokaaYt
namespace Go.Eng
open Go Go.RowKit

theorem wrap_u16 (x : Int) : IntKind.u16.wrap x = x % 65536 := by simp [IntKind.wrap, IntKind.signed, IntKind.bits]
def sl16 (x : UInt16) (n : Nat) : UInt16 := UInt16.ofNat (x.toNat * 2 ^ (min n 16))
def sr16 (x : UInt16) (n : Nat) : UInt16 := UInt16.ofNat (x.toNat / 2 ^ (min n 16))
def int16 (x : Int) : UInt16 := UInt16.ofNat (x % 65536).toNat
def wrd16 (x : BitVec 64) : UInt16 := UInt16.ofNat x.toNat
theorem Z16_wrap (x : Int) : Value.int .u16 (IntKind.u16.wrap x) = .int .u16 (((int16 x).toNat : Nat) : Int) := by
  rw [wrap_u16]; unfold int16
  rw [UInt16.toNat_ofNat']
  congr 1; omega
theorem Z16_word (x : BitVec 64) : Value.int .u16 (IntKind.u16.wrap ((x.toNat : Nat) : Int)) = .int .u16 (((wrd16 x).toNat : Nat) : Int) := by
  rw [wrap_u16]; unfold wrd16
  rw [UInt16.toNat_ofNat']
  congr 1
theorem ofInt16 (x : UInt16) : BitVec.ofInt 16 ((x.toNat : Nat) : Int) = x.toBitVec := by
  apply BitVec.eq_of_toNat_eq
  rw [BitVec.toNat_ofInt]
  have := x.toNat_lt
  show _ = x.toNat
  simp; omega
theorem bits16 (b : BitVec 16) (x : UInt16) (h : x.toBitVec = b) : Value.int .u16 (IntKind.u16.wrap (b.toNat : Int)) = .int .u16 ((x.toNat : Nat) : Int) := by
  subst h
  rw [wrap_u16]
  have : x.toBitVec.toNat = x.toNat := rfl
  rw [this]
  have := x.toNat_lt
  congr 1; omega
theorem Z16_and (x y : UInt16) : Value.int .u16 (IntKind.u16.wrap ((BitVec.ofInt 16 ((x.toNat : Nat) : Int) &&& BitVec.ofInt 16 ((y.toNat : Nat) : Int)).toNat : Int)) = .int .u16 (((x &&& y).toNat : Nat) : Int) :=
  bits16 _ _ (by rw [ofInt16, ofInt16]; rfl)
theorem Z16_or (x y : UInt16) : Value.int .u16 (IntKind.u16.wrap ((BitVec.ofInt 16 ((x.toNat : Nat) : Int) ||| BitVec.ofInt 16 ((y.toNat : Nat) : Int)).toNat : Int)) = .int .u16 (((x ||| y).toNat : Nat) : Int) :=
  bits16 _ _ (by rw [ofInt16, ofInt16]; rfl)
theorem Z16_xor (x y : UInt16) : Value.int .u16 (IntKind.u16.wrap ((BitVec.ofInt 16 ((x.toNat : Nat) : Int) ^^^ BitVec.ofInt 16 ((y.toNat : Nat) : Int)).toNat : Int)) = .int .u16 (((x ^^^ y).toNat : Nat) : Int) :=
  bits16 _ _ (by rw [ofInt16, ofInt16]; rfl)
theorem Z16_andNot (x y : UInt16) : Value.int .u16 (IntKind.u16.wrap ((BitVec.ofInt 16 ((x.toNat : Nat) : Int) &&& ~~~ BitVec.ofInt 16 ((y.toNat : Nat) : Int)).toNat : Int)) = .int .u16 (((x &&& ~~~ y).toNat : Nat) : Int) :=
  bits16 _ _ (by rw [ofInt16, ofInt16]; rfl)
theorem Z16_not (x : UInt16) : Value.int .u16 (IntKind.u16.wrap ((BitVec.ofInt 16 (IntKind.u16.max) ^^^ BitVec.ofInt 16 ((x.toNat : Nat) : Int)).toNat : Int)) = .int .u16 (((~~~x).toNat : Nat) : Int) :=
  bits16 _ _ (by
    rw [ofInt16]
    have h : BitVec.ofInt 16 IntKind.u16.max = BitVec.allOnes 16 := by decide
    rw [h, BitVec.allOnes_xor]; rfl)
theorem Z16_add (x y : UInt16) : Value.int .u16 (IntKind.u16.wrap (((x.toNat : Nat) : Int) + ((y.toNat : Nat) : Int))) = .int .u16 (((x + y).toNat : Nat) : Int) := by
  rw [wrap_u16, UInt16.toNat_add]; congr 1
theorem Z16_mul (x y : UInt16) : Value.int .u16 (IntKind.u16.wrap (((x.toNat : Nat) : Int) * ((y.toNat : Nat) : Int))) = .int .u16 (((x * y).toNat : Nat) : Int) := by
  rw [wrap_u16, UInt16.toNat_mul]; congr 1
theorem Z16_sub (x y : UInt16) : Value.int .u16 (IntKind.u16.wrap (((x.toNat : Nat) : Int) - ((y.toNat : Nat) : Int))) = .int .u16 (((x - y).toNat : Nat) : Int) := by
  rw [wrap_u16, UInt16.toNat_sub]
  have h1 := x.toNat_lt
  have h2 := y.toNat_lt
  congr 1; omega
section
variable {P : Program} {c : Addr → Option Value} {ρ : Operand → Value} {d : Option Tmp} {t t' : TypeId} {a b : Operand} {ty : TypeId} {pos : String} {af : Array Edge} {g : Option (Nat × Bool)}
theorem ev_shlZ16 {x : UInt16} {k : IntKind} {n : Int} (hx : ρ a = .int .u16 ((x.toNat : Nat) : Int)) (hy : ρ b = .int k n) (h : 0 ≤ n) : ev P c (execOp ρ ⟨d, .binOp .shl t a b t', ty, pos, af, g⟩) = some (.value (.int .u16 (((sl16 x n.toNat).toNat : Nat) : Int))) := by
  refine ev_v (s := do eqGuard .shl t a b (ρ a) (ρ b); binOp .shl t (ρ a) (ρ b)) ?_
  rw [hx, hy]
  have h1 : ¬ (n < 0) := by omega
  have h2 : ev P c (eqGuard .shl t a b (.int .u16 ((x.toNat : Nat) : Int)) (.int k n)) = some () := rfl
  simp only [ev_bind, h2, Option.bind_some, binOp, Op.shift, if_neg h1, ev_pure, IntKind.bits]
  rw [wrap_u16]
  unfold sl16
  rw [UInt16.toNat_ofNat', Int.natCast_emod, Int.natCast_mul, Int.natCast_pow]
  rfl
theorem ev_shrZ16 {x : UInt16} {k : IntKind} {n : Int} (hx : ρ a = .int .u16 ((x.toNat : Nat) : Int)) (hy : ρ b = .int k n) (h : 0 ≤ n) : ev P c (execOp ρ ⟨d, .binOp .shr t a b t', ty, pos, af, g⟩) = some (.value (.int .u16 (((sr16 x n.toNat).toNat : Nat) : Int))) := by
  refine ev_v (s := do eqGuard .shr t a b (ρ a) (ρ b); binOp .shr t (ρ a) (ρ b)) ?_
  rw [hx, hy]
  have h1 : ¬ (n < 0) := by omega
  have h2 : ev P c (eqGuard .shr t a b (.int .u16 ((x.toNat : Nat) : Int)) (.int k n)) = some () := rfl
  simp only [ev_bind, h2, Option.bind_some, binOp, Op.shift, if_neg h1, ev_pure, IntKind.bits]
  unfold sr16
  have h3 : x.toNat / 2 ^ (min n.toNat 16) < 65536 := Nat.lt_of_le_of_lt (Nat.div_le_self _ _) x.toNat_lt
  rw [UInt16.toNat_ofNat', Nat.mod_eq_of_lt h3, Int.fdiv_eq_ediv_of_nonneg _ (Int.le_of_lt (Int.pow_pos (by decide))), Int.natCast_ediv, Int.natCast_pow]
  rfl
end
theorem u16_u64 (x : UInt16) : Value.int .u64 (IntKind.u64.wrap ((x.toNat : Nat) : Int)) = U (BitVec.ofNat 64 x.toNat) := U_wrap _
theorem u16_i64 (x : UInt16) : Value.int .i64 (IntKind.i64.wrap ((x.toNat : Nat) : Int)) = .int .i64 ((x.toNat : Nat) : Int) := wi64 rfl (by omega) (by have := x.toNat_lt; omega)
def enc16 : Enc UInt16 := ⟨fun b => [.int .u16 ((b.toNat : Nat) : Int)], 1, Nat.one_pos, fun _ => rfl, fun _ v h => by simp at h; subst h; rfl, True⟩

theorem wrap_u32 (x : Int) : IntKind.u32.wrap x = x % 4294967296 := by simp [IntKind.wrap, IntKind.signed, IntKind.bits]
def sl32 (x : UInt32) (n : Nat) : UInt32 := UInt32.ofNat (x.toNat * 2 ^ (min n 32))
def sr32 (x : UInt32) (n : Nat) : UInt32 := UInt32.ofNat (x.toNat / 2 ^ (min n 32))
def int32 (x : Int) : UInt32 := UInt32.ofNat (x % 4294967296).toNat
def wrd32 (x : BitVec 64) : UInt32 := UInt32.ofNat x.toNat
theorem Z32_wrap (x : Int) : Value.int .u32 (IntKind.u32.wrap x) = .int .u32 (((int32 x).toNat : Nat) : Int) := by
  rw [wrap_u32]; unfold int32
  rw [UInt32.toNat_ofNat']
  congr 1; omega
theorem Z32_word (x : BitVec 64) : Value.int .u32 (IntKind.u32.wrap ((x.toNat : Nat) : Int)) = .int .u32 (((wrd32 x).toNat : Nat) : Int) := by
  rw [wrap_u32]; unfold wrd32
  rw [UInt32.toNat_ofNat']
  congr 1
theorem ofInt32 (x : UInt32) : BitVec.ofInt 32 ((x.toNat : Nat) : Int) = x.toBitVec := by
  apply BitVec.eq_of_toNat_eq
  rw [BitVec.toNat_ofInt]
  have := x.toNat_lt
  show _ = x.toNat
  simp; omega
theorem bits32 (b : BitVec 32) (x : UInt32) (h : x.toBitVec = b) : Value.int .u32 (IntKind.u32.wrap (b.toNat : Int)) = .int .u32 ((x.toNat : Nat) : Int) := by
  subst h
  rw [wrap_u32]
  have : x.toBitVec.toNat = x.toNat := rfl
  rw [this]
  have := x.toNat_lt
  congr 1; omega
theorem Z32_and (x y : UInt32) : Value.int .u32 (IntKind.u32.wrap ((BitVec.ofInt 32 ((x.toNat : Nat) : Int) &&& BitVec.ofInt 32 ((y.toNat : Nat) : Int)).toNat : Int)) = .int .u32 (((x &&& y).toNat : Nat) : Int) :=
  bits32 _ _ (by rw [ofInt32, ofInt32]; rfl)
theorem Z32_or (x y : UInt32) : Value.int .u32 (IntKind.u32.wrap ((BitVec.ofInt 32 ((x.toNat : Nat) : Int) ||| BitVec.ofInt 32 ((y.toNat : Nat) : Int)).toNat : Int)) = .int .u32 (((x ||| y).toNat : Nat) : Int) :=
  bits32 _ _ (by rw [ofInt32, ofInt32]; rfl)
theorem Z32_xor (x y : UInt32) : Value.int .u32 (IntKind.u32.wrap ((BitVec.ofInt 32 ((x.toNat : Nat) : Int) ^^^ BitVec.ofInt 32 ((y.toNat : Nat) : Int)).toNat : Int)) = .int .u32 (((x ^^^ y).toNat : Nat) : Int) :=
  bits32 _ _ (by rw [ofInt32, ofInt32]; rfl)
theorem Z32_andNot (x y : UInt32) : Value.int .u32 (IntKind.u32.wrap ((BitVec.ofInt 32 ((x.toNat : Nat) : Int) &&& ~~~ BitVec.ofInt 32 ((y.toNat : Nat) : Int)).toNat : Int)) = .int .u32 (((x &&& ~~~ y).toNat : Nat) : Int) :=
  bits32 _ _ (by rw [ofInt32, ofInt32]; rfl)
theorem Z32_not (x : UInt32) : Value.int .u32 (IntKind.u32.wrap ((BitVec.ofInt 32 (IntKind.u32.max) ^^^ BitVec.ofInt 32 ((x.toNat : Nat) : Int)).toNat : Int)) = .int .u32 (((~~~x).toNat : Nat) : Int) :=
  bits32 _ _ (by
    rw [ofInt32]
    have h : BitVec.ofInt 32 IntKind.u32.max = BitVec.allOnes 32 := by decide
    rw [h, BitVec.allOnes_xor]; rfl)
theorem Z32_add (x y : UInt32) : Value.int .u32 (IntKind.u32.wrap (((x.toNat : Nat) : Int) + ((y.toNat : Nat) : Int))) = .int .u32 (((x + y).toNat : Nat) : Int) := by
  rw [wrap_u32, UInt32.toNat_add]; congr 1
theorem Z32_mul (x y : UInt32) : Value.int .u32 (IntKind.u32.wrap (((x.toNat : Nat) : Int) * ((y.toNat : Nat) : Int))) = .int .u32 (((x * y).toNat : Nat) : Int) := by
  rw [wrap_u32, UInt32.toNat_mul]; congr 1
theorem Z32_sub (x y : UInt32) : Value.int .u32 (IntKind.u32.wrap (((x.toNat : Nat) : Int) - ((y.toNat : Nat) : Int))) = .int .u32 (((x - y).toNat : Nat) : Int) := by
  rw [wrap_u32, UInt32.toNat_sub]
  have h1 := x.toNat_lt
  have h2 := y.toNat_lt
  congr 1; omega
section
variable {P : Program} {c : Addr → Option Value} {ρ : Operand → Value} {d : Option Tmp} {t t' : TypeId} {a b : Operand} {ty : TypeId} {pos : String} {af : Array Edge} {g : Option (Nat × Bool)}
theorem ev_shlZ32 {x : UInt32} {k : IntKind} {n : Int} (hx : ρ a = .int .u32 ((x.toNat : Nat) : Int)) (hy : ρ b = .int k n) (h : 0 ≤ n) : ev P c (execOp ρ ⟨d, .binOp .shl t a b t', ty, pos, af, g⟩) = some (.value (.int .u32 (((sl32 x n.toNat).toNat : Nat) : Int))) := by
  refine ev_v (s := do eqGuard .shl t a b (ρ a) (ρ b); binOp .shl t (ρ a) (ρ b)) ?_
  rw [hx, hy]
  have h1 : ¬ (n < 0) := by omega
  have h2 : ev P c (eqGuard .shl t a b (.int .u32 ((x.toNat : Nat) : Int)) (.int k n)) = some () := rfl
  simp only [ev_bind, h2, Option.bind_some, binOp, Op.shift, if_neg h1, ev_pure, IntKind.bits]
  rw [wrap_u32]
  unfold sl32
  rw [UInt32.toNat_ofNat', Int.natCast_emod, Int.natCast_mul, Int.natCast_pow]
  rfl
theorem ev_shrZ32 {x : UInt32} {k : IntKind} {n : Int} (hx : ρ a = .int .u32 ((x.toNat : Nat) : Int)) (hy : ρ b = .int k n) (h : 0 ≤ n) : ev P c (execOp ρ ⟨d, .binOp .shr t a b t', ty, pos, af, g⟩) = some (.value (.int .u32 (((sr32 x n.toNat).toNat : Nat) : Int))) := by
  refine ev_v (s := do eqGuard .shr t a b (ρ a) (ρ b); binOp .shr t (ρ a) (ρ b)) ?_
  rw [hx, hy]
  have h1 : ¬ (n < 0) := by omega
  have h2 : ev P c (eqGuard .shr t a b (.int .u32 ((x.toNat : Nat) : Int)) (.int k n)) = some () := rfl
  simp only [ev_bind, h2, Option.bind_some, binOp, Op.shift, if_neg h1, ev_pure, IntKind.bits]
  unfold sr32
  have h3 : x.toNat / 2 ^ (min n.toNat 32) < 4294967296 := Nat.lt_of_le_of_lt (Nat.div_le_self _ _) x.toNat_lt
  rw [UInt32.toNat_ofNat', Nat.mod_eq_of_lt h3, Int.fdiv_eq_ediv_of_nonneg _ (Int.le_of_lt (Int.pow_pos (by decide))), Int.natCast_ediv, Int.natCast_pow]
  rfl
end
theorem u32_u64 (x : UInt32) : Value.int .u64 (IntKind.u64.wrap ((x.toNat : Nat) : Int)) = U (BitVec.ofNat 64 x.toNat) := U_wrap _
theorem u32_i64 (x : UInt32) : Value.int .i64 (IntKind.i64.wrap ((x.toNat : Nat) : Int)) = .int .i64 ((x.toNat : Nat) : Int) := wi64 rfl (by omega) (by have := x.toNat_lt; omega)
def enc32 : Enc UInt32 := ⟨fun b => [.int .u32 ((b.toNat : Nat) : Int)], 1, Nat.one_pos, fun _ => rfl, fun _ v h => by simp at h; subst h; rfl, True⟩
theorem u16_of_wf {a : Int} (h : (Lit.int .u16 a).wf = true) : ∃ x : UInt16, a = ((x.toNat : Nat) : Int) := by
  simp [Lit.wf, IntKind.min, IntKind.max, IntKind.signed, IntKind.bits] at h
  refine ⟨UInt16.ofNat a.toNat, ?_⟩
  rw [UInt16.toNat_ofNat']; omega
theorem u32_of_wf {a : Int} (h : (Lit.int .u32 a).wf = true) : ∃ x : UInt32, a = ((x.toNat : Nat) : Int) := by
  simp [Lit.wf, IntKind.min, IntKind.max, IntKind.signed, IntKind.bits] at h
  refine ⟨UInt32.ofNat a.toNat, ?_⟩
  rw [UInt32.toNat_ofNat']; omega
end Go.Eng
