/- Words of 128 bits as two halves: plain facts on bits. Conditions: none. -/
import Derived.Test.YtdgejbbelmhbdaaDoorRun
import Derived.Laws.Externs
namespace Go.Eng
open Go Go.RowKit
def hi (x : BitVec 128) : BitVec 64 := x.extractLsb' 64 64
def lo (x : BitVec 128) : BitVec 64 := x.extractLsb' 0 64
theorem hi_toNat (x : BitVec 128) : (hi x).toNat = x.toNat / 2 ^ 64 := by
  have := x.isLt
  simp [hi, BitVec.extractLsb'_toNat, Nat.shiftRight_eq_div_pow]; omega
theorem lo_toNat (x : BitVec 128) : (lo x).toNat = x.toNat % 2 ^ 64 := by
  simp [lo, BitVec.extractLsb'_toNat]
theorem app_toNat (h l : BitVec 64) : (h ++ l : BitVec 128).toNat = h.toNat * 2 ^ 64 + l.toNat := by
  rw [BitVec.toNat_append, ← Nat.shiftLeft_add_eq_or_of_lt l.isLt, Nat.shiftLeft_eq]
theorem hi_app (h l : BitVec 64) : hi (h ++ l) = h := by
  apply BitVec.eq_of_toNat_eq; rw [hi_toNat, app_toNat]; have := l.isLt; omega
theorem lo_app (h l : BitVec 64) : lo (h ++ l) = l := by
  apply BitVec.eq_of_toNat_eq; rw [lo_toNat, app_toNat]; have := l.isLt; omega
theorem app_hl : (∀ h l : BitVec 64, hi (h ++ l) = h) ∧ ∀ h l : BitVec 64, lo (h ++ l) = l := ⟨hi_app, lo_app⟩
theorem hi_lo (x : BitVec 128) : hi x ++ lo x = x := by
  apply BitVec.eq_of_toNat_eq; rw [app_toNat, hi_toNat, lo_toNat]; omega
theorem ext_hl {x y : BitVec 128} (h : hi x = hi y) (l : lo x = lo y) : x = y := by rw [← hi_lo x, ← hi_lo y, h, l]
def cb128 (c : Bool) : BitVec 128 := bif c then 1#128 else 0#128
theorem sub_sum (x y : BitVec 128) : x + ~~~y + cb128 true = x - y := by
  rw [BitVec.sub_eq_add_neg, BitVec.neg_eq_not_add, BitVec.add_assoc]; rfl
theorem hi_or (x y : BitVec 128) : hi (x ||| y) = hi x ||| hi y := by unfold hi; exact BitVec.extractLsb'_or
theorem lo_or (x y : BitVec 128) : lo (x ||| y) = lo x ||| lo y := by unfold lo; exact BitVec.extractLsb'_or
section
variable {P : Program} {c : Addr → Option Value} {ρ : Operand → Value} {d : Option Tmp} {t t' : TypeId} {a b : Operand} {ty : TypeId} {pos : String} {af : Array Edge} {g : Option (Nat × Bool)} {x y : BitVec 64}
theorem ev_shl {k : IntKind} {n : Nat} (hx : ρ a = U x) (hy : ρ b = .int k (n : Int)) : ev P c (execOp ρ ⟨d, .binOp .shl t a b t', ty, pos, af, g⟩) = some (.value (.int .u64 (IntKind.u64.wrap ((x.toNat : Int) * 2 ^ (min n 64))))) := by
  refine ev_v (s := do eqGuard .shl t a b (ρ a) (ρ b); binOp .shl t (ρ a) (ρ b)) ?_
  rw [hx, hy]
  have h1 : ¬ ((n : Int) < 0) := by omega
  have h2 : ev P c (eqGuard .shl t a b (U x) (.int k (n : Int))) = some () := rfl
  simp only [ev_bind, h2, Option.bind_some, binOp, Op.shift, if_neg h1, Int.toNat_natCast, ev_pure, IntKind.bits]
theorem ev_shr {k : IntKind} {n : Nat} (hx : ρ a = U x) (hy : ρ b = .int k (n : Int)) : ev P c (execOp ρ ⟨d, .binOp .shr t a b t', ty, pos, af, g⟩) = some (.value (.int .u64 ((x.toNat : Int).fdiv (2 ^ (min n 64))))) := by
  refine ev_v (s := do eqGuard .shr t a b (ρ a) (ρ b); binOp .shr t (ρ a) (ρ b)) ?_
  rw [hx, hy]
  have h1 : ¬ ((n : Int) < 0) := by omega
  have h2 : ev P c (eqGuard .shr t a b (U x) (.int k (n : Int))) = some () := rfl
  simp only [ev_bind, h2, Option.bind_some, binOp, Op.shift, if_neg h1, Int.toNat_natCast, ev_pure, IntKind.bits]
end
end Go.Eng
