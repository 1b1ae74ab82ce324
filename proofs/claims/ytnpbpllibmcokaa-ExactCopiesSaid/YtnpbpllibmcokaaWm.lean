/- Words of 128 bits as two halves: plain facts on bits. Conditions: none. -/
import Derived.Test.YtnpbpllibmcokaaRun
import Derived.Laws.Externs
namespace Go.Eng
open Go Go.RowKit
def cb (b : Bool) : BitVec 64 := bif b then 1#64 else 0#64
theorem cb_toNat (b : Bool) : (cb b).toNat = b.toNat := by cases b <;> rfl
theorem ev_add64 {P : Program} {c : Addr → Option Value} (x y : BitVec 64) (b : Bool) :
    ev P c (add64Entry #[U x, U y, U (cb b)]) = some (.tuple #[U (x + y + cb b), U (cb (BitVec.carry 64 x y b))]) := by
  have hx := x.isLt
  have hy := y.isLt
  have key : ev P c (add64Entry #[U x, U y, U (cb b)]) = some (Extern.MathBitsCarry.pair ((x.toNat + y.toNat + b.toNat) % Extern.MathBitsCarry.m64) ((x.toNat + y.toNat + b.toNat) / Extern.MathBitsCarry.m64)) := by
    cases b <;> rfl
  have hb := cb_toNat b
  have hb1 : b.toNat ≤ 1 := by cases b <;> decide
  have e1 : (x.toNat + y.toNat + b.toNat) % Extern.MathBitsCarry.m64 = (x + y + cb b).toNat := by
    simp only [BitVec.toNat_add, hb, Extern.MathBitsCarry.m64]; omega
  have e2 : (x.toNat + y.toNat + b.toNat) / Extern.MathBitsCarry.m64 = (cb (BitVec.carry 64 x y b)).toNat := by
    rw [cb_toNat]
    unfold BitVec.carry Extern.MathBitsCarry.m64
    rw [Nat.mod_eq_of_lt hx, Nat.mod_eq_of_lt hy]
    by_cases h : x.toNat + y.toNat + b.toNat ≥ 2 ^ 64
    · simp only [h, decide_true, Bool.toNat_true]; omega
    · simp only [h, decide_false, Bool.toNat_false]; omega
  rw [key, e1, e2]
  rfl

def hi (x : BitVec 128) : BitVec 64 := x.extractLsb' 64 64
def lo (x : BitVec 128) : BitVec 64 := x.extractLsb' 0 64
theorem hi_toNat (x : BitVec 128) : (hi x).toNat = x.toNat / 2 ^ 64 := by
  have := x.isLt
  simp [hi, BitVec.extractLsb'_toNat, Nat.shiftRight_eq_div_pow]; omega
theorem lo_toNat (x : BitVec 128) : (lo x).toNat = x.toNat % 2 ^ 64 := by
  simp [lo, BitVec.extractLsb'_toNat]
theorem app_toNat (h l : BitVec 64) : (h ++ l : BitVec 128).toNat = h.toNat * 2 ^ 64 + l.toNat := by
  rw [BitVec.toNat_append, ← Nat.shiftLeft_add_eq_or_of_lt l.isLt, Nat.shiftLeft_eq]
theorem hi_app (h l : BitVec 64) : hi (h ++ l) = h := by
  apply BitVec.eq_of_toNat_eq; rw [hi_toNat, app_toNat]; have := l.isLt; omega
theorem lo_app (h l : BitVec 64) : lo (h ++ l) = l := by
  apply BitVec.eq_of_toNat_eq; rw [lo_toNat, app_toNat]; have := l.isLt; omega
theorem app_hl : (∀ h l : BitVec 64, hi (h ++ l) = h) ∧ ∀ h l : BitVec 64, lo (h ++ l) = l := ⟨hi_app, lo_app⟩
theorem hi_lo (x : BitVec 128) : hi x ++ lo x = x := by
  apply BitVec.eq_of_toNat_eq; rw [app_toNat, hi_toNat, lo_toNat]; omega
theorem ext_hl {x y : BitVec 128} (h : hi x = hi y) (l : lo x = lo y) : x = y := by rw [← hi_lo x, ← hi_lo y, h, l]
abbrev Wd (x : BitVec 128) : Value := .agg #[U (hi x), U (lo x)]
theorem Wd_of (h l : BitVec 64) : Value.agg #[U h, U l] = Wd (h ++ l) := by rw [Wd, hi_app, lo_app]
def cb128 (c : Bool) : BitVec 128 := bif c then 1#128 else 0#128
theorem cb128_toNat (b : Bool) : (cb128 b).toNat = b.toNat := by cases b <;> rfl
theorem carry_iff (w : Nat) (x y : BitVec w) (c : Bool) : BitVec.carry w x y c = decide (2 ^ w ≤ x.toNat + y.toNat + c.toNat) := by
  unfold BitVec.carry
  rw [Nat.mod_eq_of_lt x.isLt, Nat.mod_eq_of_lt y.isLt]
theorem toNat_bool_decide (p : Prop) [Decidable p] : (decide p).toNat = if p then 1 else 0 := by by_cases h : p <;> simp [h]
theorem lo_sum (x y : BitVec 128) (c : Bool) : lo (x + y + cb128 c) = lo x + lo y + cb c := by
  apply BitVec.eq_of_toNat_eq
  simp only [lo_toNat, BitVec.toNat_add, cb128_toNat, cb_toNat]; omega
theorem hi_sum (x y : BitVec 128) (c : Bool) : hi (x + y + cb128 c) = hi x + hi y + cb (BitVec.carry 64 (lo x) (lo y) c) := by
  apply BitVec.eq_of_toNat_eq
  have h1 := x.isLt
  have h2 := y.isLt
  have hc : c.toNat ≤ 1 := by cases c <;> decide
  simp only [hi_toNat, BitVec.toNat_add, cb128_toNat, cb_toNat, carry_iff, lo_toNat, toNat_bool_decide]
  generalize x.toNat = a at *; generalize y.toNat = b at *; generalize c.toNat = k at *
  split <;> omega
theorem carry_sum (x y : BitVec 128) (c : Bool) : BitVec.carry 64 (hi x) (hi y) (BitVec.carry 64 (lo x) (lo y) c) = BitVec.carry 128 x y c := by
  have h1 := x.isLt
  have h2 := y.isLt
  have hc : c.toNat ≤ 1 := by cases c <;> decide
  simp only [carry_iff, hi_toNat, lo_toNat, toNat_bool_decide]
  generalize x.toNat = a at *; generalize y.toNat = b at *; generalize c.toNat = k at *
  split <;> (congr 1; simp only [eq_iff_iff]; omega)
theorem hi_not (x : BitVec 128) : hi (~~~x) = ~~~(hi x) := by
  apply BitVec.eq_of_toNat_eq; have := x.isLt; simp only [hi_toNat, BitVec.toNat_not]; omega
theorem lo_not (x : BitVec 128) : lo (~~~x) = ~~~(lo x) := by
  apply BitVec.eq_of_toNat_eq; have := x.isLt; simp only [lo_toNat, BitVec.toNat_not]; omega
theorem sub_sum (x y : BitVec 128) : x + ~~~y + cb128 true = x - y := by
  rw [BitVec.sub_eq_add_neg, BitVec.neg_eq_not_add, BitVec.add_assoc]; rfl
theorem sub_carry (x y : BitVec 128) : BitVec.carry 128 x (~~~y) true = !(decide (x < y)) := by
  have h1 := x.isLt
  have h2 := y.isLt
  rw [carry_iff, ← decide_not]
  congr 1
  simp only [BitVec.toNat_not, BitVec.lt_def, eq_iff_iff, Bool.toNat_true]
  omega
theorem add_zero_c (x y : BitVec 128) : x + y + cb128 false = x + y := by simp [cb128]
theorem cb_one (b : Bool) : (cb b == 1#64) = b := by cases b <;> rfl
theorem cb_zero (b : Bool) : (cb b == 0#64) = !b := by cases b <;> rfl

theorem hi_and (x y : BitVec 128) : hi (x &&& y) = hi x &&& hi y := by unfold hi; exact BitVec.extractLsb'_and
theorem lo_and (x y : BitVec 128) : lo (x &&& y) = lo x &&& lo y := by unfold lo; exact BitVec.extractLsb'_and
theorem hi_or (x y : BitVec 128) : hi (x ||| y) = hi x ||| hi y := by unfold hi; exact BitVec.extractLsb'_or
theorem lo_or (x y : BitVec 128) : lo (x ||| y) = lo x ||| lo y := by unfold lo; exact BitVec.extractLsb'_or
theorem hi_xor (x y : BitVec 128) : hi (x ^^^ y) = hi x ^^^ hi y := by unfold hi; exact BitVec.extractLsb'_xor
theorem lo_xor (x y : BitVec 128) : lo (x ^^^ y) = lo x ^^^ lo y := by unfold lo; exact BitVec.extractLsb'_xor

section
variable {P : Program} {c : Addr → Option Value} {ρ : Operand → Value} {d : Option Tmp} {t t' : TypeId} {a b : Operand} {ty : TypeId} {pos : String} {af : Array Edge} {g : Option (Nat × Bool)} {x y : BitVec 64}
theorem ev_quoU (hx : ρ a = U x) (hy : ρ b = U y) (h0 : y ≠ 0#64) : ev P c (execOp ρ ⟨d, .binOp .quo t a b t', ty, pos, af, g⟩) = some (.value (.int .u64 (IntKind.u64.wrap ((x.toNat : Int).tdiv (y.toNat : Int))))) := by
  refine ev_v (s := do eqGuard .quo t a b (ρ a) (ρ b); binOp .quo t (ρ a) (ρ b)) ?_
  rw [hx, hy]
  have h1 : ¬ ((y.toNat : Int) = 0) := by intro e; exact h0 (BitVec.eq_of_toNat_eq (by simpa using e))
  have h2 : ev P c (eqGuard .quo t a b (U x) (U y)) = some () := rfl
  simp only [ev_bind, h2, Option.bind_some, binOp, Op.intDiv, if_neg h1, ne_eq, not_true_eq_false, if_false, ev_pure]
theorem ev_remU (hx : ρ a = U x) (hy : ρ b = U y) (h0 : y ≠ 0#64) : ev P c (execOp ρ ⟨d, .binOp .rem t a b t', ty, pos, af, g⟩) = some (.value (.int .u64 ((x.toNat : Int).tmod (y.toNat : Int)))) := by
  refine ev_v (s := do eqGuard .rem t a b (ρ a) (ρ b); binOp .rem t (ρ a) (ρ b)) ?_
  rw [hx, hy]
  have h1 : ¬ ((y.toNat : Int) = 0) := by intro e; exact h0 (BitVec.eq_of_toNat_eq (by simpa using e))
  have h2 : ev P c (eqGuard .rem t a b (U x) (U y)) = some () := rfl
  simp only [ev_bind, h2, Option.bind_some, binOp, Op.intDiv, if_neg h1, ne_eq, not_true_eq_false, if_false, ev_pure]
theorem ev_shl {k : IntKind} {n : Nat} (hx : ρ a = U x) (hy : ρ b = .int k (n : Int)) : ev P c (execOp ρ ⟨d, .binOp .shl t a b t', ty, pos, af, g⟩) = some (.value (.int .u64 (IntKind.u64.wrap ((x.toNat : Int) * 2 ^ (min n 64))))) := by
  refine ev_v (s := do eqGuard .shl t a b (ρ a) (ρ b); binOp .shl t (ρ a) (ρ b)) ?_
  rw [hx, hy]
  have h1 : ¬ ((n : Int) < 0) := by omega
  have h2 : ev P c (eqGuard .shl t a b (U x) (.int k (n : Int))) = some () := rfl
  simp only [ev_bind, h2, Option.bind_some, binOp, Op.shift, if_neg h1, Int.toNat_natCast, ev_pure, IntKind.bits]
theorem ev_shr {k : IntKind} {n : Nat} (hx : ρ a = U x) (hy : ρ b = .int k (n : Int)) : ev P c (execOp ρ ⟨d, .binOp .shr t a b t', ty, pos, af, g⟩) = some (.value (.int .u64 ((x.toNat : Int).fdiv (2 ^ (min n 64))))) := by
  refine ev_v (s := do eqGuard .shr t a b (ρ a) (ρ b); binOp .shr t (ρ a) (ρ b)) ?_
  rw [hx, hy]
  have h1 : ¬ ((n : Int) < 0) := by omega
  have h2 : ev P c (eqGuard .shr t a b (U x) (.int k (n : Int))) = some () := rfl
  simp only [ev_bind, h2, Option.bind_some, binOp, Op.shift, if_neg h1, Int.toNat_natCast, ev_pure, IntKind.bits]
end
end Go.Eng
