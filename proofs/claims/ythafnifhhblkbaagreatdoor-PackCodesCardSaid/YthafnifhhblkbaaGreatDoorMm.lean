import Derived.Test.YthafnifhhblkbaaGreatDoorRm
import Derived.Test.YthafnifhhblkbaaGreatDoorMd
namespace Go.Eng
open Go Go.RowKit
theorem hZ (l : BitVec 64) (k : Nat) : ((l >>> k) % 2#64 == 1#64) = l.getLsbD k := by
 rw [Bool.eq_iff_iff]
 simp only [beq_iff_eq, ← BitVec.toNat_inj, BitVec.toNat_umod, BitVec.toNat_ushiftRight, BitVec.getLsbD, Nat.testBit_eq_decide_div_mod_eq, Nat.shiftRight_eq_div_pow, decide_eq_true_eq]
 exact Iff.rfl
theorem Wo (l : BitVec 64) (k : Nat) : (l >>> k) / 2#64 = l >>> (k + 1) := by
 apply BitVec.eq_of_toNat_eq
 simp only [BitVec.toNat_udiv, BitVec.toNat_ushiftRight, Nat.shiftRight_eq_div_pow]
 rw [show (2#64).toNat = 2 from rfl, Nat.div_div_eq_div_mul, Nat.pow_succ]
def ofP (h l : BitVec 64) (k j : Nat) : Bool := if j < 64 then decide (j < k) && l.getLsbD j else decide (j - 64 < k) && h.getLsbD (j - 64)
theorem bK (h l : BitVec 64) : Cp (fun _ => false) = Cp (ofP h l 0) := OA fun j _ => by simp [ofP]
theorem bL (h l : BitVec 64) (k : Nat) (hk : k < 64) : Cp (upd (upd (ofP h l k) k (l.getLsbD k)) (k + 64) (h.getLsbD k)) = Cp (ofP h l (k + 1)) := OA fun j hj => by
 unfold upd ofP
 by_cases h1 : j = k + 64
 ·subst h1
  rw [if_pos rfl, if_neg (by omega), show k + 64 - 64 = k from by omega]; simp
 ·rw [if_neg h1]
  by_cases h2 : j = k
  ·subst h2; simp [hk]
  ·rw [if_neg h2]
   by_cases h3 : j < 64
   ·rw [if_pos h3, if_pos h3]
    congr 1
    rw [decide_eq_decide]; omega
   ·rw [if_neg h3, if_neg h3]
    congr 1
    rw [decide_eq_decide]; omega
theorem bM (h l : BitVec 64) {k : Nat} (h1 : k ≤ 64) (h2 : ¬ (k : Int) < 64) : Value.agg (Cp (ofP h l k)) = .agg (mm (h ++ l)) := by
 obtain rfl : k = 64 := by omega
 refine congrArg Value.agg (OA fun j hj => ?_)
 rw [BitVec.getLsbD_append]
 unfold ofP
 by_cases h3 : j < 64
 ·rw [if_pos h3, decide_eq_true h3, Bool.true_and]; simp [h3]
 ·have h4 : j - 64 < 64 := by omega
  rw [if_neg h3, decide_eq_true h4, Bool.true_and]; simp [h3]
def below (x : BitVec 128) (k j : Nat) : Bool := decide (j < k) && x.getLsbD j
def Eg (x : BitVec 128) (n : Int) : BitVec 128 := if n ≥ 0 then x <<< n.toNat else x >>> (-n).toNat
end Go.Eng
namespace Go.Eng
theorem Nb (x : BitVec 128) (i : Nat) (h : i < 64) : (hi x).getLsbD i = x.getLsbD (64 + i) := by
 unfold hi; rw [BitVec.getLsbD_extractLsb', decide_eq_true h, Bool.true_and]
theorem MV (x : BitVec 128) (i : Nat) (h : i < 64) : (lo x).getLsbD i = x.getLsbD i := by
 unfold lo; rw [BitVec.getLsbD_extractLsb', decide_eq_true h, Bool.true_and, Nat.zero_add]
theorem Xo (x : BitVec 128) {n : Nat} (h : 64 ≤ n) : (0#64) = hi (x >>> n) := by
 apply BitVec.eq_of_getLsbD_eq
 intro i hi'
 rw [Nb _ _ hi', BitVec.getLsbD_ushiftRight, BitVec.getLsbD_of_ge _ _ (show 128 ≤ n + (64 + i) by omega)]; simp
theorem Xn (x : BitVec 128) {n : Nat} (h : 64 ≤ n) : hi x >>> (n - 64) = lo (x >>> n) := by
 apply BitVec.eq_of_getLsbD_eq
 intro i hi'
 rw [MV _ _ hi', BitVec.getLsbD_ushiftRight, BitVec.getLsbD_ushiftRight]
 by_cases h2 : n - 64 + i < 64
 ·rw [Nb _ _ h2]; congr 1; omega
 ·rw [BitVec.getLsbD_of_ge _ _ (by omega), BitVec.getLsbD_of_ge _ _ (show 128 ≤ n + i by omega)]
theorem Uf (x : BitVec 128) (n : Nat) : hi x >>> n = hi (x >>> n) := by
 apply BitVec.eq_of_getLsbD_eq
 intro i hi'
 rw [Nb _ _ hi', BitVec.getLsbD_ushiftRight, BitVec.getLsbD_ushiftRight]
 by_cases h2 : n + i < 64
 ·rw [Nb _ _ h2]; congr 1; omega
 ·rw [BitVec.getLsbD_of_ge _ _ (by omega), BitVec.getLsbD_of_ge _ _ (show 128 ≤ n + (64 + i) by omega)]
theorem Ue (x : BitVec 128) {n : Nat} (h : n < 64) : lo x >>> n ||| hi x <<< (64 - n) = lo (x >>> n) := by
 apply BitVec.eq_of_getLsbD_eq
 intro i hi'
 rw [MV _ _ hi', BitVec.getLsbD_or, BitVec.getLsbD_ushiftRight, BitVec.getLsbD_ushiftRight, BitVec.getLsbD_shiftLeft, decide_eq_true hi', Bool.true_and]
 by_cases h2 : n + i < 64
 ·rw [MV _ _ h2, decide_eq_true (show i < 64 - n by omega)]; simp
 ·rw [BitVec.getLsbD_of_ge _ _ (show 64 ≤ n + i by omega), decide_eq_false (show ¬ i < 64 - n by omega), Nb _ _ (by omega), Bool.false_or]
  simp only [Bool.not_false, Bool.true_and]; congr 1; omega
theorem ab (x : BitVec 128) {n : Nat} (h : 64 ≤ n) : lo x <<< (n - 64) = hi (x <<< n) := by
 apply BitVec.eq_of_getLsbD_eq
 intro i hi'
 rw [Nb _ _ hi', BitVec.getLsbD_shiftLeft, BitVec.getLsbD_shiftLeft, decide_eq_true hi', Bool.true_and, decide_eq_true (show 64 + i < 128 by omega), Bool.true_and]
 by_cases h2 : i < n - 64
 ·rw [decide_eq_true h2, decide_eq_true (show 64 + i < n by omega)]; simp
 ·rw [decide_eq_false h2, decide_eq_false (show ¬ 64 + i < n by omega), MV _ _ (by omega)]; simp only [Bool.not_false, Bool.true_and]; congr 1; omega
theorem aa (x : BitVec 128) {n : Nat} (h : 64 ≤ n) : (0#64) = lo (x <<< n) := by
 apply BitVec.eq_of_getLsbD_eq
 intro i hi'
 rw [MV _ _ hi', BitVec.getLsbD_shiftLeft, decide_eq_true (show i < n by omega)]; simp
theorem Wk (x : BitVec 128) (n : Nat) : lo x <<< n = lo (x <<< n) := by
 apply BitVec.eq_of_getLsbD_eq
 intro i hi'
 rw [MV _ _ hi', BitVec.getLsbD_shiftLeft, BitVec.getLsbD_shiftLeft, decide_eq_true hi', decide_eq_true (show i < 128 by omega)]
 by_cases h2 : i < n
 ·rw [decide_eq_true h2]; simp
 ·rw [decide_eq_false h2, MV _ _ (by omega)]
theorem Wl (x : BitVec 128) {n : Nat} (h : n < 64) : hi x <<< n ||| lo x >>> (64 - n) = hi (x <<< n) := by
 apply BitVec.eq_of_getLsbD_eq
 intro i hi'
 rw [Nb _ _ hi', BitVec.getLsbD_or, BitVec.getLsbD_ushiftRight, BitVec.getLsbD_shiftLeft, BitVec.getLsbD_shiftLeft, decide_eq_true hi', Bool.true_and, decide_eq_true (show 64 + i < 128 by omega), Bool.true_and, decide_eq_false (show ¬ 64 + i < n by omega)]
 by_cases h2 : i < n
 ·rw [decide_eq_true h2, MV _ _ (by omega)]; simp only [Bool.not_true, Bool.false_and, Bool.false_or, Bool.not_false, Bool.true_and]; congr 1; omega
 ·rw [decide_eq_false h2, Nb _ _ (by omega), BitVec.getLsbD_of_ge _ _ (show 64 ≤ 64 - n + i by omega)]; simp only [Bool.not_false, Bool.true_and, Bool.or_false]; congr 1; omega
theorem Yt {x : BitVec 128} {n : Int} (h : ¬ n < 0) : x <<< n.toNat = Eg x n := by unfold Eg; rw [if_pos (by omega)]
theorem Yu {x : BitVec 128} {n : Int} (h : n < 0) : x >>> (-n).toNat = Eg x n := by unfold Eg; rw [if_neg (by omega)]
theorem Rl {x : BitVec 128} {n : Int} (h : n ≤ -128 ∨ n ≥ 128) : (0#128) = Eg x n := by
 unfold Eg
 split
 ·apply BitVec.eq_of_getLsbD_eq
  intro i hi'
  rw [BitVec.getLsbD_shiftLeft, decide_eq_true (show i < n.toNat by omega)]; simp
 ·apply BitVec.eq_of_getLsbD_eq
  intro i hi'
  rw [BitVec.getLsbD_ushiftRight, BitVec.getLsbD_of_ge _ _ (show 128 ≤ (-n).toNat + i by omega)]; simp
theorem Qc {x : BitVec 128} {n : Int} (h : ¬ n < 0) : x >>> n.toNat = Eg x (-n) := by
 by_cases h0 : n = 0
 ·subst h0; unfold Eg; simp
 ·rw [← Yu (show -n < 0 by omega), Int.neg_neg]
theorem ae {x : BitVec 128} {n : Int} (h : n < 0) : x <<< (-n).toNat = Eg x (-n) := Yt (by omega)
def len128 (x : BitVec 128) : Nat := if hi x = 0#64 then Lib.bitLen (lo x).toNat else 64 + Lib.bitLen (hi x).toNat
section
open Go Go.RowKit
variable {P : Program} {c : Addr → Option Value} {ρ : Operand → Value} {d : Option Tmp} {a b : Operand} {ts : Array TypeId} {ty : TypeId} {pos : String} {af : Array Edge} {g : Option (Nat × Bool)} {k : IntKind} {x y : Int}
theorem lf (hx : ρ a = .int k x) (hy : ρ b = .int k y) : ev P c (execOp ρ ⟨d, .call ⟨.builtin .max, #[a, b], ts⟩, ty, pos, af, g⟩) = some (.value (.int k (max x y))) := by
 have e : max x y = if y > x then y else x := by split <;> omega
 rw [e]
 show ev P c (do let d ← resolve ρ ⟨.builtin .max, #[a, b], ts⟩ ty; invoke d.target d.args) = _
 simp [resolve, invoke, builtin, Builtin.max_, Builtin.max2, hx, hy, Bk]
end
theorem Qh (x : BitVec 128) : x.toNat < 2 ^ len128 x ∧ (len128 x ≠ 0 → 2 ^ (len128 x - 1) ≤ x.toNat) ∧ len128 x ≤ 128 := by
 have hx := x.isLt
 unfold len128
 by_cases h : hi x = 0#64
 ·rw [if_pos h]
  have h0 : x.toNat / 2 ^ 64 = 0 := by rw [← Pa, h]; rfl
  have e : (lo x).toNat = x.toNat := by rw [RH]; omega
  have hb := VX (lo x).toNat (lo x).isLt
  rw [e] at hb ⊢
  refine ⟨hb.1, fun hn => ?_, by omega⟩
  by_cases hz : x.toNat = 0
  ·rw [hz] at hn; exact absurd rfl hn
  ·exact (hb.2.1 hz).2
 ·rw [if_neg h]
  have hb := VX (hi x).toNat (hi x).isLt
  have hz : (hi x).toNat ≠ 0 := fun e => h (BitVec.eq_of_toNat_eq e)
  obtain ⟨h1, h2, h3⟩ := hb
  obtain ⟨h4, h5⟩ := h2 hz
  rw [Pa] at h1 h4 h5 h3 ⊢
  refine ⟨?_, fun _ => ?_, by omega⟩
  ·have := (Nat.div_lt_iff_lt_mul (by decide)).1 h1
   rw [Nat.pow_add, Nat.mul_comm]; exact this
  ·rw [show 64 + Lib.bitLen (x.toNat / 2 ^ 64) - 1 = (Lib.bitLen (x.toNat / 2 ^ 64) - 1) + 64 from by omega, Nat.pow_add]
   exact (Nat.le_div_iff_mul_le (by decide)).1 h5
theorem au {x : BitVec 128} {m : Nat} (h1 : x.getLsbD m = true) (h2 : ∀ j, m + 1 ≤ j → j < 128 → x.getLsbD j = false) : m + 1 = len128 x := by
 obtain ⟨a, b, _⟩ := Qh x
 have hlo : 2 ^ m ≤ x.toNat := Nat.ge_two_pow_of_testBit h1
 have hhi : x.toNat < 2 ^ (m + 1) := Nat.lt_pow_two_of_testBit _ (fun i hi => by
  by_cases h : i < 128
  ·exact h2 i hi h
  ·exact BitVec.getLsbD_of_ge _ _ (by omega))
 have c1 : m < len128 x := (Nat.pow_lt_pow_iff_right (a := 2) (by decide)).1 (Nat.lt_of_le_of_lt hlo a)
 have c2 : len128 x - 1 < m + 1 := (Nat.pow_lt_pow_iff_right (a := 2) (by decide)).1 (Nat.lt_of_le_of_lt (b (by omega)) hhi)
 omega
theorem WJ {x : BitVec 128} (h : ∀ j, j < 128 → x.getLsbD j = false) : 0 = len128 x := by
 have : x = 0#128 := BitVec.eq_of_getLsbD_eq (fun i hi => by rw [h i hi]; simp)
 subst this; decide +kernel
end Go.Eng
