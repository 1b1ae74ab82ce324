/- Words of 128 bits, moved: plain facts on bits. Conditions: none. -/
import Derived.Test.YtnpbpllibmcokaaTm
import Derived.Test.YtnpbpllibmcokaaSm
namespace Go.Eng
theorem hi_bit (x : BitVec 128) (i : Nat) (h : i < 64) : (hi x).getLsbD i = x.getLsbD (64 + i) := by
  unfold hi; rw [BitVec.getLsbD_extractLsb', decide_eq_true h, Bool.true_and]
theorem lo_bit (x : BitVec 128) (i : Nat) (h : i < 64) : (lo x).getLsbD i = x.getLsbD i := by
  unfold lo; rw [BitVec.getLsbD_extractLsb', decide_eq_true h, Bool.true_and, Nat.zero_add]
theorem down_hi_big (x : BitVec 128) {n : Nat} (h : 64 ≤ n) : (0#64) = hi (x >>> n) := by
  apply BitVec.eq_of_getLsbD_eq
  intro i hi'
  rw [hi_bit _ _ hi', BitVec.getLsbD_ushiftRight, BitVec.getLsbD_of_ge _ _ (show 128 ≤ n + (64 + i) by omega)]; simp
theorem down_lo_big (x : BitVec 128) {n : Nat} (h : 64 ≤ n) : hi x >>> (n - 64) = lo (x >>> n) := by
  apply BitVec.eq_of_getLsbD_eq
  intro i hi'
  rw [lo_bit _ _ hi', BitVec.getLsbD_ushiftRight, BitVec.getLsbD_ushiftRight]
  by_cases h2 : n - 64 + i < 64
  · rw [hi_bit _ _ h2]; congr 1; omega
  · rw [BitVec.getLsbD_of_ge _ _ (by omega), BitVec.getLsbD_of_ge _ _ (show 128 ≤ n + i by omega)]
theorem down_hi_small (x : BitVec 128) (n : Nat) : hi x >>> n = hi (x >>> n) := by
  apply BitVec.eq_of_getLsbD_eq
  intro i hi'
  rw [hi_bit _ _ hi', BitVec.getLsbD_ushiftRight, BitVec.getLsbD_ushiftRight]
  by_cases h2 : n + i < 64
  · rw [hi_bit _ _ h2]; congr 1; omega
  · rw [BitVec.getLsbD_of_ge _ _ (by omega), BitVec.getLsbD_of_ge _ _ (show 128 ≤ n + (64 + i) by omega)]
theorem down_lo_small (x : BitVec 128) {n : Nat} (h : n < 64) : lo x >>> n ||| hi x <<< (64 - n) = lo (x >>> n) := by
  apply BitVec.eq_of_getLsbD_eq
  intro i hi'
  rw [lo_bit _ _ hi', BitVec.getLsbD_or, BitVec.getLsbD_ushiftRight, BitVec.getLsbD_ushiftRight, BitVec.getLsbD_shiftLeft, decide_eq_true hi', Bool.true_and]
  by_cases h2 : n + i < 64
  · rw [lo_bit _ _ h2, decide_eq_true (show i < 64 - n by omega)]; simp
  · rw [BitVec.getLsbD_of_ge _ _ (show 64 ≤ n + i by omega), decide_eq_false (show ¬ i < 64 - n by omega), hi_bit _ _ (by omega), Bool.false_or]
    simp only [Bool.not_false, Bool.true_and]; congr 1; omega
theorem up_hi_big (x : BitVec 128) {n : Nat} (h : 64 ≤ n) : lo x <<< (n - 64) = hi (x <<< n) := by
  apply BitVec.eq_of_getLsbD_eq
  intro i hi'
  rw [hi_bit _ _ hi', BitVec.getLsbD_shiftLeft, BitVec.getLsbD_shiftLeft, decide_eq_true hi', Bool.true_and, decide_eq_true (show 64 + i < 128 by omega), Bool.true_and]
  by_cases h2 : i < n - 64
  · rw [decide_eq_true h2, decide_eq_true (show 64 + i < n by omega)]; simp
  · rw [decide_eq_false h2, decide_eq_false (show ¬ 64 + i < n by omega), lo_bit _ _ (by omega)]; simp only [Bool.not_false, Bool.true_and]; congr 1; omega
theorem up_lo_big (x : BitVec 128) {n : Nat} (h : 64 ≤ n) : (0#64) = lo (x <<< n) := by
  apply BitVec.eq_of_getLsbD_eq
  intro i hi'
  rw [lo_bit _ _ hi', BitVec.getLsbD_shiftLeft, decide_eq_true (show i < n by omega)]; simp
theorem up_lo_small (x : BitVec 128) (n : Nat) : lo x <<< n = lo (x <<< n) := by
  apply BitVec.eq_of_getLsbD_eq
  intro i hi'
  rw [lo_bit _ _ hi', BitVec.getLsbD_shiftLeft, BitVec.getLsbD_shiftLeft, decide_eq_true hi', decide_eq_true (show i < 128 by omega)]
  by_cases h2 : i < n
  · rw [decide_eq_true h2]; simp
  · rw [decide_eq_false h2, lo_bit _ _ (by omega)]
theorem up_hi_small (x : BitVec 128) {n : Nat} (h : n < 64) : hi x <<< n ||| lo x >>> (64 - n) = hi (x <<< n) := by
  apply BitVec.eq_of_getLsbD_eq
  intro i hi'
  rw [hi_bit _ _ hi', BitVec.getLsbD_or, BitVec.getLsbD_ushiftRight, BitVec.getLsbD_shiftLeft, BitVec.getLsbD_shiftLeft, decide_eq_true hi', Bool.true_and, decide_eq_true (show 64 + i < 128 by omega), Bool.true_and, decide_eq_false (show ¬ 64 + i < n by omega)]
  by_cases h2 : i < n
  · rw [decide_eq_true h2, lo_bit _ _ (by omega)]; simp only [Bool.not_true, Bool.false_and, Bool.false_or, Bool.not_false, Bool.true_and]; congr 1; omega
  · rw [decide_eq_false h2, hi_bit _ _ (by omega), BitVec.getLsbD_of_ge _ _ (show 64 ≤ 64 - n + i by omega)]; simp only [Bool.not_false, Bool.true_and, Bool.or_false]; congr 1; omega
theorem shiftI_pos {x : BitVec 128} {n : Int} (h : ¬ n < 0) : x <<< n.toNat = shiftI x n := by unfold shiftI; rw [if_pos (by omega)]
theorem shiftI_neg {x : BitVec 128} {n : Int} (h : n < 0) : x >>> (-n).toNat = shiftI x n := by unfold shiftI; rw [if_neg (by omega)]
theorem shiftI_far {x : BitVec 128} {n : Int} (h : n ≤ -128 ∨ n ≥ 128) : (0#128) = shiftI x n := by
  unfold shiftI
  split
  · apply BitVec.eq_of_getLsbD_eq
    intro i hi'
    rw [BitVec.getLsbD_shiftLeft, decide_eq_true (show i < n.toNat by omega)]; simp
  · apply BitVec.eq_of_getLsbD_eq
    intro i hi'
    rw [BitVec.getLsbD_ushiftRight, BitVec.getLsbD_of_ge _ _ (show 128 ≤ (-n).toNat + i by omega)]; simp

theorem shiftI_down {x : BitVec 128} {n : Int} (h : ¬ n < 0) : x >>> n.toNat = shiftI x (-n) := by
  by_cases h0 : n = 0
  · subst h0; unfold shiftI; simp
  · rw [← shiftI_neg (show -n < 0 by omega), Int.neg_neg]
theorem shiftI_up {x : BitVec 128} {n : Int} (h : n < 0) : x <<< (-n).toNat = shiftI x (-n) := shiftI_pos (by omega)
def bitI (x : BitVec 128) (i : Int) : Bool := decide (0 ≤ i) && (decide (i < 128) && x.getLsbD i.toNat)
theorem bit_one (v : BitVec 64) : ((v &&& 1#64) == 1#64) = v.getLsbD 0 := by
  rw [Bool.eq_iff_iff]
  simp only [beq_iff_eq, ← BitVec.toNat_inj, BitVec.toNat_and, BitVec.getLsbD, show (1#64).toNat = 2 ^ 1 - 1 from rfl, Nat.and_two_pow_sub_one_eq_mod, Nat.testBit_zero, decide_eq_true_eq]
theorem bitI_in {x : BitVec 128} {i : Int} (h0 : i ≥ 0) (h1 : i < 128) : ((lo (x >>> i.toNat) &&& 1#64) == 1#64) = bitI x i := by
  rw [bit_one, lo_bit _ _ (by decide), BitVec.getLsbD_ushiftRight]
  unfold bitI
  rw [decide_eq_true (show 0 ≤ i from h0), decide_eq_true h1]; simp
theorem bitI_out {x : BitVec 128} {i : Int} (h : ¬ i ≥ 0 ∨ ¬ i < 128) : false = bitI x i := by
  unfold bitI
  rcases h with h | h
  · rw [decide_eq_false (show ¬ 0 ≤ i from h)]; rfl
  · rw [decide_eq_false h]; simp
def len128 (x : BitVec 128) : Nat := if hi x = 0#64 then Lib.bitLen (lo x).toNat else 64 + Lib.bitLen (hi x).toNat
def onesI (n : Int) : BitVec 128 := if n < 1 then 0#128 else (~~~(0#128)) >>> (128 - min n 128).toNat
section
open Go Go.RowKit
variable {P : Program} {c : Addr → Option Value} {ρ : Operand → Value} {d : Option Tmp} {a b : Operand} {ts : Array TypeId} {ty : TypeId} {pos : String} {af : Array Edge} {g : Option (Nat × Bool)} {k : IntKind} {x y : Int}
theorem ev_min (hx : ρ a = .int k x) (hy : ρ b = .int k y) : ev P c (execOp ρ ⟨d, .call ⟨.builtin .min, #[a, b], ts⟩, ty, pos, af, g⟩) = some (.value (.int k (min x y))) := by
  have e : min x y = if y < x then y else x := by split <;> omega
  rw [e]
  show ev P c (do let d ← resolve ρ ⟨.builtin .min, #[a, b], ts⟩ ty; invoke d.target d.args) = _
  simp [resolve, invoke, builtin, Builtin.min_, Builtin.min2, hx, hy, ev_pure]
theorem ev_max (hx : ρ a = .int k x) (hy : ρ b = .int k y) : ev P c (execOp ρ ⟨d, .call ⟨.builtin .max, #[a, b], ts⟩, ty, pos, af, g⟩) = some (.value (.int k (max x y))) := by
  have e : max x y = if y > x then y else x := by split <;> omega
  rw [e]
  show ev P c (do let d ← resolve ρ ⟨.builtin .max, #[a, b], ts⟩ ty; invoke d.target d.args) = _
  simp [resolve, invoke, builtin, Builtin.max_, Builtin.max2, hx, hy, ev_pure]
end
/-! ### Orders and lengths -/
def cmpI (x y : BitVec 128) : Int := if x = y then 0 else if x < y then -1 else 1
theorem cmpI_lo (x y : BitVec 128) : decide (cmpI x y < -1) = false := by unfold cmpI; split <;> (try split) <;> decide
theorem cmpI_hi (x y : BitVec 128) : decide (cmpI x y > 1) = false := by unfold cmpI; split <;> (try split) <;> decide
theorem cmpI_swap (x y : BitVec 128) : ((cmpI y x : Int) != 0 - cmpI x y) = false := by
  unfold cmpI
  by_cases h : x = y
  · subst h; simp
  · rw [if_neg h, if_neg (Ne.symm h)]
    by_cases h2 : x < y
    · rw [if_pos h2, if_neg (by rw [BitVec.lt_def] at *; omega)]; rfl
    · have h3 : y < x := by
        have : x.toNat ≠ y.toNat := fun e => h (BitVec.eq_of_toNat_eq e)
        rw [BitVec.lt_def] at *; omega
      rw [if_neg h2, if_pos h3]; rfl
theorem cmpI_eq (x y : BitVec 128) : ((cmpI x y : Int) == 0) = (x == y) := by
  unfold cmpI
  by_cases h : x = y
  · subst h; simp
  · rw [if_neg h, beq_eq_false_iff_ne.2 h]; split <;> rfl
theorem cmpI_lt (x y : BitVec 128) : decide (cmpI x y < 0) = decide (x < y) := by
  unfold cmpI
  by_cases h : x = y
  · subst h; simp
  · rw [if_neg h]; split <;> simp [*]
theorem cmpI_le0 {x y : BitVec 128} (h : x.toNat ≤ y.toNat) : cmpI x y ≤ 0 := by
  unfold cmpI; split
  · decide
  · rename_i h1
    have : x.toNat ≠ y.toNat := fun e => h1 (BitVec.eq_of_toNat_eq e)
    rw [if_pos (by rw [BitVec.lt_def]; omega)]; decide
theorem cmpI_gt0 {x y : BitVec 128} (h : y.toNat < x.toNat) : cmpI x y > 0 := by
  unfold cmpI
  rw [if_neg (by intro e; subst e; omega), if_neg (by rw [BitVec.lt_def]; omega)]; decide
theorem len128_spec (x : BitVec 128) : x.toNat < 2 ^ len128 x ∧ (len128 x ≠ 0 → 2 ^ (len128 x - 1) ≤ x.toNat) ∧ len128 x ≤ 128 := by
  have hx := x.isLt
  unfold len128
  by_cases h : hi x = 0#64
  · rw [if_pos h]
    have h0 : x.toNat / 2 ^ 64 = 0 := by rw [← hi_toNat, h]; rfl
    have e : (lo x).toNat = x.toNat := by rw [lo_toNat]; omega
    have hb := bl_spec (lo x).toNat (lo x).isLt
    rw [e] at hb ⊢
    refine ⟨hb.1, fun hn => ?_, by omega⟩
    by_cases hz : x.toNat = 0
    · rw [hz] at hn; exact absurd rfl hn
    · exact (hb.2.1 hz).2
  · rw [if_neg h]
    have hb := bl_spec (hi x).toNat (hi x).isLt
    have hz : (hi x).toNat ≠ 0 := fun e => h (BitVec.eq_of_toNat_eq e)
    obtain ⟨h1, h2, h3⟩ := hb
    obtain ⟨h4, h5⟩ := h2 hz
    rw [hi_toNat] at h1 h4 h5 h3 ⊢
    refine ⟨?_, fun _ => ?_, by omega⟩
    · have := (Nat.div_lt_iff_lt_mul (by decide)).1 h1
      rw [Nat.pow_add, Nat.mul_comm]; exact this
    · rw [show 64 + Lib.bitLen (x.toNat / 2 ^ 64) - 1 = (Lib.bitLen (x.toNat / 2 ^ 64) - 1) + 64 from by omega, Nat.pow_add]
      exact (Nat.le_div_iff_mul_le (by decide)).1 h5
theorem len128_le (x : BitVec 128) : len128 x ≤ 128 := (len128_spec x).2.2
theorem len128_is {x : BitVec 128} {m : Nat} (h1 : x.getLsbD m = true) (h2 : ∀ j, m + 1 ≤ j → j < 128 → x.getLsbD j = false) : m + 1 = len128 x := by
  obtain ⟨a, b, _⟩ := len128_spec x
  have hlo : 2 ^ m ≤ x.toNat := Nat.ge_two_pow_of_testBit h1
  have hhi : x.toNat < 2 ^ (m + 1) := Nat.lt_pow_two_of_testBit _ (fun i hi => by
    by_cases h : i < 128
    · exact h2 i hi h
    · exact BitVec.getLsbD_of_ge _ _ (by omega))
  have c1 : m < len128 x := (Nat.pow_lt_pow_iff_right (a := 2) (by decide)).1 (Nat.lt_of_le_of_lt hlo a)
  have c2 : len128 x - 1 < m + 1 := (Nat.pow_lt_pow_iff_right (a := 2) (by decide)).1 (Nat.lt_of_le_of_lt (b (by omega)) hhi)
  omega
theorem len128_none {x : BitVec 128} (h : ∀ j, j < 128 → x.getLsbD j = false) : 0 = len128 x := by
  have : x = 0#128 := BitVec.eq_of_getLsbD_eq (fun i hi => by rw [h i hi]; simp)
  subst this; decide +kernel
theorem onesI_bit (n : Int) (i : Nat) (hi : i < 128) : (onesI n).getLsbD i = decide ((i : Int) < n) := by
  unfold onesI
  by_cases h : n < 1
  · rw [if_pos h, decide_eq_false (by omega)]; simp
  · rw [if_neg h, BitVec.getLsbD_ushiftRight, BitVec.getLsbD_not]
    by_cases h2 : (i : Int) < n
    · rw [decide_eq_true h2, decide_eq_true (by omega)]; simp
    · rw [decide_eq_false h2, decide_eq_false (by omega)]; rfl
theorem onesI_toNat (n : Nat) (h : n ≤ 128) : (onesI (n : Int)).toNat = 2 ^ n - 1 := by
  apply Nat.eq_of_testBit_eq
  intro i
  rw [Nat.testBit_two_pow_sub_one]
  by_cases hi : i < 128
  · exact (onesI_bit n i hi).trans (by congr 1; simp)
  · rw [decide_eq_false (by omega)]; exact BitVec.getLsbD_of_ge _ _ (by omega)
theorem ones_above (x : BitVec 128) : cmpI x (onesI ((len128 x : Nat) : Int)) ≤ 0 := by
  obtain ⟨a, _, c⟩ := len128_spec x
  refine cmpI_le0 ?_
  rw [onesI_toNat _ c]; omega
theorem ones_below (x : BitVec 128) (h : (((len128 x : Nat) : Int) == 0) = false) : cmpI x (onesI (((len128 x : Nat) : Int) - 1)) > 0 := by
  obtain ⟨_, b, c⟩ := len128_spec x
  have h0 : len128 x ≠ 0 := by intro e; rw [e] at h; exact absurd h (by decide)
  refine cmpI_gt0 ?_
  rw [show ((len128 x : Nat) : Int) - 1 = ((len128 x - 1 : Nat) : Int) from by omega, onesI_toNat _ (by omega)]
  have := b h0
  have := Nat.two_pow_pos (len128 x - 1)
  omega
theorem cmpI_bd (x y : BitVec 128) : -1 ≤ cmpI x y ∧ cmpI x y ≤ 1 := by unfold cmpI; split <;> (try split) <;> decide
theorem bits_and (x y : BitVec 128) (k : Nat) (b : Bool) (h : (x &&& y).getLsbD k = b) : (x.getLsbD k && y.getLsbD k) = b := by rw [← h, BitVec.getLsbD_and]
theorem bitI_val {x : BitVec 128} {i : Int} (h0 : i ≥ 0) (h1 : i < 128) : bitI x i = x.getLsbD i.toNat := by
  unfold bitI
  rw [decide_eq_true (show 0 ≤ i from h0), decide_eq_true h1]; rfl
theorem bitI_nat (x : BitVec 128) (k : Nat) (h : k < 128) : bitI x (k : Int) = x.getLsbD k := bitI_val (by omega) (by omega)
theorem shiftI_neg_eq (x : BitVec 128) (n : Int) : (shiftI x (-n) == shiftI x (0 - n)) = true := by rw [Int.zero_sub]; exact beq_self_eq_true _
theorem shiftI_out_eq (x : BitVec 128) (n : Int) (h : n ≤ -128 ∨ n ≥ 128) : (shiftI x (-n) == shiftI x 128) = true := by
  rw [← shiftI_far (x := x) (n := -n) (by omega), ← shiftI_far (x := x) (n := 128) (by omega)]; rfl
theorem not_bit_eq (x : BitVec 128) (k : Nat) (h : k < 128) : ((~~~x).getLsbD k == x.getLsbD k) = false := by
  rw [BitVec.getLsbD_not, decide_eq_true h]; cases x.getLsbD k <;> rfl
theorem xor_bit_eq (x y : BitVec 128) (k : Nat) : ((x ^^^ y).getLsbD k != (x.getLsbD k != y.getLsbD k)) = false := by
  rw [BitVec.getLsbD_xor]; cases x.getLsbD k <;> cases y.getLsbD k <;> rfl
theorem and_bit_t {x y : BitVec 128} {k : Nat} (h : x.getLsbD k = true) : ((x &&& y).getLsbD k != y.getLsbD k) = false := by
  rw [BitVec.getLsbD_and, h]; cases y.getLsbD k <;> rfl
theorem and_bit_f {x y : BitVec 128} {k : Nat} (h : x.getLsbD k = false) : ((x &&& y).getLsbD k != false) = false := by
  rw [BitVec.getLsbD_and, h]; rfl
theorem or_bit_t {x y : BitVec 128} {k : Nat} (h : x.getLsbD k = true) : ((x ||| y).getLsbD k != true) = false := by
  rw [BitVec.getLsbD_or, h]; rfl
theorem or_bit_f {x y : BitVec 128} {k : Nat} (h : x.getLsbD k = false) : ((x ||| y).getLsbD k != y.getLsbD k) = false := by
  rw [BitVec.getLsbD_or, h]; cases y.getLsbD k <;> rfl
end Go.Eng
