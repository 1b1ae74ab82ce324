/- Words of 128 bits, multiplied and divided bit by bit: plain facts on bits. Conditions: none. -/
import Derived.Test.YtnpbpllibmcokaaMm
namespace Go.Eng
def mh (x y : BitVec 64) : BitVec 64 := BitVec.ofNat 64 (x.toNat * y.toNat / 2 ^ 64)
theorem mh_toNat (x y : BitVec 64) : (mh x y).toNat = x.toNat * y.toNat / 2 ^ 64 := by
  unfold mh
  rw [BitVec.toNat_ofNat, Nat.mod_eq_of_lt]
  have h1 : x.toNat * y.toNat ≤ (2 ^ 64 - 1) * (2 ^ 64 - 1) := Nat.mul_le_mul (by have := x.isLt; omega) (by have := y.isLt; omega)
  omega
theorem mul_split (x y : BitVec 128) : x.toNat * y.toNat = (hi x).toNat * (hi y).toNat * 2 ^ 128 + ((hi x).toNat * (lo y).toNat + (lo x).toNat * (hi y).toNat) * 2 ^ 64 + (lo x).toNat * (lo y).toNat := by
  have e1 : x.toNat = (hi x).toNat * 2 ^ 64 + (lo x).toNat := by rw [hi_toNat, lo_toNat]; omega
  have e2 : y.toNat = (hi y).toNat * 2 ^ 64 + (lo y).toNat := by rw [hi_toNat, lo_toNat]; omega
  rw [e1, e2]
  generalize (hi x).toNat = a; generalize (lo x).toNat = b; generalize (hi y).toNat = c; generalize (lo y).toNat = d
  rw [Nat.add_mul, Nat.mul_add, Nat.mul_add]
  have e3 : a * 2 ^ 64 * (c * 2 ^ 64) = a * c * 2 ^ 128 := by rw [show (2 : Nat) ^ 128 = 2 ^ 64 * 2 ^ 64 from rfl]; ac_rfl
  have e4 : a * 2 ^ 64 * d = a * d * 2 ^ 64 := by ac_rfl
  have e5 : b * (c * 2 ^ 64) = b * c * 2 ^ 64 := by ac_rfl
  rw [e3, e4, e5]; omega
theorem hi_mul (x y : BitVec 128) : mh (lo x) (lo y) + hi x * lo y + lo x * hi y = hi (x * y) := by
  apply BitVec.eq_of_toNat_eq
  rw [hi_toNat, BitVec.toNat_add, BitVec.toNat_add, BitVec.toNat_mul, BitVec.toNat_mul, BitVec.toNat_mul, mh_toNat, mul_split]
  generalize (hi x).toNat * (hi y).toNat = p
  generalize (hi x).toNat * (lo y).toNat = q
  generalize (lo x).toNat * (hi y).toNat = r
  generalize (lo x).toNat * (lo y).toNat = s
  omega
theorem lo_mul (x y : BitVec 128) : lo x * lo y = lo (x * y) := by
  apply BitVec.eq_of_toNat_eq
  rw [lo_toNat, BitVec.toNat_mul, BitVec.toNat_mul, mul_split]
  generalize (hi x).toNat * (hi y).toNat = p
  generalize (hi x).toNat * (lo y).toNat + (lo x).toNat * (hi y).toNat = q
  generalize (lo x).toNat * (lo y).toNat = s
  omega
/-! ### The product, bit by bit -/
def prodP (x y : BitVec 128) (k : Nat) : BitVec 128 := BitVec.ofNat 128 (x.toNat * (y.toNat % 2 ^ k))
theorem prodP_zero (x y : BitVec 128) : rowF (fun _ => false) = rowF (BitVec.getLsbD (prodP x y 0)) := rowF_ext fun j _ => by
  unfold prodP; rw [Nat.pow_zero, Nat.mod_one, Nat.mul_zero]; simp
theorem prodP_bit (x y : BitVec 128) (k : Nat) (h : y.getLsbD k = true) : prodP x y k + shiftI x (k : Int) + cb128 false = prodP x y (k + 1) := by
  rw [add_zero_c, ← shiftI_pos (by omega), Int.toNat_natCast]
  apply BitVec.eq_of_toNat_eq
  unfold prodP
  have hb : y.toNat / 2 ^ k % 2 = 1 := by
    have := h; unfold BitVec.getLsbD at this; rw [Nat.testBit_eq_decide_div_mod_eq] at this; simpa using this
  rw [BitVec.toNat_add, BitVec.toNat_shiftLeft, BitVec.toNat_ofNat, BitVec.toNat_ofNat, Nat.shiftLeft_eq, Nat.mod_pow_succ (x := y.toNat) (b := 2) (k := k), hb, Nat.mul_one, Nat.mul_add]
  omega
theorem prodP_skip (x y : BitVec 128) (k : Nat) (h : y.getLsbD k = false) : prodP x y k = prodP x y (k + 1) := by
  unfold prodP
  have hb : y.toNat / 2 ^ k % 2 = 0 := by
    have := h; unfold BitVec.getLsbD at this; rw [Nat.testBit_eq_decide_div_mod_eq] at this; simpa using this
  rw [Nat.mod_pow_succ (x := y.toNat) (b := 2) (k := k), hb, Nat.mul_zero, Nat.add_zero]
theorem prodP_done (x y : BitVec 128) {k : Nat} (h1 : k ≤ 128) (h2 : ¬ (k : Int) < 128) : prodP x y k = x * y := by
  obtain rfl : k = 128 := by omega
  apply BitVec.eq_of_toNat_eq
  unfold prodP
  rw [BitVec.toNat_mul, BitVec.toNat_ofNat, Nat.mod_eq_of_lt y.isLt]
/-! ### Long division, bit by bit -/
def partQ (x d : BitVec 128) (k : Nat) : BitVec 128 := BitVec.ofNat 128 (x.toNat / 2 ^ k / d.toNat * 2 ^ k)
def partL (x d : BitVec 128) (k : Nat) : BitVec 128 := BitVec.ofNat 128 (x.toNat / 2 ^ k % d.toNat)
def partS (x d : BitVec 128) (m : Nat) : BitVec 128 := BitVec.ofNat 128 (2 * (x.toNat / 2 ^ (m + 1) % d.toNat) + x.toNat / 2 ^ m % 2)
section
variable {x d : BitVec 128} {m k : Nat}
theorem part_top (x : BitVec 128) : x.toNat / 2 ^ 128 = 0 := Nat.div_eq_of_lt x.isLt
theorem partQ_top (x d : BitVec 128) : rowF (fun _ => false) = rowF (BitVec.getLsbD (partQ x d 128)) := rowF_ext fun j _ => by
  unfold partQ; rw [part_top x, Nat.zero_div, Nat.zero_mul]; simp
theorem partL_top (x d : BitVec 128) : rowF (fun _ => false) = rowF (BitVec.getLsbD (partL x d 128)) := rowF_ext fun j _ => by
  unfold partL; rw [part_top x, Nat.zero_mod]; simp
theorem partL_toNat (hd : d ≠ 0#128) : (partL x d k).toNat = x.toNat / 2 ^ k % d.toNat ∧ (partL x d k).toNat < d.toNat := by
  have h0 : 0 < d.toNat := by
    rcases Nat.eq_zero_or_pos d.toNat with h | h
    · exact absurd (BitVec.eq_of_toNat_eq h) hd
    · exact h
  have h1 := Nat.mod_lt (x.toNat / 2 ^ k) h0
  have := d.isLt
  unfold partL
  rw [BitVec.toNat_ofNat, Nat.mod_eq_of_lt (by omega)]
  exact ⟨rfl, h1⟩
theorem part_half (x : BitVec 128) (m : Nat) : x.toNat / 2 ^ m = 2 * (x.toNat / 2 ^ (m + 1)) + x.toNat / 2 ^ m % 2 := by
  rw [Nat.pow_succ, ← Nat.div_div_eq_div_mul]; omega
theorem partS_row (hd : d ≠ 0#128) : rowF (upd (BitVec.getLsbD (shiftI (partL x d (m + 1)) 1)) 0 (x.getLsbD m)) = rowF (BitVec.getLsbD (partS x d m)) := rowF_ext fun j hj => by
  have hL := (partL_toNat (x := x) (k := m + 1) hd).1
  have hb : x.getLsbD m = decide (x.toNat / 2 ^ m % 2 = 1) := by unfold BitVec.getLsbD; rw [Nat.testBit_eq_decide_div_mod_eq]
  unfold upd
  have hS : (partS x d m).getLsbD j = (2 * (x.toNat / 2 ^ (m + 1) % d.toNat) + x.toNat / 2 ^ m % 2).testBit j := by
    unfold partS; rw [BitVec.getLsbD_ofNat, decide_eq_true hj, Bool.true_and]
  rw [hS]
  by_cases h : j = 0
  · subst h
    rw [if_pos rfl, hb, Nat.testBit_zero]; congr 1; simp only [eq_iff_iff]; omega
  · rw [if_neg h, ← shiftI_pos (by omega), show (1 : Int).toNat = 1 from rfl, BitVec.getLsbD_shiftLeft, decide_eq_true hj, decide_eq_false (by omega), Bool.not_false, Bool.true_and, Bool.true_and]
    obtain ⟨i, rfl⟩ : ∃ i, j = i + 1 := ⟨j - 1, by omega⟩
    rw [Nat.testBit_succ, show (2 * (x.toNat / 2 ^ (m + 1) % d.toNat) + x.toNat / 2 ^ m % 2) / 2 = x.toNat / 2 ^ (m + 1) % d.toNat from by omega, ← hL]; rfl
theorem part_ge (hd : d ≠ 0#128) (h : d.toNat ≤ 2 * (x.toNat / 2 ^ (m + 1) % d.toNat) + x.toNat / 2 ^ m % 2) :
    x.toNat / 2 ^ m / d.toNat = 2 * (x.toNat / 2 ^ (m + 1) / d.toNat) + 1 ∧ x.toNat / 2 ^ m % d.toNat = 2 * (x.toNat / 2 ^ (m + 1) % d.toNat) + x.toNat / 2 ^ m % 2 - d.toNat := by
  have hl := (partL_toNat (x := x) (k := m + 1) hd)
  rw [hl.1] at hl
  have e := part_half x m
  have e2 := Nat.div_add_mod (x.toNat / 2 ^ (m + 1)) d.toNat
  have hlt := hl.2
  generalize x.toNat / 2 ^ (m + 1) / d.toNat = q at *
  generalize x.toNat / 2 ^ (m + 1) % d.toNat = l at *
  generalize x.toNat / 2 ^ (m + 1) = z at *
  generalize hb : x.toNat / 2 ^ m % 2 = b at *
  have hb2 : b < 2 := by omega
  rw [e]
  have e3 : 2 * z + b = (2 * l + b - d.toNat) + d.toNat * (2 * q + 1) := by
    have e4 : d.toNat * (2 * q + 1) = 2 * (d.toNat * q) + d.toNat := by rw [Nat.mul_add, Nat.mul_one]; congr 1; ac_rfl
    rw [← e2, e4]; omega
  rw [e3]
  constructor
  · rw [Nat.add_mul_div_left _ _ (by omega), Nat.div_eq_of_lt (by omega)]; omega
  · rw [Nat.add_mul_mod_self_left, Nat.mod_eq_of_lt (by omega)]
theorem part_lt (h : 2 * (x.toNat / 2 ^ (m + 1) % d.toNat) + x.toNat / 2 ^ m % 2 < d.toNat) :
    x.toNat / 2 ^ m / d.toNat = 2 * (x.toNat / 2 ^ (m + 1) / d.toNat) ∧ x.toNat / 2 ^ m % d.toNat = 2 * (x.toNat / 2 ^ (m + 1) % d.toNat) + x.toNat / 2 ^ m % 2 := by
  have e := part_half x m
  have e2 := Nat.div_add_mod (x.toNat / 2 ^ (m + 1)) d.toNat
  generalize x.toNat / 2 ^ (m + 1) / d.toNat = q at *
  generalize x.toNat / 2 ^ (m + 1) % d.toNat = l at *
  generalize x.toNat / 2 ^ (m + 1) = z at *
  generalize hb : x.toNat / 2 ^ m % 2 = b at *
  rw [e]
  have e3 : 2 * z + b = (2 * l + b) + d.toNat * (2 * q) := by rw [← e2, Nat.mul_add, show d.toNat * (2 * q) = 2 * (d.toNat * q) from by ac_rfl]; omega
  rw [e3]
  constructor
  · rw [Nat.add_mul_div_left _ _ (by omega), Nat.div_eq_of_lt h]; omega
  · rw [Nat.add_mul_mod_self_left, Nat.mod_eq_of_lt h]
theorem partS_toNat (x d : BitVec 128) (m : Nat) : (partS x d m).toNat = (2 * (x.toNat / 2 ^ (m + 1) % d.toNat) + x.toNat / 2 ^ m % 2) % 2 ^ 128 := by
  unfold partS; rw [BitVec.toNat_ofNat]
theorem part_over (hd : d ≠ 0#128) (h : (partL x d (m + 1)).getLsbD 127 = true) : d.toNat ≤ 2 * (x.toNat / 2 ^ (m + 1) % d.toNat) + x.toNat / 2 ^ m % 2 := by
  have h1 : 2 ^ 127 ≤ (partL x d (m + 1)).toNat := Nat.ge_two_pow_of_testBit h
  rw [(partL_toNat hd).1] at h1
  have := d.isLt
  omega
theorem part_small (hd : d ≠ 0#128) (h : (partL x d (m + 1)).getLsbD 127 = false) : (partS x d m).toNat = 2 * (x.toNat / 2 ^ (m + 1) % d.toNat) + x.toNat / 2 ^ m % 2 := by
  have h1 : (partL x d (m + 1)).toNat < 2 ^ 127 := by
    refine Nat.lt_pow_two_of_testBit _ (fun i hi => ?_)
    by_cases hi2 : i = 127
    · subst hi2; exact h
    · exact BitVec.getLsbD_of_ge _ _ (by omega)
  rw [(partL_toNat hd).1] at h1
  rw [partS_toNat, Nat.mod_eq_of_lt (by omega)]
theorem part_case (hd : d ≠ 0#128) (h : (partL x d (m + 1)).getLsbD 127 = true ∨ (partL x d (m + 1)).getLsbD 127 = false ∧ ¬ partS x d m < d) : d.toNat ≤ 2 * (x.toNat / 2 ^ (m + 1) % d.toNat) + x.toNat / 2 ^ m % 2 := by
  rcases h with h | ⟨h, h2⟩
  · exact part_over hd h
  · rw [BitVec.lt_def, part_small hd h] at h2; omega
theorem partL_take (hd : d ≠ 0#128) (h : (partL x d (m + 1)).getLsbD 127 = true ∨ (partL x d (m + 1)).getLsbD 127 = false ∧ ¬ partS x d m < d) : partS x d m - d = partL x d m := by
  have hc := part_case hd h
  have hl := (partL_toNat (x := x) (k := m) hd)
  have hl2 := (partL_toNat (x := x) (k := m + 1) hd)
  rw [hl2.1] at hl2
  apply BitVec.eq_of_toNat_eq
  have := d.isLt
  rw [BitVec.toNat_sub, partS_toNat, hl.1, (part_ge hd hc).2]
  have h3 := hl2.2
  generalize x.toNat / 2 ^ (m + 1) % d.toNat = l at *
  have hb : x.toNat / 2 ^ m % 2 < 2 := Nat.mod_lt _ (by decide)
  generalize x.toNat / 2 ^ m % 2 = b at *
  omega
theorem partL_keep (hd : d ≠ 0#128) (h : (partL x d (m + 1)).getLsbD 127 = false) (h2 : partS x d m < d) : partS x d m = partL x d m := by
  rw [BitVec.lt_def, part_small hd h] at h2
  apply BitVec.eq_of_toNat_eq
  rw [part_small hd h, (partL_toNat hd).1, (part_lt h2).2]
theorem partQ_keep (hd : d ≠ 0#128) (h : (partL x d (m + 1)).getLsbD 127 = false) (h2 : partS x d m < d) : partQ x d (m + 1) = partQ x d m := by
  rw [BitVec.lt_def, part_small hd h] at h2
  unfold partQ
  rw [(part_lt h2).1, Nat.pow_succ]
  congr 1
  ac_rfl
theorem partQ_take (hm : m < 128) (hd : d ≠ 0#128) (h : (partL x d (m + 1)).getLsbD 127 = true ∨ (partL x d (m + 1)).getLsbD 127 = false ∧ ¬ partS x d m < d) : rowF (upd (BitVec.getLsbD (partQ x d (m + 1))) m true) = rowF (BitVec.getLsbD (partQ x d m)) := rowF_ext fun j hj => by
  have hc := part_case hd h
  have e : ∀ k, (partQ x d k).getLsbD j = (x.toNat / 2 ^ k / d.toNat * 2 ^ k).testBit j := fun k => by
    unfold partQ; rw [BitVec.getLsbD_ofNat, decide_eq_true hj, Bool.true_and]
  rw [e m]
  unfold upd
  rw [e (m + 1), (part_ge hd hc).1, Nat.testBit_mul_two_pow, Nat.testBit_mul_two_pow]
  by_cases h1 : j = m
  · subst h1
    rw [if_pos rfl, Nat.sub_self, Nat.testBit_zero, decide_eq_true (Nat.le_refl j), decide_eq_true (by omega)]; rfl
  · rw [if_neg h1]
    by_cases h2 : m + 1 ≤ j
    · rw [decide_eq_true h2, decide_eq_true (show m ≤ j by omega), show j - m = (j - (m + 1)) + 1 from by omega, Nat.testBit_succ]; congr 2; omega
    · rw [decide_eq_false h2, decide_eq_false (show ¬ m ≤ j by omega)]; rfl
theorem partQ_done (x d : BitVec 128) : partQ x d 0 = x / d := by
  apply BitVec.eq_of_toNat_eq
  unfold partQ
  rw [BitVec.toNat_udiv, Nat.pow_zero, Nat.div_one, Nat.mul_one, BitVec.toNat_ofNat, Nat.mod_eq_of_lt]
  exact Nat.lt_of_le_of_lt (Nat.div_le_self _ _) x.isLt
theorem partL_done (x d : BitVec 128) : partL x d 0 = x % d := by
  apply BitVec.eq_of_toNat_eq
  unfold partL
  rw [BitVec.toNat_umod, Nat.pow_zero, Nat.div_one, BitVec.toNat_ofNat, Nat.mod_eq_of_lt]
  exact Nat.lt_of_le_of_lt (Nat.mod_le _ _) x.isLt
end
/-! ### By a small number -/
theorem zx_ne {d : BitVec 64} (h : d ≠ 0#64) : (0#64 ++ d : BitVec 128) ≠ 0#128 := by
  intro e
  have : (0#64 ++ d : BitVec 128).toNat = 0 := by rw [e]; rfl
  rw [app_toNat] at this
  exact h (BitVec.eq_of_toNat_eq (by simpa using this))
theorem times_q (x : BitVec 128) (d : BitVec 64) : ((x / zx d) == (x / (0#64 ++ d))) = true := beq_self_eq_true _
theorem small_rem (x : BitVec 128) (d : BitVec 64) (hd : d ≠ 0#64) : (0#64 ++ BitVec.ofNat 64 (x.toNat % d.toNat) : BitVec 128) = x % (0#64 ++ d) := by
  apply BitVec.eq_of_toNat_eq
  have h0 : 0 < d.toNat := y_pos hd
  have := Nat.mod_lt x.toNat h0
  have := d.isLt
  rw [app_toNat, BitVec.toNat_umod, app_toNat, BitVec.toNat_ofNat (x.toNat % d.toNat) 64, Nat.mod_eq_of_lt (show x.toNat % d.toNat < 2 ^ 64 by omega)]
  simp
theorem times_back (x : BitVec 128) (d : BitVec 64) (hd : d ≠ 0#64) : (x / zx d) * (0#64 ++ d) + (0#64 ++ BitVec.ofNat 64 (x.toNat % d.toNat)) = x := by
  rw [small_rem x d hd, show (0#64 ++ d : BitVec 128) = zx d from rfl]
  apply BitVec.eq_of_toNat_eq
  rw [BitVec.toNat_add, BitVec.toNat_mul, BitVec.toNat_udiv, BitVec.toNat_umod]
  have e := Nat.div_add_mod' x.toNat (zx d).toNat
  have := x.isLt
  have h2 : x.toNat / (zx d).toNat * (zx d).toNat ≤ x.toNat := Nat.div_mul_le_self _ _
  omega
theorem times_over (x : BitVec 128) (d : BitVec 64) (hd : d ≠ 0#64) : BitVec.carry 128 ((x / zx d) * (0#64 ++ d)) (0#64 ++ BitVec.ofNat 64 (x.toNat % d.toNat)) false = false := by
  rw [carry_iff]
  refine decide_eq_false ?_
  rw [small_rem x d hd, show (0#64 ++ d : BitVec 128) = zx d from rfl, BitVec.toNat_mul, BitVec.toNat_udiv, BitVec.toNat_umod]
  have e := Nat.div_add_mod' x.toNat (zx d).toNat
  have := x.isLt
  have h2 : x.toNat / (zx d).toNat * (zx d).toNat ≤ x.toNat := Nat.div_mul_le_self _ _
  rw [Nat.mod_eq_of_lt (show _ < 2 ^ 128 by omega), Bool.toNat_false]
  omega
theorem small_lt (x : BitVec 128) (d : BitVec 64) (hd : d ≠ 0#64) : BitVec.ofNat 64 (x.toNat % d.toNat) < d := by
  have h0 : 0 < d.toNat := y_pos hd
  have := Nat.mod_lt x.toNat h0
  have := d.isLt
  rw [BitVec.lt_def, BitVec.toNat_ofNat, Nat.mod_eq_of_lt (show x.toNat % d.toNat < 2 ^ 64 by omega)]; assumption
end Go.Eng
