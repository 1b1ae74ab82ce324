/- Words of 128 bits, multiplied and divided bit by bit: plain facts on bits. Conditions: none. -/
import Derived.Test.YtdgejbbelmhbdaaDoorMm
namespace Go.Eng
def partQ (x d : BitVec 128) (k : Nat) : BitVec 128 := BitVec.ofNat 128 (x.toNat / 2 ^ k / d.toNat * 2 ^ k)
def partL (x d : BitVec 128) (k : Nat) : BitVec 128 := BitVec.ofNat 128 (x.toNat / 2 ^ k % d.toNat)
def partS (x d : BitVec 128) (m : Nat) : BitVec 128 := BitVec.ofNat 128 (2 * (x.toNat / 2 ^ (m + 1) % d.toNat) + x.toNat / 2 ^ m % 2)
section
variable {x d : BitVec 128} {m k : Nat}
theorem part_top (x : BitVec 128) : x.toNat / 2 ^ 128 = 0 := Nat.div_eq_of_lt x.isLt
theorem partQ_top (x d : BitVec 128) : rowF (fun _ => false) = rowF (BitVec.getLsbD (partQ x d 128)) := rowF_ext fun j _ => by
  unfold partQ; rw [part_top x, Nat.zero_div, Nat.zero_mul]; simp
theorem partL_top (x d : BitVec 128) : rowF (fun _ => false) = rowF (BitVec.getLsbD (partL x d 128)) := rowF_ext fun j _ => by
  unfold partL; rw [part_top x, Nat.zero_mod]; simp
theorem partL_toNat (hd : d ≠ 0#128) : (partL x d k).toNat = x.toNat / 2 ^ k % d.toNat ∧ (partL x d k).toNat < d.toNat := by
  have h0 : 0 < d.toNat := by
    rcases Nat.eq_zero_or_pos d.toNat with h | h
    · exact absurd (BitVec.eq_of_toNat_eq h) hd
    · exact h
  have h1 := Nat.mod_lt (x.toNat / 2 ^ k) h0
  have := d.isLt
  unfold partL
  rw [BitVec.toNat_ofNat, Nat.mod_eq_of_lt (by omega)]
  exact ⟨rfl, h1⟩
theorem part_half (x : BitVec 128) (m : Nat) : x.toNat / 2 ^ m = 2 * (x.toNat / 2 ^ (m + 1)) + x.toNat / 2 ^ m % 2 := by
  rw [Nat.pow_succ, ← Nat.div_div_eq_div_mul]; omega
theorem partS_row (hd : d ≠ 0#128) : rowF (upd (BitVec.getLsbD (shiftI (partL x d (m + 1)) 1)) 0 (x.getLsbD m)) = rowF (BitVec.getLsbD (partS x d m)) := rowF_ext fun j hj => by
  have hL := (partL_toNat (x := x) (k := m + 1) hd).1
  have hb : x.getLsbD m = decide (x.toNat / 2 ^ m % 2 = 1) := by unfold BitVec.getLsbD; rw [Nat.testBit_eq_decide_div_mod_eq]
  unfold upd
  have hS : (partS x d m).getLsbD j = (2 * (x.toNat / 2 ^ (m + 1) % d.toNat) + x.toNat / 2 ^ m % 2).testBit j := by
    unfold partS; rw [BitVec.getLsbD_ofNat, decide_eq_true hj, Bool.true_and]
  rw [hS]
  by_cases h : j = 0
  · subst h
    rw [if_pos rfl, hb, Nat.testBit_zero]; congr 1; simp only [eq_iff_iff]; omega
  · rw [if_neg h, ← shiftI_pos (by omega), show (1 : Int).toNat = 1 from rfl, BitVec.getLsbD_shiftLeft, decide_eq_true hj, decide_eq_false (by omega), Bool.not_false, Bool.true_and, Bool.true_and]
    obtain ⟨i, rfl⟩ : ∃ i, j = i + 1 := ⟨j - 1, by omega⟩
    rw [Nat.testBit_succ, show (2 * (x.toNat / 2 ^ (m + 1) % d.toNat) + x.toNat / 2 ^ m % 2) / 2 = x.toNat / 2 ^ (m + 1) % d.toNat from by omega, ← hL]; rfl
theorem part_ge (hd : d ≠ 0#128) (h : d.toNat ≤ 2 * (x.toNat / 2 ^ (m + 1) % d.toNat) + x.toNat / 2 ^ m % 2) :
    x.toNat / 2 ^ m / d.toNat = 2 * (x.toNat / 2 ^ (m + 1) / d.toNat) + 1 ∧ x.toNat / 2 ^ m % d.toNat = 2 * (x.toNat / 2 ^ (m + 1) % d.toNat) + x.toNat / 2 ^ m % 2 - d.toNat := by
  have hl := (partL_toNat (x := x) (k := m + 1) hd)
  rw [hl.1] at hl
  have e := part_half x m
  have e2 := Nat.div_add_mod (x.toNat / 2 ^ (m + 1)) d.toNat
  have hlt := hl.2
  generalize x.toNat / 2 ^ (m + 1) / d.toNat = q at *
  generalize x.toNat / 2 ^ (m + 1) % d.toNat = l at *
  generalize x.toNat / 2 ^ (m + 1) = z at *
  generalize hb : x.toNat / 2 ^ m % 2 = b at *
  have hb2 : b < 2 := by omega
  rw [e]
  have e3 : 2 * z + b = (2 * l + b - d.toNat) + d.toNat * (2 * q + 1) := by
    have e4 : d.toNat * (2 * q + 1) = 2 * (d.toNat * q) + d.toNat := by rw [Nat.mul_add, Nat.mul_one]; congr 1; ac_rfl
    rw [← e2, e4]; omega
  rw [e3]
  constructor
  · rw [Nat.add_mul_div_left _ _ (by omega), Nat.div_eq_of_lt (by omega)]; omega
  · rw [Nat.add_mul_mod_self_left, Nat.mod_eq_of_lt (by omega)]
theorem part_lt (h : 2 * (x.toNat / 2 ^ (m + 1) % d.toNat) + x.toNat / 2 ^ m % 2 < d.toNat) :
    x.toNat / 2 ^ m / d.toNat = 2 * (x.toNat / 2 ^ (m + 1) / d.toNat) ∧ x.toNat / 2 ^ m % d.toNat = 2 * (x.toNat / 2 ^ (m + 1) % d.toNat) + x.toNat / 2 ^ m % 2 := by
  have e := part_half x m
  have e2 := Nat.div_add_mod (x.toNat / 2 ^ (m + 1)) d.toNat
  generalize x.toNat / 2 ^ (m + 1) / d.toNat = q at *
  generalize x.toNat / 2 ^ (m + 1) % d.toNat = l at *
  generalize x.toNat / 2 ^ (m + 1) = z at *
  generalize hb : x.toNat / 2 ^ m % 2 = b at *
  rw [e]
  have e3 : 2 * z + b = (2 * l + b) + d.toNat * (2 * q) := by rw [← e2, Nat.mul_add, show d.toNat * (2 * q) = 2 * (d.toNat * q) from by ac_rfl]; omega
  rw [e3]
  constructor
  · rw [Nat.add_mul_div_left _ _ (by omega), Nat.div_eq_of_lt h]; omega
  · rw [Nat.add_mul_mod_self_left, Nat.mod_eq_of_lt h]
theorem partS_toNat (x d : BitVec 128) (m : Nat) : (partS x d m).toNat = (2 * (x.toNat / 2 ^ (m + 1) % d.toNat) + x.toNat / 2 ^ m % 2) % 2 ^ 128 := by
  unfold partS; rw [BitVec.toNat_ofNat]
theorem part_over (hd : d ≠ 0#128) (h : (partL x d (m + 1)).getLsbD 127 = true) : d.toNat ≤ 2 * (x.toNat / 2 ^ (m + 1) % d.toNat) + x.toNat / 2 ^ m % 2 := by
  have h1 : 2 ^ 127 ≤ (partL x d (m + 1)).toNat := Nat.ge_two_pow_of_testBit h
  rw [(partL_toNat hd).1] at h1
  have := d.isLt
  omega
theorem part_small (hd : d ≠ 0#128) (h : (partL x d (m + 1)).getLsbD 127 = false) : (partS x d m).toNat = 2 * (x.toNat / 2 ^ (m + 1) % d.toNat) + x.toNat / 2 ^ m % 2 := by
  have h1 : (partL x d (m + 1)).toNat < 2 ^ 127 := by
    refine Nat.lt_pow_two_of_testBit _ (fun i hi => ?_)
    by_cases hi2 : i = 127
    · subst hi2; exact h
    · exact BitVec.getLsbD_of_ge _ _ (by omega)
  rw [(partL_toNat hd).1] at h1
  rw [partS_toNat, Nat.mod_eq_of_lt (by omega)]
theorem part_case (hd : d ≠ 0#128) (h : (partL x d (m + 1)).getLsbD 127 = true ∨ (partL x d (m + 1)).getLsbD 127 = false ∧ ¬ partS x d m < d) : d.toNat ≤ 2 * (x.toNat / 2 ^ (m + 1) % d.toNat) + x.toNat / 2 ^ m % 2 := by
  rcases h with h | ⟨h, h2⟩
  · exact part_over hd h
  · rw [BitVec.lt_def, part_small hd h] at h2; omega
theorem partL_take (hd : d ≠ 0#128) (h : (partL x d (m + 1)).getLsbD 127 = true ∨ (partL x d (m + 1)).getLsbD 127 = false ∧ ¬ partS x d m < d) : partS x d m - d = partL x d m := by
  have hc := part_case hd h
  have hl := (partL_toNat (x := x) (k := m) hd)
  have hl2 := (partL_toNat (x := x) (k := m + 1) hd)
  rw [hl2.1] at hl2
  apply BitVec.eq_of_toNat_eq
  have := d.isLt
  rw [BitVec.toNat_sub, partS_toNat, hl.1, (part_ge hd hc).2]
  have h3 := hl2.2
  generalize x.toNat / 2 ^ (m + 1) % d.toNat = l at *
  have hb : x.toNat / 2 ^ m % 2 < 2 := Nat.mod_lt _ (by decide)
  generalize x.toNat / 2 ^ m % 2 = b at *
  omega
theorem partL_keep (hd : d ≠ 0#128) (h : (partL x d (m + 1)).getLsbD 127 = false) (h2 : partS x d m < d) : partS x d m = partL x d m := by
  rw [BitVec.lt_def, part_small hd h] at h2
  apply BitVec.eq_of_toNat_eq
  rw [part_small hd h, (partL_toNat hd).1, (part_lt h2).2]
theorem partQ_keep (hd : d ≠ 0#128) (h : (partL x d (m + 1)).getLsbD 127 = false) (h2 : partS x d m < d) : partQ x d (m + 1) = partQ x d m := by
  rw [BitVec.lt_def, part_small hd h] at h2
  unfold partQ
  rw [(part_lt h2).1, Nat.pow_succ]
  congr 1
  ac_rfl
theorem partQ_take (hm : m < 128) (hd : d ≠ 0#128) (h : (partL x d (m + 1)).getLsbD 127 = true ∨ (partL x d (m + 1)).getLsbD 127 = false ∧ ¬ partS x d m < d) : rowF (upd (BitVec.getLsbD (partQ x d (m + 1))) m true) = rowF (BitVec.getLsbD (partQ x d m)) := rowF_ext fun j hj => by
  have hc := part_case hd h
  have e : ∀ k, (partQ x d k).getLsbD j = (x.toNat / 2 ^ k / d.toNat * 2 ^ k).testBit j := fun k => by
    unfold partQ; rw [BitVec.getLsbD_ofNat, decide_eq_true hj, Bool.true_and]
  rw [e m]
  unfold upd
  rw [e (m + 1), (part_ge hd hc).1, Nat.testBit_mul_two_pow, Nat.testBit_mul_two_pow]
  by_cases h1 : j = m
  · subst h1
    rw [if_pos rfl, Nat.sub_self, Nat.testBit_zero, decide_eq_true (Nat.le_refl j), decide_eq_true (by omega)]; rfl
  · rw [if_neg h1]
    by_cases h2 : m + 1 ≤ j
    · rw [decide_eq_true h2, decide_eq_true (show m ≤ j by omega), show j - m = (j - (m + 1)) + 1 from by omega, Nat.testBit_succ]; congr 2; omega
    · rw [decide_eq_false h2, decide_eq_false (show ¬ m ≤ j by omega)]; rfl
theorem partQ_done (x d : BitVec 128) : partQ x d 0 = x / d := by
  apply BitVec.eq_of_toNat_eq
  unfold partQ
  rw [BitVec.toNat_udiv, Nat.pow_zero, Nat.div_one, Nat.mul_one, BitVec.toNat_ofNat, Nat.mod_eq_of_lt]
  exact Nat.lt_of_le_of_lt (Nat.div_le_self _ _) x.isLt
theorem partL_done (x d : BitVec 128) : partL x d 0 = x % d := by
  apply BitVec.eq_of_toNat_eq
  unfold partL
  rw [BitVec.toNat_umod, Nat.pow_zero, Nat.div_one, BitVec.toNat_ofNat, Nat.mod_eq_of_lt]
  exact Nat.lt_of_le_of_lt (Nat.mod_le _ _) x.isLt
end
end Go.Eng
