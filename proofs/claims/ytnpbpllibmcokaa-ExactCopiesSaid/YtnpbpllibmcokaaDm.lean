/- Long division of two digits by one: plain facts on numbers. Conditions: none. -/
import Derived.Test.YtnpbpllibmcokaaWm
import Derived.Lib.BitFns
namespace Go.Eng
/-- One digit's guess: u, d the number ahead, y1, y0 the divisor's halves, q the guess, r what is left of u. -/
structure Guess (u d y1 y0 q r : Nat) : Prop where
  heq : q * y1 + r = u
  hge : (u * 4294967296 + d) / (y1 * 4294967296 + y0) ≤ q
  hr : r < 4294967296
  hq : q ≤ 4294967297
structure Digits (u d y1 y0 : Nat) : Prop where
  hy1lo : 2147483648 ≤ y1
  hy1hi : y1 < 4294967296
  hy0 : y0 < 4294967296
  hd : d < 4294967296
  hu : u < y1 * 4294967296 + y0
theorem Digits.small {u d y1 y0 : Nat} (h : Digits u d y1 y0) : (u * 4294967296 + d) / (y1 * 4294967296 + y0) < 4294967296 := by
  have := h.hu; have := h.hd; have := h.hy1lo
  rw [Nat.div_lt_iff_lt_mul (by omega)]
  omega
theorem Digits.start {u d y1 y0 : Nat} (h : Digits u d y1 y0) : Guess u d y1 y0 (u / y1) (u % y1) := by
  have h1 := h.hy1lo; have h2 := h.hy1hi; have h3 := h.hy0; have h4 := h.hd; have h5 := h.hu
  refine ⟨Nat.div_add_mod' u y1, ?_, Nat.lt_trans (Nat.mod_lt _ (by omega)) h2, ?_⟩
  · -- the quotient by more is less
    apply Nat.le_of_lt_succ
    rw [Nat.div_lt_iff_lt_mul (by omega), Nat.succ_eq_add_one]
    have hm : u < (u / y1 + 1) * y1 := by
      have := Nat.div_add_mod' u y1; have := Nat.mod_lt u (show y1 > 0 by omega); rw [Nat.add_mul]; omega
    generalize u / y1 + 1 = k at *
    have : (u + 1) * 4294967296 ≤ k * y1 * 4294967296 := Nat.mul_le_mul_right _ hm
    rw [Nat.mul_add, ← Nat.mul_assoc]
    omega
  · apply Nat.le_of_lt_succ
    rw [Nat.div_lt_iff_lt_mul (by omega)]
    omega
theorem Guess.done {u d y1 y0 q r : Nat} (h : Guess u d y1 y0 q r) (hD : Digits u d y1 y0) (hc : q * y0 ≤ 4294967296 * r + d) : q = (u * 4294967296 + d) / (y1 * 4294967296 + y0) := by
  have h1 := hD.hy1lo
  apply Nat.le_antisymm _ h.hge
  rw [Nat.le_div_iff_mul_le (by omega), Nat.mul_add, ← Nat.mul_assoc]
  have := h.heq
  omega
theorem Guess.more {u d y1 y0 q r : Nat} (h : Guess u d y1 y0 q r) (hD : Digits u d y1 y0) (hc : 4294967296 ≤ q ∨ 4294967296 * r + d < q * y0) : (u * 4294967296 + d) / (y1 * 4294967296 + y0) < q := by
  have h1 := hD.hy1lo
  rcases hc with hc | hc
  · exact Nat.lt_of_lt_of_le hD.small hc
  · rw [Nat.div_lt_iff_lt_mul (by omega), Nat.mul_add, ← Nat.mul_assoc]
    have := h.heq
    omega
theorem Guess.next {u d y1 y0 q r : Nat} (h : Guess u d y1 y0 q r) (hD : Digits u d y1 y0) (hc : 4294967296 ≤ q ∨ 4294967296 * r + d < q * y0) :
    1 ≤ q ∧ (q - 1) * y1 + (r + y1) = u ∧ (u * 4294967296 + d) / (y1 * 4294967296 + y0) ≤ q - 1 ∧ q - 1 ≤ 4294967296 := by
  have h1 := h.more hD hc
  have h2 := h.hq
  have h3 := h.heq
  have h0 := Nat.zero_le ((u * 4294967296 + d) / (y1 * 4294967296 + y0))
  refine ⟨by omega, ?_, by omega, by omega⟩
  obtain ⟨k, rfl⟩ : ∃ k, q = k + 1 := ⟨q - 1, by omega⟩
  rw [Nat.add_mul] at h3
  simp only [Nat.add_sub_cancel]
  omega
theorem guess_break {u d y1 y0 q r : Nat} (hD : Digits u d y1 y0) (he : q * y1 + r = u) (hg : (u * 4294967296 + d) / (y1 * 4294967296 + y0) ≤ q) (hq : q ≤ 4294967296) (hr : 4294967296 ≤ r) : q = (u * 4294967296 + d) / (y1 * 4294967296 + y0) := by
  have h1 := hD.hy1lo; have h3 := hD.hy0
  apply Nat.le_antisymm _ hg
  rw [Nat.le_div_iff_mul_le (by omega), Nat.mul_add, ← Nat.mul_assoc]
  have : q * y0 ≤ 4294967296 * y0 := Nat.mul_le_mul_right _ hq
  omega

/-! ### The same on words of 64 bits -/
def qd (u d y : BitVec 64) : Nat := (u.toNat * 4294967296 + d.toNat) / y.toNat
structure DigB (u d y1 y0 y : BitVec 64) : Prop where
  hy : y.toNat = y1.toNat * 4294967296 + y0.toNat
  hD : Digits u.toNat d.toNat y1.toNat y0.toNat
def GuessB (u d y1 y0 q r : BitVec 64) : Prop := Guess u.toNat d.toNat y1.toNat y0.toNat q.toNat r.toNat
section
variable {u d y1 y0 y q r : BitVec 64}
theorem DigB.start (h : DigB u d y1 y0 y) : GuessB u d y1 y0 (u / y1) (u - (u / y1) * y1) := by
  have h1 := h.hD.start
  unfold GuessB
  have e : (u - (u / y1) * y1).toNat = u.toNat % y1.toNat := by
    have hm := Nat.div_add_mod' u.toNat y1.toNat
    rw [BitVec.toNat_sub, BitVec.toNat_mul, BitVec.toNat_udiv]
    have := u.isLt
    generalize u.toNat / y1.toNat * y1.toNat = p at *
    generalize u.toNat % y1.toNat = m at *
    omega
  rw [e, BitVec.toNat_udiv]
  exact h1
theorem DigB.qy0 (h : DigB u d y1 y0 y) (hq : q.toNat < 4294967296) : (q * y0).toNat = q.toNat * y0.toNat := by
  have := h.hD.hy0
  rw [BitVec.toNat_mul, Nat.mod_eq_of_lt]
  calc q.toNat * y0.toNat ≤ 4294967295 * y0.toNat := Nat.mul_le_mul_right _ (by omega)
    _ < 2 ^ 64 := by omega
theorem DigB.rd (h : DigB u d y1 y0 y) (hr : r.toNat < 4294967296) : (4294967296#64 * r + d).toNat = 4294967296 * r.toNat + d.toNat := by
  have := h.hD.hd
  rw [BitVec.toNat_add, BitVec.toNat_mul, show (4294967296#64).toNat = 4294967296 from rfl]
  omega
theorem GuessB.qlt (hq : ¬ 4294967296#64 ≤ q) : q.toNat < 4294967296 := by
  simp only [BitVec.le_def, show (4294967296#64).toNat = 4294967296 from rfl] at hq; omega
theorem GuessB.done (h : DigB u d y1 y0 y) (g : GuessB u d y1 y0 q r) (hq : ¬ 4294967296#64 ≤ q) (hc : ¬ (4294967296#64 * r + d) < q * y0) : q.toNat = qd u d y := by
  have hq' := GuessB.qlt hq
  rw [BitVec.lt_def, h.qy0 hq', h.rd g.hr] at hc
  unfold qd; rw [h.hy]
  exact Guess.done g h.hD (by omega)
theorem GuessB.next (h : DigB u d y1 y0 y) (g : GuessB u d y1 y0 q r) (hc : 4294967296#64 ≤ q ∨ (4294967296#64 * r + d) < q * y0) :
    (q - 1#64).toNat = q.toNat - 1 ∧ 1 ≤ q.toNat ∧ (r + y1).toNat = r.toNat + y1.toNat ∧ (q.toNat - 1) * y1.toNat + (r.toNat + y1.toNat) = u.toNat ∧ (u.toNat * 4294967296 + d.toNat) / (y1.toNat * 4294967296 + y0.toNat) ≤ q.toNat - 1 ∧ q.toNat - 1 ≤ 4294967296 := by
  have hc' : 4294967296 ≤ q.toNat ∨ 4294967296 * r.toNat + d.toNat < q.toNat * y0.toNat := by
    by_cases hq : 4294967296#64 ≤ q
    · left; simpa only [BitVec.le_def, show (4294967296#64).toNat = 4294967296 from rfl] using hq
    · right
      rcases hc with hc | hc
      · exact absurd hc hq
      · rwa [BitVec.lt_def, h.qy0 (GuessB.qlt hq), h.rd g.hr] at hc
  obtain ⟨n1, n2, n3, n4⟩ := Guess.next g h.hD hc'
  have h1 := h.hD.hy1hi; have h2 := g.hr; have h3 := q.isLt
  refine ⟨?_, n1, ?_, n2, n3, n4⟩
  · rw [BitVec.toNat_sub, show (1#64).toNat = 1 from rfl]; omega
  · rw [BitVec.toNat_add]; omega
theorem GuessB.again (h : DigB u d y1 y0 y) (g : GuessB u d y1 y0 q r) (hc : 4294967296#64 ≤ q ∨ (4294967296#64 * r + d) < q * y0) (hr : ¬ 4294967296#64 ≤ r + y1) : GuessB u d y1 y0 (q - 1#64) (r + y1) ∧ (q - 1#64).toNat < q.toNat := by
  obtain ⟨e1, n1, e2, n2, n3, n4⟩ := g.next h hc
  have hr' := GuessB.qlt hr
  refine ⟨⟨by rw [e1, e2]; exact n2, by rw [e1]; exact n3, hr', by rw [e1]; omega⟩, by omega⟩
theorem GuessB.brk (h : DigB u d y1 y0 y) (g : GuessB u d y1 y0 q r) (hc : 4294967296#64 ≤ q ∨ (4294967296#64 * r + d) < q * y0) (hr : 4294967296#64 ≤ r + y1) : (q - 1#64).toNat = qd u d y := by
  obtain ⟨e1, n1, e2, n2, n3, n4⟩ := g.next h hc
  have hr' : 4294967296 ≤ (r + y1).toNat := by simpa only [BitVec.le_def, show (4294967296#64).toNat = 4294967296 from rfl] using hr
  rw [e1]; unfold qd; rw [h.hy]
  exact guess_break h.hD n2 n3 n4 (by omega)
theorem left_aux {a b p m : Nat} (h : p + m = a * 4294967296 + b) (hm : m < 2 ^ 64) : (2 ^ 64 - p % 2 ^ 64 + ((a * 4294967296 % 2 ^ 64 + b) % 2 ^ 64)) % 2 ^ 64 = m := by omega
/-- What is left. -/
theorem DigB.left (h : DigB u d y1 y0 y) (hq : q.toNat = qd u d y) : (u * 4294967296#64 + d - q * y).toNat = (u.toNat * 4294967296 + d.toNat) % y.toNat := by
  have h1 := h.hD.hy1lo; have hy := h.hy
  have hm := Nat.div_add_mod (u.toNat * 4294967296 + d.toNat) y.toNat
  have hlt := Nat.mod_lt (u.toNat * 4294967296 + d.toNat) (show y.toNat > 0 by omega)
  rw [Nat.mul_comm] at hm
  rw [BitVec.toNat_sub, BitVec.toNat_add, BitVec.toNat_mul, BitVec.toNat_mul, hq, show (4294967296#64).toNat = 4294967296 from rfl]
  unfold qd
  exact left_aux hm (Nat.lt_trans hlt y.isLt)
end

theorem bl_spec : ∀ (x : Nat), x < 2 ^ 64 → x < 2 ^ Lib.bitLen x ∧ (x ≠ 0 → 1 ≤ Lib.bitLen x ∧ 2 ^ (Lib.bitLen x - 1) ≤ x) ∧ Lib.bitLen x ≤ 64 := by
  have key : ∀ (f x : Nat), f ≤ 64 → x < 2 ^ f → x < 2 ^ Lib.bitLen x ∧ (x ≠ 0 → 1 ≤ Lib.bitLen x ∧ 2 ^ (Lib.bitLen x - 1) ≤ x) ∧ Lib.bitLen x ≤ f := by
    intro f
    induction f with
    | zero =>
      intro x _ hx
      have : x = 0 := by simpa using hx
      subst this
      have h0 : Lib.bitLen 0 = 0 := by decide +kernel
      rw [h0]
      exact ⟨by decide, fun h => absurd rfl h, by decide⟩
    | succ f ih =>
      intro x hf hx
      by_cases h0 : x = 0
      · subst h0
        have h0 : Lib.bitLen 0 = 0 := by decide +kernel
        rw [h0]
        exact ⟨by decide, fun h => absurd rfl h, by omega⟩
      · have hx64 : x < 2 ^ 64 := Nat.lt_of_lt_of_le hx (Nat.pow_le_pow_right (by decide) hf)
        rw [Lib.bitLen_half x h0 hx64]
        obtain ⟨i1, i2, i3⟩ := ih (x / 2) (by omega) (by rw [Nat.pow_succ] at hx; omega)
        refine ⟨?_, fun _ => ⟨by omega, ?_⟩, by omega⟩
        · rw [Nat.pow_add]; omega
        · rw [Nat.add_sub_cancel_left]
          by_cases h2 : x / 2 = 0
          · have : x = 1 := by omega
            subst this; decide +kernel
          · obtain ⟨j1, j2⟩ := i2 h2
            have : 2 ^ Lib.bitLen (x / 2) = 2 * 2 ^ (Lib.bitLen (x / 2) - 1) := by
              rw [← Nat.pow_succ']; congr 1; omega
            omega
  exact fun x hx => key 64 x (Nat.le_refl _) hx

/-! ### Normalising -/
def lz (y : BitVec 64) : Nat := 64 - Lib.bitLen y.toNat
def sh (y : BitVec 64) : BitVec 64 := BitVec.ofNat 64 (lz y)
theorem sh_toNat (y : BitVec 64) : (sh y).toNat = lz y := by
  unfold sh; rw [BitVec.toNat_ofNat, Nat.mod_eq_of_lt]; unfold lz; omega
def dy (y : BitVec 64) : BitVec 64 := y <<< (sh y).toNat
def dy1 (y : BitVec 64) : BitVec 64 := dy y >>> 32
def dy0 (y : BitVec 64) : BitVec 64 := dy y &&& 4294967295#64
def un (h l y : BitVec 64) : BitVec 64 := h <<< (sh y).toNat ||| l >>> (64#64 - sh y).toNat
def u10 (l y : BitVec 64) : BitVec 64 := l <<< (sh y).toNat
def d1 (l y : BitVec 64) : BitVec 64 := u10 l y >>> 32
def d0 (l y : BitVec 64) : BitVec 64 := u10 l y &&& 4294967295#64
def qb (u d y : BitVec 64) : BitVec 64 := BitVec.ofNat 64 (qd u d y)
def rb (u d y : BitVec 64) : BitVec 64 := u * 4294967296#64 + d - qb u d y * y
theorem qb_of {u d y q : BitVec 64} (h : q.toNat = qd u d y) : q = qb u d y := by
  unfold qb; rw [← h, BitVec.ofNat_toNat, BitVec.setWidth_eq]
theorem and_mask (x : BitVec 64) : (x &&& 4294967295#64).toNat = x.toNat % 4294967296 := by
  rw [BitVec.toNat_and, show (4294967295#64).toNat = 2 ^ 32 - 1 from rfl, Nat.and_two_pow_sub_one_eq_mod]
theorem shr32 (x : BitVec 64) : (x >>> 32).toNat = x.toNat / 4294967296 := by
  rw [BitVec.toNat_ushiftRight, Nat.shiftRight_eq_div_pow]
theorem lz_facts {y : BitVec 64} (hy : y ≠ 0#64) : lz y ≤ 63 ∧ 2 ^ 63 ≤ y.toNat * 2 ^ lz y ∧ y.toNat * 2 ^ lz y < 2 ^ 64 := by
  have h0 : y.toNat ≠ 0 := fun e => hy (BitVec.eq_of_toNat_eq (by simpa using e))
  obtain ⟨b1, b2, b3⟩ := bl_spec y.toNat y.isLt
  obtain ⟨b4, b5⟩ := b2 h0
  unfold lz
  generalize Lib.bitLen y.toNat = b at *
  refine ⟨by omega, ?_, ?_⟩
  · calc 2 ^ 63 = 2 ^ (b - 1) * 2 ^ (64 - b) := by rw [← Nat.pow_add]; congr 1; omega
      _ ≤ y.toNat * 2 ^ (64 - b) := Nat.mul_le_mul_right _ b5
  · calc y.toNat * 2 ^ (64 - b) < 2 ^ b * 2 ^ (64 - b) := Nat.mul_lt_mul_of_pos_right b1 (Nat.two_pow_pos _)
      _ = 2 ^ 64 := by rw [← Nat.pow_add]; congr 1; omega
theorem dy_toNat {y : BitVec 64} (hy : y ≠ 0#64) : (dy y).toNat = y.toNat * 2 ^ lz y := by
  unfold dy
  rw [BitVec.toNat_shiftLeft, sh_toNat, Nat.shiftLeft_eq, Nat.mod_eq_of_lt (lz_facts hy).2.2]
theorem shl_split (a : Nat) {s : Nat} (hs : s ≤ 64) : a * 2 ^ s = a / 2 ^ (64 - s) * 2 ^ 64 + (a * 2 ^ s) % 2 ^ 64 := by
  have e : (2 : Nat) ^ 64 = 2 ^ (64 - s) * 2 ^ s := by rw [← Nat.pow_add]; congr 1; omega
  have h1 := Nat.div_add_mod (a * 2 ^ s) (2 ^ 64)
  have h2 : a * 2 ^ s / 2 ^ 64 = a / 2 ^ (64 - s) := by rw [e, Nat.mul_div_mul_right _ _ (Nat.two_pow_pos s)]
  rw [h2, Nat.mul_comm] at h1
  exact h1.symm
theorem un_toNat {h l y : BitVec 64} (hy : y ≠ 0#64) (hlt : h < y) : (un h l y).toNat = h.toNat * 2 ^ lz y + l.toNat / 2 ^ (64 - lz y) := by
  obtain ⟨f1, f2, f3⟩ := lz_facts hy
  have e1 : (64#64 - sh y).toNat = 64 - lz y := by
    rw [BitVec.toNat_sub, sh_toNat, show (64#64).toNat = 64 from rfl]; omega
  have hl : h.toNat * 2 ^ lz y < 2 ^ 64 := Nat.lt_of_le_of_lt (Nat.mul_le_mul_right _ (Nat.le_of_lt (BitVec.lt_def.1 hlt))) f3
  unfold un
  rw [BitVec.toNat_or, BitVec.toNat_shiftLeft, BitVec.toNat_ushiftRight, sh_toNat, e1, Nat.shiftLeft_eq, Nat.mod_eq_of_lt hl, Nat.shiftRight_eq_div_pow]
  rw [← Nat.shiftLeft_eq, Nat.shiftLeft_add_eq_or_of_lt]
  have := l.isLt
  rw [Nat.div_lt_iff_lt_mul (Nat.two_pow_pos _), ← Nat.pow_add]
  rwa [show lz y + (64 - lz y) = 64 from by omega]
theorem u10_toNat (l y : BitVec 64) : (u10 l y).toNat = l.toNat * 2 ^ lz y % 2 ^ 64 := by
  unfold u10; rw [BitVec.toNat_shiftLeft, sh_toNat, Nat.shiftLeft_eq]
/-- The two words moved up together. -/
theorem both {h l y : BitVec 64} (hy : y ≠ 0#64) (hlt : h < y) : (un h l y).toNat * 2 ^ 64 + (u10 l y).toNat = (h.toNat * 2 ^ 64 + l.toNat) * 2 ^ lz y := by
  obtain ⟨f1, _, _⟩ := lz_facts hy
  have h1 := shl_split l.toNat (show lz y ≤ 64 by omega)
  rw [un_toNat hy hlt, u10_toNat, Nat.add_mul, Nat.add_mul, Nat.mul_right_comm h.toNat (2 ^ lz y)]
  omega
theorem dig1 {h l y : BitVec 64} (hy : y ≠ 0#64) (hlt : h < y) : DigB (un h l y) (d1 l y) (dy1 y) (dy0 y) (dy y) := by
  obtain ⟨f1, f2, f3⟩ := lz_facts hy
  have e := dy_toNat hy
  have e1 : (dy1 y).toNat = (dy y).toNat / 4294967296 := shr32 _
  have e0 : (dy0 y).toNat = (dy y).toNat % 4294967296 := and_mask _
  have ed : (d1 l y).toNat = (u10 l y).toNat / 4294967296 := shr32 _
  have hu := (u10 l y).isLt
  have hD := (dy y).isLt
  have hb : (un h l y).toNat < (dy y).toNat := by
    rw [e]
    have hb := both (l := l) hy hlt
    have hl := l.isLt
    have hlt' := BitVec.lt_def.1 hlt
    have : (h.toNat * 2 ^ 64 + l.toNat) * 2 ^ lz y < y.toNat * 2 ^ lz y * 2 ^ 64 := by
      rw [Nat.mul_right_comm]
      exact Nat.mul_lt_mul_of_pos_right (by omega) (Nat.two_pow_pos _)
    omega
  refine ⟨by omega, ⟨by omega, by omega, by omega, by omega, by omega⟩⟩
theorem dig2 {h l y : BitVec 64} (hy : y ≠ 0#64) (hlt : h < y) : DigB (rb (un h l y) (d1 l y) (dy y)) (d0 l y) (dy1 y) (dy0 y) (dy y) := by
  have g := dig1 (l := l) hy hlt
  have h3 := g.left (q := qb (un h l y) (d1 l y) (dy y)) (by
    unfold qb; rw [BitVec.toNat_ofNat, Nat.mod_eq_of_lt]
    have := g.hD.small; rw [← g.hy] at this; unfold qd; omega)
  have hy1 := g.hD.hy1lo
  have hyy := g.hy
  have hlt := Nat.mod_lt ((un h l y).toNat * 4294967296 + (d1 l y).toNat) (show (dy y).toNat > 0 by omega)
  have ed : (d0 l y).toNat = (u10 l y).toNat % 4294967296 := and_mask _
  refine ⟨g.hy, ⟨g.hD.hy1lo, g.hD.hy1hi, g.hD.hy0, by omega, ?_⟩⟩
  rw [← g.hy]
  unfold rb
  rw [h3]; exact hlt
theorem qb_toNat {u d y1 y0 y : BitVec 64} (g : DigB u d y1 y0 y) : (qb u d y).toNat = (u.toNat * 4294967296 + d.toNat) / y.toNat := by
  unfold qb; rw [BitVec.toNat_ofNat, Nat.mod_eq_of_lt]; · rfl
  have := g.hD.small; rw [← g.hy] at this; unfold qd; omega
theorem rb_toNat {u d y1 y0 y : BitVec 64} (g : DigB u d y1 y0 y) : (rb u d y).toNat = (u.toNat * 4294967296 + d.toNat) % y.toNat :=
  g.left (by rw [qb_toNat g]; rfl)
theorem two_step (A b y : Nat) (hy : 0 < y) : (A * 4294967296 + b) / y = A / y * 4294967296 + (A % y * 4294967296 + b) / y ∧ (A * 4294967296 + b) % y = (A % y * 4294967296 + b) % y := by
  have h := Nat.div_add_mod A y
  have e : A * 4294967296 + b = (A % y * 4294967296 + b) + y * (A / y * 4294967296) := by
    rw [← Nat.mul_assoc]
    generalize A / y = q at *
    generalize A % y = r at *
    omega
  constructor
  · rw [e, Nat.add_mul_div_left _ _ hy]
    omega
  · rw [e, Nat.add_mul_mod_self_left]
theorem eA_aux (a u : Nat) : (a * 4294967296 + u / 4294967296) * 4294967296 + u % 4294967296 = a * 2 ^ 64 + u := by omega
theorem fin_q {a q1 q2 : Nat} (h : a = q1 * 4294967296 + q2) : (q1 * 4294967296 % 2 ^ 64 + q2) % 2 ^ 64 = a % 2 ^ 64 := by omega
theorem hat_eq {h l y : BitVec 64} (hy : y ≠ 0#64) (hlt : h < y) : ((un h l y).toNat * 4294967296 + (d1 l y).toNat) * 4294967296 + (d0 l y).toNat = (h.toNat * 2 ^ 64 + l.toNat) * 2 ^ lz y := by
  have ed1 : (d1 l y).toNat = (u10 l y).toNat / 4294967296 := shr32 _
  have ed0 : (d0 l y).toNat = (u10 l y).toNat % 4294967296 := and_mask _
  rw [ed1, ed0, eA_aux, both hy hlt]
theorem y_pos {y : BitVec 64} (hy : y ≠ 0#64) : 0 < y.toNat := by
  rcases Nat.eq_zero_or_pos y.toNat with h0 | h0
  · exact absurd (BitVec.eq_of_toNat_eq h0) hy
  · exact h0
theorem div_nat {h l y : BitVec 64} (hy : y ≠ 0#64) (hlt : h < y) :
    (h.toNat * 2 ^ 64 + l.toNat) / y.toNat = (qb (un h l y) (d1 l y) (dy y)).toNat * 4294967296 + (qb (rb (un h l y) (d1 l y) (dy y)) (d0 l y) (dy y)).toNat ∧
    (h.toNat * 2 ^ 64 + l.toNat) % y.toNat * 2 ^ lz y = (rb (rb (un h l y) (d1 l y) (dy y)) (d0 l y) (dy y)).toNat := by
  have g1 := dig1 (l := l) hy hlt
  have g2 := dig2 (l := l) hy hlt
  have eA := hat_eq (l := l) hy hlt
  have eD := dy_toNat hy
  have hp : 0 < (dy y).toNat := by rw [eD]; exact Nat.mul_pos (y_pos hy) (Nat.two_pow_pos _)
  obtain ⟨t1, t2⟩ := two_step ((un h l y).toNat * 4294967296 + (d1 l y).toNat) (d0 l y).toNat (dy y).toNat hp
  rw [eA, eD, Nat.mul_div_mul_right _ _ (Nat.two_pow_pos _), ← eD] at t1
  rw [eA, eD, Nat.mul_mod_mul_right, ← eD] at t2
  rw [t1, t2, qb_toNat g1, qb_toNat g2, rb_toNat g2, rb_toNat g1]
  exact ⟨rfl, rfl⟩
theorem div_q {h l y : BitVec 64} (hy : y ≠ 0#64) (hlt : h < y) :
    qb (un h l y) (d1 l y) (dy y) * 4294967296#64 + qb (rb (un h l y) (d1 l y) (dy y)) (d0 l y) (dy y) = BitVec.ofNat 64 ((h.toNat * 2 ^ 64 + l.toNat) / y.toNat) := by
  apply BitVec.eq_of_toNat_eq
  rw [BitVec.toNat_add, BitVec.toNat_mul, BitVec.toNat_ofNat (_ / _) 64, show (4294967296#64).toNat = 4294967296 from rfl]
  exact fin_q (div_nat hy hlt).1
theorem div_r {h l y : BitVec 64} (hy : y ≠ 0#64) (hlt : h < y) :
    (rb (un h l y) (d1 l y) (dy y) * 4294967296#64 + d0 l y - qb (rb (un h l y) (d1 l y) (dy y)) (d0 l y) (dy y) * dy y) >>> (sh y).toNat = BitVec.ofNat 64 ((h.toNat * 2 ^ 64 + l.toNat) % y.toNat) := by
  apply BitVec.eq_of_toNat_eq
  have e := (div_nat (l := l) hy hlt).2
  unfold rb at e
  rw [BitVec.toNat_ushiftRight, sh_toNat, Nat.shiftRight_eq_div_pow]
  unfold rb
  rw [← e, Nat.mul_div_cancel _ (Nat.two_pow_pos _), BitVec.toNat_ofNat]
  exact (Nat.mod_eq_of_lt (Nat.lt_trans (Nat.mod_lt _ (y_pos hy)) y.isLt)).symm

theorem dy1_ne {y : BitVec 64} (hy : y ≠ 0#64) : dy1 y ≠ 0#64 := by
  intro e
  have h1 : (dy1 y).toNat = (dy y).toNat / 4294967296 := shr32 _
  have h2 := dy_toNat hy
  obtain ⟨f1, f2, f3⟩ := lz_facts hy
  rw [e] at h1
  simp at h1
  omega
theorem div_small_q {h l y : BitVec 64} (e : h = 0#64) : l / y = BitVec.ofNat 64 ((h.toNat * 2 ^ 64 + l.toNat) / y.toNat) := by
  subst e
  apply BitVec.eq_of_toNat_eq
  rw [BitVec.toNat_udiv, BitVec.toNat_ofNat (_ / _) 64, BitVec.toNat_zero, Nat.zero_mul, Nat.zero_add]
  exact (Nat.mod_eq_of_lt (Nat.lt_of_le_of_lt (Nat.div_le_self _ _) l.isLt)).symm
theorem div_small_r {h l y : BitVec 64} (e : h = 0#64) : l % y = BitVec.ofNat 64 ((h.toNat * 2 ^ 64 + l.toNat) % y.toNat) := by
  subst e
  apply BitVec.eq_of_toNat_eq
  rw [BitVec.toNat_umod, BitVec.toNat_ofNat (_ % _) 64, BitVec.toNat_zero, Nat.zero_mul, Nat.zero_add]
  exact (Nat.mod_eq_of_lt (Nat.lt_of_le_of_lt (Nat.mod_le _ _) l.isLt)).symm
end Go.Eng
