/- Sums of bytes by their weights, and what is above 16 bits added below. Conditions: none. -/
import Derived.Test.YtolfjcihohjknaaUt
namespace Go.Proofs.Ytolfjcihohjknaa
open Go Go.RowKit Go.Eng
def psum : Bool → List UInt8 → Nat
  | _, [] => 0
  | e, x :: r => (if e then 256 * x.toNat else x.toNat) + psum (!e) r
def foldN (n : Nat) : Nat := if n = 0 then 0 else (n - 1) % 65535 + 1
theorem foldN_le (n : Nat) : foldN n ≤ 65535 := by unfold foldN; split <;> omega
theorem foldN_id {n : Nat} (h : n ≤ 65535) : foldN n = n := by unfold foldN; split <;> omega
theorem foldN_zero {n : Nat} : foldN n = 0 ↔ n = 0 := by unfold foldN; split <;> omega
theorem foldN_step {n : Nat} (h : 65535 < n) : foldN (n / 65536 + n % 65536) = foldN n := by unfold foldN; split <;> split <;> omega
theorem foldN_eq {a b : Nat} (h : a % 65535 = b % 65535) (hz : a = 0 ↔ b = 0) : foldN a = foldN b := by unfold foldN; split <;> split <;> omega
theorem foldN_mod (n : Nat) : foldN n % 65535 = n % 65535 := by unfold foldN; split <;> omega
theorem foldN_of {a b : Nat} (h : foldN a = foldN b) : a % 65535 = b % 65535 ∧ (a = 0 ↔ b = 0) := by
  refine ⟨by rw [← foldN_mod a, h, foldN_mod], ?_⟩
  rw [← foldN_zero, h, foldN_zero]
theorem foldN_add (a b : Nat) : foldN (a + foldN b) = foldN (a + b) := by
  have h := foldN_mod b
  have hz := @foldN_zero b
  exact foldN_eq (by omega) (by omega)
theorem foldN_addL (a b : Nat) : foldN (foldN a + b) = foldN (a + b) := by rw [Nat.add_comm, foldN_add, Nat.add_comm]
theorem foldN_cong {a b : Nat} (h : foldN a = foldN b) (c : Nat) : foldN (a + c) = foldN (b + c) := by rw [← foldN_addL, h, foldN_addL]
theorem foldN_two {x y : Nat} (hx : x ≤ 65535) (hy : y ≤ 65535) : foldN (x + y) = (x + y) % 65536 + (x + y) / 65536 := by unfold foldN; split <;> omega
theorem foldN_two' {x y : Nat} (hx : x ≤ 65535) (hy : y ≤ 65535) : foldN (x + y) = if x + y < 65536 then x + y else x + y - 65535 := by unfold foldN; split <;> split <;> omega
/-- the weight of a place -/
def wt (e : Bool) (i : Nat) : Nat := if (decide (i % 2 = 0)) = e then 256 else 1
theorem wt_zero (e : Bool) : wt e 0 = if e then 256 else 1 := by cases e <;> rfl
theorem wt_succ (e : Bool) (i : Nat) : wt e (i + 1) = wt (!e) i := by
  unfold wt
  rcases Nat.mod_two_eq_zero_or_one i with h | h
  · have h2 : (i + 1) % 2 = 1 := by omega
    rw [h, h2]; cases e <;> rfl
  · have h2 : (i + 1) % 2 = 0 := by omega
    rw [h, h2]; cases e <;> rfl
theorem psum_cons (e : Bool) (x : UInt8) (r : List UInt8) : psum e (x :: r) = wt e 0 * x.toNat + psum (!e) r := by
  rw [psum, wt_zero]; cases e <;> simp
theorem psum_le (e : Bool) (b : List UInt8) : psum e b ≤ 65280 * b.length := by
  induction b generalizing e with
  | nil => exact Nat.zero_le _
  | cons x r ih =>
    have h := ih (!e)
    have hx := x.toNat_lt
    rw [psum, List.length_cons]
    split <;> omega
theorem psum_app (e : Bool) (a b : List UInt8) : psum e (a ++ b) = psum e a + psum (if a.length % 2 = 0 then e else !e) b := by
  induction a generalizing e with
  | nil => simp [psum]
  | cons x r ih =>
    rw [List.cons_append, psum, psum, ih, Nat.add_assoc]
    have : (if r.length % 2 = 0 then !e else !!e) = (if (x :: r).length % 2 = 0 then e else !e) := by
      rw [List.length_cons, Bool.not_not]
      split <;> split <;> first | rfl | omega
    rw [this]
theorem psum_one (e : Bool) (x : UInt8) : psum e [x] = wt e 0 * x.toNat := by rw [psum_cons]; rfl
theorem psum_put (e : Bool) (b : List UInt8) (i : Nat) (v : UInt8) (hi : i < b.length) : psum e (b.set i v) + wt e i * (b[i]!).toNat = psum e b + wt e i * v.toNat := by
  induction b generalizing e i with
  | nil => exact absurd hi (by simp)
  | cons x r ih =>
    rcases i with _ | i
    · rw [List.set_cons_zero, psum_cons, psum_cons, List.getElem!_cons_zero]; omega
    · rw [List.set_cons_succ, psum_cons, psum_cons, List.getElem!_cons_succ, wt_succ]
      have := ih (!e) i (by simpa using hi)
      omega
theorem psum_zero (e : Bool) (b : List UInt8) : psum e b = 0 ↔ ∀ k, k < b.length → b[k]! = 0 := by
  induction b generalizing e with
  | nil => simp [psum]
  | cons x r ih =>
    rw [psum_cons]
    have hw : 0 < wt e 0 := by rw [wt_zero]; cases e <;> decide
    constructor
    · intro h k hk
      have h1 : wt e 0 * x.toNat = 0 := by omega
      rcases k with _ | k
      · rw [List.getElem!_cons_zero]
        have : x.toNat = 0 := by rcases Nat.mul_eq_zero.mp h1 with h | h <;> omega
        exact UInt8.toNat_inj.mp this
      · rw [List.getElem!_cons_succ]
        exact (ih (!e)).mp (by omega) k (by simpa using hk)
    · intro h
      have h0 : x = 0 := h 0 (by simp)
      have h1 := (ih (!e)).mpr (fun k hk => by have := h (k + 1) (by simpa using hk); rwa [List.getElem!_cons_succ] at this)
      rw [h1, h0]; rfl
/-- the checksum of bytes -/
def csum (b : List UInt8) : UInt16 := UInt16.ofNat (65535 - foldN (psum true b))
theorem csum_n (b : List UInt8) : (csum b).toNat = 65535 - foldN (psum true b) := by
  unfold csum
  rw [UInt16.toNat_ofNat']
  exact Nat.mod_eq_of_lt (by omega)
theorem csum_i (b : List UInt8) : (((csum b).toNat : Nat) : Int) = 65535 - (foldN (psum true b) : Int) := by
  have := csum_n b; have := foldN_le (psum true b); omega
theorem u16_of_n {x : UInt16} {n : Nat} (h : x.toNat = n) : x = UInt16.ofNat n := by
  apply UInt16.toNat_inj.mp
  rw [UInt16.toNat_ofNat', h]
  exact (Nat.mod_eq_of_lt (h ▸ x.toNat_lt)).symm
theorem sub16 (x : UInt16) : ((65535 : UInt16) - x).toNat = 65535 - x.toNat := by
  have := x.toNat_lt
  rw [UInt16.toNat_sub]
  show (2 ^ 16 - x.toNat + 65535) % 2 ^ 16 = _
  omega
theorem foldN_all {a : Nat} (h : foldN a = 65535) : a % 65535 = 0 ∧ 0 < a := by unfold foldN at h; split at h <;> omega
theorem foldN_all' {a : Nat} (h : a % 65535 = 0) (h0 : 0 < a) : foldN a = 65535 := by unfold foldN; split <;> omega
theorem join16 (h l : UInt8) : (sl16 (int16 ((h.toNat : Nat) : Int)) 8 ||| int16 ((l.toNat : Nat) : Int)).toNat = 256 * h.toNat + l.toNat := by
  have h1 := h.toNat_lt; have h2 := l.toNat_lt
  have e1 : (int16 ((h.toNat : Nat) : Int)).toNat = h.toNat := by unfold int16; rw [UInt16.toNat_ofNat']; omega
  have e2 : (int16 ((l.toNat : Nat) : Int)).toNat = l.toNat := by unfold int16; rw [UInt16.toNat_ofNat']; omega
  have e3 : (sl16 (int16 ((h.toNat : Nat) : Int)) 8).toNat = 2 ^ 8 * h.toNat := by
    unfold sl16; rw [UInt16.toNat_ofNat', e1]
    show h.toNat * 256 % 65536 = _
    omega
  rw [UInt16.toNat_or, e2, e3, ← Nat.two_pow_add_eq_or_of_lt (by omega) h.toNat]
theorem split16 (s : UInt16) : (byteI (((sr16 s 8).toNat : Nat) : Int)).toNat = s.toNat / 256 ∧ (byteI ((s.toNat : Nat) : Int)).toNat = s.toNat % 256 := by
  have h := s.toNat_lt
  have e1 : (sr16 s 8).toNat = s.toNat / 256 := by
    unfold sr16; rw [UInt16.toNat_ofNat']
    show s.toNat / 256 % 65536 = _
    omega
  unfold byteI
  rw [UInt8.toNat_ofNat', UInt8.toNat_ofNat', e1]
  omega
/-- two bytes laid at a place -/
theorem psum_two (b : List UInt8) (at' : Nat) (x y : UInt8) (hi : at' + 1 < b.length) (he : at' % 2 = 0) :
    psum true ((b.set at' x).set (at' + 1) y) + (256 * (b[at']!).toNat + (b[at' + 1]!).toNat) = psum true b + (256 * x.toNat + y.toNat) := by
  have h1 := psum_put true b at' x (by omega)
  have h2 := psum_put true (b.set at' x) (at' + 1) y (by rw [List.length_set]; omega)
  have e1 : wt true at' = 256 := by unfold wt; rw [he]; rfl
  have e2 : wt true (at' + 1) = 1 := by unfold wt; rw [show (at' + 1) % 2 = 1 by omega]; rfl
  have e3 : ((b.set at' x)[at' + 1]!) = b[at' + 1]! := by
    rw [List.getElem!_eq_getElem?_getD, List.getElem!_eq_getElem?_getD, List.getElem?_set_ne (by omega)]
  rw [e1] at h1; rw [e2, e3] at h2
  omega
end Go.Proofs.Ytolfjcihohjknaa
