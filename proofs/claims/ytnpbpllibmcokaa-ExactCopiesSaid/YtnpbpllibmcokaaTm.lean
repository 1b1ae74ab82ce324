/- Words by small numbers, and their digits: plain facts. Conditions: none. -/
import Derived.Test.YtnpbpllibmcokaaDm
import Derived.Test.YtnpbpllibmcokaaRm
namespace Go.Eng
open Go Go.RowKit
def zx (d : BitVec 64) : BitVec 128 := 0#64 ++ d
theorem zx_toNat (d : BitVec 64) : (zx d).toNat = d.toNat := by
  unfold zx; rw [app_toNat]; simp
theorem hi_quo (x : BitVec 128) (d : BitVec 64) : hi x / d = hi (x / zx d) := by
  apply BitVec.eq_of_toNat_eq
  rw [hi_toNat, BitVec.toNat_udiv, BitVec.toNat_udiv, hi_toNat, zx_toNat, Nat.div_div_eq_div_mul, Nat.div_div_eq_div_mul, Nat.mul_comm]
theorem mod_small (x : BitVec 128) (d : BitVec 64) : ((hi x % d).toNat * 2 ^ 64 + (lo x).toNat) = x.toNat - (hi x / d).toNat * d.toNat * 2 ^ 64 ∧ (hi x / d).toNat * d.toNat * 2 ^ 64 ≤ x.toNat := by
  rw [BitVec.toNat_umod, BitVec.toNat_udiv, hi_toNat, lo_toNat]
  have h1 := Nat.div_add_mod' (x.toNat / 2 ^ 64) d.toNat
  have h2 := Nat.div_add_mod' x.toNat (2 ^ 64)
  generalize x.toNat / 2 ^ 64 / d.toNat * d.toNat = p at *
  generalize x.toNat / 2 ^ 64 % d.toNat = r at *
  generalize x.toNat / 2 ^ 64 = a at *
  generalize x.toNat % 2 ^ 64 = b at *
  omega
theorem quo_lo (x : BitVec 128) {d : BitVec 64} (hd : d ≠ 0#64) : BitVec.ofNat 64 (((hi x % d).toNat * 2 ^ 64 + (lo x).toNat) / d.toNat) = lo (x / zx d) := by
  have h0 := y_pos hd
  obtain ⟨e, hle⟩ := mod_small x d
  apply BitVec.eq_of_toNat_eq
  rw [BitVec.toNat_ofNat (_ / _) 64, e, lo_toNat, BitVec.toNat_udiv (x := x), zx_toNat]
  have : x.toNat = (x.toNat - (hi x / d).toNat * d.toNat * 2 ^ 64) + d.toNat * ((hi x / d).toNat * 2 ^ 64) := by
    rw [← Nat.mul_assoc, Nat.mul_comm d.toNat]; omega
  generalize hz : x.toNat - (hi x / d).toNat * d.toNat * 2 ^ 64 = z at *
  rw [this, Nat.add_mul_div_left _ _ h0, Nat.add_mul_mod_self_right]
theorem quo_left (x : BitVec 128) {d : BitVec 64} (hd : d ≠ 0#64) : BitVec.ofNat 64 (((hi x % d).toNat * 2 ^ 64 + (lo x).toNat) % d.toNat) = BitVec.ofNat 64 (x.toNat % d.toNat) := by
  have h0 := y_pos hd
  obtain ⟨e, hle⟩ := mod_small x d
  rw [e]
  have : x.toNat = (x.toNat - (hi x / d).toNat * d.toNat * 2 ^ 64) + d.toNat * ((hi x / d).toNat * 2 ^ 64) := by
    rw [← Nat.mul_assoc, Nat.mul_comm d.toNat]; omega
  congr 1
  generalize hz : x.toNat - (hi x / d).toNat * d.toNat * 2 ^ 64 = z at *
  rw [this, Nat.add_mul_mod_self_left]
theorem rem_lt (x y : BitVec 64) (hy : y ≠ 0#64) : x % y < y := by
  rw [BitVec.lt_def, BitVec.toNat_umod]; exact Nat.mod_lt _ (y_pos hy)

/-! ### Digits -/
def dchs : List UInt8 := [48, 49, 50, 51, 52, 53, 54, 55, 56, 57, 97, 98, 99, 100, 101, 102]
def dch (n : Nat) : UInt8 := dchs.getD n 0
/-- The digits of n, at most f of them. -/
def textL (b : Nat) : Nat → Nat → List UInt8
  | 0, _ => []
  | f + 1, n => if n / b = 0 then [dch (n % b)] else textL b f (n / b) ++ [dch (n % b)]
def bytesA (l : List UInt8) : Array Value := (l.map fun c => Value.int .u8 (c.toNat : Int)).toArray
theorem bytesA_size (l : List UInt8) : (bytesA l).size = l.length := by simp [bytesA]
theorem bytesA_set (l : List UInt8) (k : Nat) (c : UInt8) : (bytesA l).setIfInBounds k (.int .u8 (c.toNat : Int)) = bytesA (l.set k c) := by
  simp [bytesA, List.map_set]
theorem splice_byte (l : List UInt8) (k : Nat) (c : UInt8) (h : l.length ≠ 1) : splice (bytesA l) k #[.int .u8 (c.toNat : Int)] = bytesA (l.set k c) := by
  unfold splice
  rw [if_neg (by rw [bytesA_size]; simp; intro _ e; exact h e.symm), if_pos (by simp)]
  exact bytesA_set l k c
theorem stok_byte {P : Program} {e : TypeId} {i : TypeInfo} (hi : P.info? e = some i) (hs : i.size = 1) (l : List UInt8) {k : Nat} (c : UInt8) (hk : k < l.length) : StOk P e (bytesA l) k #[.int .u8 (c.toNat : Int)] :=
  ⟨⟨i, hi, by rw [hs]; rfl⟩, by rw [bytesA_size]; exact hk, fun x hx => by simp at hx; subst hx; rfl⟩
theorem set_digit (m : Nat) (S : List UInt8) (c : UInt8) : (List.replicate (m + 1) 0 ++ S).set m c = List.replicate m 0 ++ (c :: S) := by
  induction m with
  | zero => rfl
  | succ m ih => rw [List.replicate_succ, List.cons_append, List.set_cons_succ, ih, List.replicate_succ, List.cons_append]
theorem zbytes {P : Program} {t : TypeId} {n : Nat} (h : ((P.info? t).bind (·.zero)) = some (.agg ⟨List.replicate n (.int .u8 0)⟩)) : ((P.info? t).bind (·.zero)).map (fun z => (t, z.cells)) = some (t, bytesA (List.replicate n 0)) := by
  rw [h]
  show some (t, (⟨List.replicate n (Value.int .u8 0)⟩ : Array Value)) = _
  unfold bytesA
  rw [List.map_replicate]; rfl
theorem ev_sliceArr {P : Program} {c : Addr → Option Value} {t el : TypeId} {n b : Nat} {i : TypeInfo} (k : Nat) (hu : P.underlying t = some (.array n el)) (hi : P.info? el = some i) (hs : i.size = 1) (hk : k < n) :
    ev P c (Instr.sliceAt t (.pointer (some ⟨b, 0, none⟩)) (some (.int .i64 (k : Int))) none none) = some (.slice (some ⟨b, k, none⟩) (n - k) (n - k)) := by
  have h1 : (0 : Int) ≤ k ∧ (k : Int) ≤ n := by omega
  have hadd : (⟨b, 0, none⟩ : Addr).add k = ⟨b, k, none⟩ := by unfold Addr.add; split <;> simp_all
  have h2 : ¬ n = k := by omega
  unfold Instr.sliceAt
  simp only [ev_bind, ev_underlying hu, Option.bind_some, Instr.sureAddr, ev_pure, Instr.sliceBounds, Instr.sliceBound, asIntOf, if_pos h1, Int.toNat_natCast, ev_sizeOf hi, hs, Nat.mul_one, if_neg h2, hadd]
theorem ev_bytesStr {P : Program} {c : Addr → Option Value} {b k n cap : Nat} (l : List UInt8) (hc : ∀ j, c ⟨b, j, none⟩ = (bytesA l)[j]?) (hn : k + n = l.length) :
    ev P c (Conv.bytesToString (.slice (some ⟨b, k, none⟩) n cap)) = some (.string ⟨(l.drop k).toArray⟩) := by
  have h1 : ev P c (loadCells ⟨b, k, none⟩ n) = some (bytesA (l.drop k)) := by
    unfold loadCells
    rw [ev_cells hc n 0 #[] (by rw [bytesA_size]; omega)]
    congr 1
    apply Array.ext'
    simp only [Array.toList_append, Array.toList_extract, List.extract_eq_take_drop, bytesA, List.nil_append]
    rw [show k + 0 + n - (k + 0) = n from by omega, Nat.add_zero, ← List.map_drop, List.take_of_length_le (by simp; omega)]
  unfold Conv.bytesToString
  rw [ev_bind, h1]
  simp only [Option.bind_some, bytesA, List.forIn_toArray]
  generalize l.drop k = s
  have key : ∀ (g : Value → ByteArray → Sem (ForInStep ByteArray)), (∀ (x : UInt8) r, ev P c (g (.int .u8 (x.toNat : Int)) r) = some (.yield (r.push x))) →
      ∀ (s : List UInt8) (acc : ByteArray), ev P c (forIn (s.map fun c => Value.int .u8 (c.toNat : Int)) acc g) = some ⟨(acc.data.toList ++ s).toArray⟩ := by
    intro g hg s
    induction s with
    | nil => intro acc; simp [ev_pure]
    | cons x s ih =>
      intro acc
      simp only [List.map_cons, List.forIn_cons, ev_bind, hg, Option.bind_some]
      rw [ih]
      simp [ByteArray.push]
  rw [ev_bind, key _ (fun x r => by
    show some (ForInStep.yield (r.push (UInt8.ofNat (x.toNat : Int).toNat))) = _
    rw [Int.toNat_natCast, UInt8.ofNat_toNat])]
  simp [ev_pure, ByteArray.empty, ByteArray.emptyWithCapacity]
  rfl

theorem ev_convBS {P : Program} {c : Addr → Option Value} {src dst e : TypeId} {v w : Value} (h1 : P.underlying src = some (.slice e)) (h2 : P.underlying dst = some .string) (h3 : P.underlying e = some (.int .u8)) {a : Option Addr} {n k : Nat} (hv : v = .slice a n k)
    (h : ev P c (Conv.bytesToString v) = some w) : ev P c (convert src dst v) = some w := by
  subst hv
  unfold convert
  simp only [ev_bind, ev_underlying h1, ev_underlying h2, ev_underlying h3, Option.bind_some, h]
def hexS : ByteArray := ⟨#[48, 49, 50, 51, 52, 53, 54, 55, 56, 57, 97, 98, 99, 100, 101, 102]⟩
theorem hexS_get : ∀ n, n < 16 → hexS[n]? = some (dch n) := by decide
theorem ev_digit {P : Program} {c : Addr → Option Value} {t : TypeId} {d : BitVec 64} (ht : P.underlying t = some .string) (hd : d.toNat < 16) : ev P c (Instr.index t (.string hexS) (U d)) = some (.int .u8 ((dch d.toNat).toNat : Int)) := by
  unfold Instr.index
  have h1 : (0 : Int) ≤ (d.toNat : Int) := by omega
  simp only [ev_bind, asIntOf, ev_pure, ev_underlying ht, Option.bind_some, if_pos h1, Int.toNat_natCast, hexS_get _ hd]
theorem set_digit' {m : Nat} (S : List UInt8) (c : UInt8) (hm : 1 ≤ m) : (List.replicate m 0 ++ S).set (m - 1) c = List.replicate (m - 1) 0 ++ (c :: S) := by
  obtain ⟨k, rfl⟩ : ∃ k, m = k + 1 := ⟨m - 1, by omega⟩
  exact set_digit k S c
theorem drop_rep (m : Nat) (S : List UInt8) : (List.replicate m 0 ++ S).drop m = S := List.drop_left' (by simp)
section
variable {b : Nat}
def db (b : Nat) : BitVec 64 := BitVec.ofNat 64 b
theorem db_toNat (h : b ≤ 16) : (db b).toNat = b := by unfold db; rw [BitVec.toNat_ofNat, Nat.mod_eq_of_lt]; omega
theorem db_ne (h1 : 2 ≤ b) (h : b ≤ 16) : db b ≠ 0#64 := by intro e; have := db_toNat h; rw [e] at this; simp at this; omega
def yq (y : BitVec 128) (b : Nat) : BitVec 128 := y / zx (db b)
def yr (y : BitVec 128) (b : Nat) : BitVec 64 := BitVec.ofNat 64 (y.toNat % (db b).toNat)
theorem yq_toNat (y : BitVec 128) (h : b ≤ 16) : (yq y b).toNat = y.toNat / b := by unfold yq; rw [BitVec.toNat_udiv, zx_toNat, db_toNat h]
theorem yr_toNat (y : BitVec 128) (h1 : 2 ≤ b) (h : b ≤ 16) : (yr y b).toNat = y.toNat % b := by
  unfold yr; rw [db_toNat h, BitVec.toNat_ofNat (_ % _) 64, Nat.mod_eq_of_lt]
  have := Nat.mod_lt y.toNat (show b > 0 by omega); omega
theorem yr_lt (y : BitVec 128) (h1 : 2 ≤ b) (h : b ≤ 16) : (yr y b).toNat < 16 := by
  rw [yr_toNat y h1 h]; have := Nat.mod_lt y.toNat (show b > 0 by omega); omega
theorem text_step {y : BitVec 128} {m : Nat} {S T : List UInt8} (h1 : 2 ≤ b) (h : b ≤ 16) (hm : 1 ≤ m) (hy : y.toNat < 2 ^ m) (hT : T = textL b m y.toNat ++ S) (hne : yq y b ≠ (0#64) ++ (0#64)) :
    T = textL b (m - 1) (yq y b).toNat ++ (dch (yr y b).toNat :: S) ∧ (yq y b).toNat < 2 ^ (m - 1) ∧ 1 ≤ m - 1 := by
  obtain ⟨k, rfl⟩ : ∃ k, m = k + 1 := ⟨m - 1, by omega⟩
  have e := yq_toNat y h
  have hne' : y.toNat / b ≠ 0 := by
    intro e0; apply hne; apply BitVec.eq_of_toNat_eq; rw [e, e0, app_toNat]; simp
  have hlt : y.toNat / b < 2 ^ k := by
    rw [Nat.div_lt_iff_lt_mul (by omega)]
    calc y.toNat < 2 ^ (k + 1) := hy
      _ = 2 ^ k * 2 := Nat.pow_succ ..
      _ ≤ 2 ^ k * b := Nat.mul_le_mul_left _ h1
  refine ⟨?_, by rw [e]; exact hlt, ?_⟩
  · rw [hT, e, yr_toNat y h1 h, Nat.add_sub_cancel, textL, if_neg hne']; simp
  · rcases Nat.eq_zero_or_pos k with h0 | h0
    · rw [h0, Nat.pow_zero] at hlt; exact absurd (Nat.lt_one_iff.1 hlt) hne'
    · omega
theorem text_end {y : BitVec 128} {m : Nat} {S T : List UInt8} (h1 : 2 ≤ b) (h : b ≤ 16) (hm : 1 ≤ m) (hT : T = textL b m y.toNat ++ S) (he : yq y b = (0#64) ++ (0#64)) : dch (yr y b).toNat :: S = T := by
  obtain ⟨k, rfl⟩ : ∃ k, m = k + 1 := ⟨m - 1, by omega⟩
  have e := yq_toNat y h
  rw [he, app_toNat] at e
  simp only [BitVec.toNat_zero, Nat.zero_mul, Nat.add_zero] at e
  rw [hT, textL, if_pos e.symm, yr_toNat y h1 h]; rfl
end
end Go.Eng
