/- What the models of parsing and writing digits answer. Conditions: none. -/
import Derived.Test.YtmdjifehblijkaaDoorParse
namespace Go.Proofs.YtmdjifehblijkaaDoor
open Go Go.RowKit Go.Eng
theorem ofInt_nat {x : Int} (h : 0 ≤ x) (h2 : x < 18446744073709551616) : (BitVec.ofInt 64 x).toNat = x.toNat := by
  rw [BitVec.toNat_ofInt]; omega
def digN (n : Nat) : Nat := if 48 ≤ n ∧ n ≤ 57 then n - 48 else if 97 ≤ n ∧ n ≤ 102 then n - 87 else if 65 ≤ n ∧ n ≤ 70 then n - 55 else 16
def dig (c : UInt8) : Nat := digN c.toNat
theorem digit_all : ∀ n : Nat, n < 256 → word_digit_m 0 (n : Int) = some (digN n : Int) := by decide +kernel
theorem digit_s (N : Nat) (c : UInt8) : word_digit_m N (c.toNat : Int) = some (dig c : Int) := digit_all c.toNat c.toNat_lt
theorem byteAt_get {l : List UInt8} {i : Nat} (h : i < l.length) : byteAt l (i : Int) = ((l[i]).toNat : Int) := by
  unfold byteAt; rw [Int.toNat_natCast, List.getD_eq_getElem?_getD, List.getElem?_eq_getElem h]; rfl
theorem over_aux {K M p q d : Nat} (f : M ≤ p % K * K + q % K + q / K * K) : M ≤ p * K + q + d := by
  have h1 := Nat.mul_le_mul_right K (Nat.mod_le p K)
  have h2 := Nat.div_add_mod' q K
  omega
theorem behind_s (N : Nat) (a : BitVec 128) (b d : Nat) (hb : b ≤ 16) (hd : d < 16) : word_behind_m N a (b : Int) (d : Int) = some (BitVec.ofNat 128 (a.toNat * b + d), decide (2 ^ 128 ≤ a.toNat * b + d)) := by
  unfold word_behind_m
  have eb : (BitVec.ofInt 64 (b : Int)).toNat = b := by rw [ofInt_nat (by omega) (by omega)]; omega
  have ed : (BitVec.ofInt 64 (d : Int)).toNat = d := by rw [ofInt_nat (by omega) (by omega)]; omega
  generalize hB : BitVec.ofInt 64 (b : Int) = B at *
  generalize hD : BitVec.ofInt 64 (d : Int) = D at *
  have h1 := hi_toNat a
  have h2 := lo_toNat a
  have e1 : (mh (hi a) B).toNat = (hi a).toNat * b / 2 ^ 64 := by rw [mh_toNat, eb]
  have e2 : (mh (lo a) B).toNat = (lo a).toNat * b / 2 ^ 64 := by rw [mh_toNat, eb]
  have e3 : (hi a * B).toNat = (hi a).toNat * b % 2 ^ 64 := by rw [BitVec.toNat_mul, eb]
  have e4 : (lo a * B).toNat = (lo a).toNat * b % 2 ^ 64 := by rw [BitVec.toNat_mul, eb]
  have e5 : a.toNat * b = (hi a).toNat * b * 2 ^ 64 + (lo a).toNat * b := by
    have : a.toNat = (hi a).toNat * 2 ^ 64 + (lo a).toNat := by omega
    rw [this, Nat.add_mul, Nat.mul_right_comm]
  have l1 : (lo a).toNat * b ≤ 2 ^ 64 * 16 := Nat.mul_le_mul (by omega) hb
  have l2 : (hi a).toNat * b ≤ 2 ^ 64 * 16 := Nat.mul_le_mul (by omega) hb
  generalize (hi a).toNat * b = p at *
  generalize (lo a).toNat * b = q at *
  have hx : ((hi a * B) ++ (lo a * B) : BitVec 128).toNat = p % 2 ^ 64 * 2 ^ 64 + q % 2 ^ 64 := by rw [app_toNat, e3, e4]
  have hy : ((mh (lo a) B) ++ (0#64) : BitVec 128).toNat = q / 2 ^ 64 * 2 ^ 64 := by rw [app_toNat, e2]; simp
  have hz : ((0#64) ++ D : BitVec 128).toNat = d := by rw [app_toNat, ed]; simp
  generalize ((hi a * B) ++ (lo a * B) : BitVec 128) = X at *
  generalize ((mh (lo a) B) ++ (0#64) : BitVec 128) = Y at *
  generalize ((0#64) ++ D : BitVec 128) = Z at *
  have hw : X + Y + Z = BitVec.ofNat 128 (a.toNat * b + d) := by
    apply BitVec.eq_of_toNat_eq
    rw [BitVec.toNat_add, BitVec.toNat_add, BitVec.toNat_ofNat, hx, hy, hz, e5]
    omega
  have hc1 : BitVec.carry 128 X Y false = decide (2 ^ 128 ≤ p % 2 ^ 64 * 2 ^ 64 + q % 2 ^ 64 + q / 2 ^ 64 * 2 ^ 64) := by rw [carry_iff, hx, hy, Bool.toNat_false]; exact decide_eq_decide.2 (by omega)
  have hc2 : BitVec.carry 128 (X + Y) Z false = decide (2 ^ 128 ≤ (p % 2 ^ 64 * 2 ^ 64 + q % 2 ^ 64 + q / 2 ^ 64 * 2 ^ 64) % 2 ^ 128 + d) := by rw [carry_iff, BitVec.toNat_add, hx, hy, hz, Bool.toNat_false]; exact decide_eq_decide.2 (by omega)
  rw [hw, hc1, hc2, e5]
  by_cases o : p / 2 ^ 64 = 0
  · rw [if_neg (by intro h; apply h; apply BitVec.eq_of_toNat_eq; rw [e1, o]; rfl)]
    by_cases f : 2 ^ 128 ≤ p % 2 ^ 64 * 2 ^ 64 + q % 2 ^ 64 + q / 2 ^ 64 * 2 ^ 64
    · rw [if_pos (decide_eq_true f)]
      have e6 : 2 ^ 128 ≤ p * 2 ^ 64 + q + d := over_aux (K := 2 ^ 64) (M := 2 ^ 128) f
      rw [decide_eq_true e6]
    · rw [if_neg (fun h => f (of_decide_eq_true h))]
      have e6 : decide (2 ^ 128 ≤ (p % 2 ^ 64 * 2 ^ 64 + q % 2 ^ 64 + q / 2 ^ 64 * 2 ^ 64) % 2 ^ 128 + d) = decide (2 ^ 128 ≤ p * 2 ^ 64 + q + d) := decide_eq_decide.2 (by omega)
      rw [e6]
  · rw [if_pos (by intro h; rw [h] at e1; exact o (by rw [← e1]; rfl))]
    have e6 : 2 ^ 128 ≤ p * 2 ^ 64 + q + d := by clear hw hc1 hc2 hx hy hz e1 e2 e3 e4 eb ed h1 h2; omega
    rw [decide_eq_true e6]
/-- The number of the digits l behind the number n. -/
def numL (b : Nat) (l : List UInt8) (n : Nat) : Nat := l.foldl (fun n c => n * b + dig c) n
/-- What parsing the digits l answers, behind the number n. -/
def parseS (b : Nat) (l : List UInt8) (n : Nat) : BitVec 128 × Int :=
  if l.all (fun c => decide (dig c < b)) then (if 2 ^ 128 ≤ numL b l n then (0#128, 7) else (BitVec.ofNat 128 (numL b l n), 0)) else (0#128, 4)
theorem parseS_bad {b : Nat} {c : UInt8} {l : List UInt8} {n : Nat} (h : b ≤ dig c) : parseS b (c :: l) n = (0#128, 4) := by
  unfold parseS; rw [if_neg]; simp; intro h2; omega
theorem parseS_ok {b : Nat} {c : UInt8} {l : List UInt8} {n : Nat} (h : dig c < b) : parseS b (c :: l) n = parseS b l (n * b + dig c) := by
  unfold parseS; simp only [List.all_cons, h, decide_true, Bool.true_and]; rfl
theorem app_zero : ((0#64) ++ (0#64) : BitVec 128) = 0#128 := rfl
theorem over_next {b : Nat} (hb : 1 ≤ b) {n d : Nat} (m : BitVec 128) (hm : m = BitVec.ofNat 128 n) {v : Bool} (hv : v = decide (2 ^ 128 ≤ n)) : (if v = true then true else decide (2 ^ 128 ≤ m.toNat * b + d)) = decide (2 ^ 128 ≤ n * b + d) := by
  subst hv; subst hm
  have h2 : n ≤ n * b := Nat.le_mul_of_pos_right n hb
  by_cases h : 2 ^ 128 ≤ n
  · rw [if_pos (by simpa using h)]; symm; apply decide_eq_true; omega
  · rw [if_neg (by simpa using h), BitVec.toNat_ofNat, Nat.mod_eq_of_lt (by omega)]
theorem mod_next {b n d : Nat} {m : BitVec 128} (hm : m = BitVec.ofNat 128 n) : BitVec.ofNat 128 (m.toNat * b + d) = BitVec.ofNat 128 (n * b + d) := by
  subst hm
  apply BitVec.eq_of_toNat_eq
  simp only [BitVec.toNat_ofNat]
  rw [Nat.add_mod, Nat.mod_mul_mod, ← Nat.add_mod]
theorem parse_loop (N : Nat) (s : List UInt8) (b : Nat) (h1 : 2 ≤ b) (h2 : b ≤ 16) (hs : s.length ≤ 4611686018427387904) : ∀ (f i n : Nat) (v : Bool) (m m' : BitVec 128), i ≤ s.length → s.length - i < f → v = decide (2 ^ 128 ≤ n) → m = BitVec.ofNat 128 n →
    word_Parse_l5 N s (b : Int) f v (i : Int) m m' = some (parseS b (s.drop i) n) := by
  intro f
  induction f with
  | zero => intro i n v m m' _ h; omega
  | succ f ih =>
    intro i n v m m' hi hf hv hm
    rw [word_Parse_l5]
    by_cases hlt : i < s.length
    · rw [if_pos (by omega), ck_pos _ (by omega), byteAt_get hlt, digit_s]
      have e : s.drop i = s[i] :: s.drop (i + 1) := List.drop_eq_getElem_cons hlt
      rw [e]
      simp only [Option.bind_some]
      by_cases hd : b ≤ dig s[i]
      · rw [if_pos (by omega), parseS_bad hd, app_zero]
      · have hd' : dig s[i] < b := by omega
        rw [if_neg (by omega), behind_s N m b _ h2 (by omega), parseS_ok hd']
        simp only [Option.bind_some]
        have ov := over_next (d := dig s[i]) (show 1 ≤ b by omega) m hm hv
        have nx := ih (i + 1) (n * b + dig s[i]) _ _ m' (by omega) (by omega) ov (mod_next hm)
        rw [← nx]
        cases v
        · rw [if_neg (by decide), if_neg (by decide), ck_pos _ (by omega)]; rfl
        · rw [if_pos rfl, if_pos rfl, ck_pos _ (by omega)]; rfl
    · rw [if_neg (by omega), List.drop_eq_nil_of_le (by omega)]
      subst hv; subst hm
      unfold parseS
      simp only [List.all_nil, if_true, decide_eq_true_eq]
      show _ = some (if 2 ^ 128 ≤ n then _ else _)
      split <;> rfl
/-- What parsing answers. -/
def parseR (s : List UInt8) (b : Int) : BitVec 128 × Int := if b < 2 ∨ 16 < b then (0#128, 1) else if s = [] then (0#128, 3) else parseS b.toNat s 0
theorem mayBase_s (N : Nat) (b : Int) : word_mayBase_m N b = some (decide (2 ≤ b ∧ b ≤ 16)) := by
  unfold word_mayBase_m
  by_cases h1 : b ≥ 2
  · rw [if_pos h1]; congr 1; apply decide_eq_decide.2; omega
  · rw [if_neg h1]; congr 1; symm; apply decide_eq_false; omega
theorem parse_s (N : Nat) (s : List UInt8) (b : Int) (hs : s.length ≤ 4611686018427387904) (hN : s.length < N) : word_Parse_m N s b = some (parseR s b) := by
  unfold word_Parse_m
  rw [mayBase_s]
  simp only [Option.bind_some, decide_eq_true_eq]
  unfold parseR
  by_cases h1 : 2 ≤ b ∧ b ≤ 16
  · have h2 : ¬ (b < 2 ∨ 16 < b) := by omega
    simp only [h1, h2, if_false, and_self, if_true]
    by_cases h3 : s = []
    · simp only [h3, if_true]; rfl
    · simp only [h3, if_false]
      have := parse_loop N s b.toNat (by omega) (by omega) hs N 0 0 false 0#128 0#128 (by omega) (by omega) (by simp) rfl
      rw [show ((b.toNat : Nat) : Int) = b from by omega] at this
      exact this
  · have h2 : (b < 2 ∨ 16 < b) := by omega
    simp only [h1, h2, if_false, if_true]; rfl
theorem small_s (N : Nat) (n : Int) : shunterref01_small_m N n = some (zx (BitVec.ofInt 64 n)) := rfl
theorem smalln (n : Nat) (h : n < 18446744073709551616) : zx (BitVec.ofInt 64 (n : Int)) = BitVec.ofNat 128 n := by
  apply BitVec.eq_of_toNat_eq
  rw [zx_toNat, ofInt_nat (by omega) (by omega), BitVec.toNat_ofNat, Nat.mod_eq_of_lt (by omega), Int.toNat_natCast]
end Go.Proofs.YtmdjifehblijkaaDoor
