/- Texts of numbers and of rows of bits, there and back; by definition. Conditions: none but those written. -/
import Derived.Test.YtmdjifehblijkaaDoorPaQ
import Derived.Test.YtmdjifehblijkaaDoorTeP
namespace Go.Proofs.YtmdjifehblijkaaDoor
open Go Go.RowKit Go.Eng
theorem textL_len (b : Nat) : ∀ (k n : Nat), (textL b k n).length ≤ k
  | 0, _ => Nat.le_refl _
  | k + 1, n => by
    unfold textL
    split
    · simp
    · have := textL_len b k (n / b)
      simp only [List.length_append, List.length_singleton]; omega
theorem dch_all : ∀ d : Nat, d < 16 → dig (dch d) = d := by decide +kernel
theorem numL_app (b : Nat) (l k : List UInt8) (n : Nat) : numL b (l ++ k) n = numL b k (numL b l n) := by unfold numL; rw [List.foldl_append]
theorem textL_num (b : Nat) (h1 : 2 ≤ b) (h2 : b ≤ 16) : ∀ (k n : Nat), 1 ≤ k → n < 2 ^ k → numL b (textL b k n) 0 = n ∧ (textL b k n).all (fun c => decide (dig c < b)) = true ∧ textL b k n ≠ []
  | 0, _, h, _ => by omega
  | k + 1, n, _, hn => by
    have hr : n % b < b := Nat.mod_lt _ (by omega)
    have hd := dch_all (n % b) (by omega)
    unfold textL
    by_cases h : n / b = 0
    · rw [if_pos h]
      have h3 := Nat.div_add_mod n b
      rw [h, Nat.mul_zero, Nat.zero_add] at h3
      refine ⟨?_, ?_, by simp⟩
      · show 0 * b + dig (dch (n % b)) = n
        rw [hd]; omega
      · simp only [List.all_cons, List.all_nil, Bool.and_true, decide_eq_true_eq]; omega
    · rw [if_neg h]
      have hlt : n / b < 2 ^ k := by
        rw [Nat.div_lt_iff_lt_mul (by omega)]
        calc n < 2 ^ (k + 1) := hn
          _ = 2 ^ k * 2 := Nat.pow_succ ..
          _ ≤ 2 ^ k * b := Nat.mul_le_mul_left _ h1
      have hk : 1 ≤ k := by
        rcases Nat.eq_zero_or_pos k with h3 | h3
        · rw [h3, Nat.pow_zero] at hlt; exact absurd (Nat.lt_one_iff.1 hlt) h
        · exact h3
      obtain ⟨i1, i2, _⟩ := textL_num b h1 h2 k (n / b) hk hlt
      refine ⟨?_, ?_, by simp⟩
      · rw [numL_app, i1]
        show n / b * b + dig (dch (n % b)) = n
        rw [hd]; exact Nat.div_add_mod' n b
      · rw [List.all_append, i2]
        simp only [List.all_cons, List.all_nil, Bool.and_true, Bool.true_and, decide_eq_true_eq]; omega
theorem parse_text (b : Nat) (h1 : 2 ≤ b) (h2 : b ≤ 16) (x : BitVec 128) : parseR (textL b 128 x.toNat) (b : Int) = (x, 0) := by
  obtain ⟨i1, i2, i3⟩ := textL_num b h1 h2 128 x.toNat (by omega) x.isLt
  unfold parseR
  rw [if_neg (by omega), if_neg i3, Int.toNat_natCast]
  unfold parseS
  have hx := x.isLt
  rw [if_pos i2, i1, if_neg (by omega), BitVec.ofNat_toNat, BitVec.setWidth_eq]
def mayB (w : Int) (x : BitVec 128) : Bool := decide (1 ≤ w) && (decide (w ≤ 128) && decide (((len128 x : Nat) : Int) ≤ w))
theorem may_w {w : Int} {x : BitVec 128} (h : mayB w x = true) : 1 ≤ w ∧ w ≤ 128 ∧ ((len128 x : Nat) : Int) ≤ w := by
  simpa [mayB] using h
def apos : List UInt8 → Nat
  | [] => 0
  | c :: l => if c = 39 then 0 else apos l + 1
theorem parseR_err (s : List UInt8) (b : Int) (h : 2 ≤ b ∧ b ≤ 16) : (parseR s b).2 = 0 ∨ (parseR s b = (0#128, 3)) ∨ (parseR s b = (0#128, 4)) ∨ (parseR s b = (0#128, 7)) := by
  unfold parseR
  rw [if_neg (by omega)]
  split
  · exact .inr (.inl rfl)
  · unfold parseS
    split
    · split
      · exact .inr (.inr (.inr rfl))
      · exact .inl rfl
    · exact .inr (.inr (.inl rfl))
theorem numL_lt {b : Nat} : ∀ (l : List UInt8) (n : Nat), l.all (fun c => decide (dig c < b)) = true → numL b l n < (n + 1) * b ^ l.length
  | [], n, _ => by simp [numL]
  | c :: l, n, h => by
    simp only [List.all_cons, Bool.and_eq_true, decide_eq_true_eq] at h
    have ih := numL_lt l (n * b + dig c) h.2
    show numL b l (n * b + dig c) < _
    have h2 : (n * b + dig c + 1) * b ^ l.length ≤ (n * b + b) * b ^ l.length := Nat.mul_le_mul_right _ (by omega)
    have h3 : (n + 1) * b ^ (l.length + 1) = (n * b + b) * b ^ l.length := by
      rw [Nat.pow_succ, Nat.mul_comm (b ^ l.length) b, ← Nat.mul_assoc, Nat.add_mul, Nat.one_mul]
    simp only [List.length_cons]
    omega
theorem parseR_small {s : List UInt8} (h3 : s.length ≤ 3) : (parseR s 10).1.toNat < 1000 := by
  unfold parseR
  rw [if_neg (by decide)]
  split
  · decide
  · unfold parseS
    have e10 : (10 : Int).toNat = 10 := rfl
    rw [e10]
    by_cases ha : s.all (fun c => decide (dig c < 10)) = true
    · rw [if_pos ha]
      have h1 := numL_lt (b := 10) s 0 ha
      have h2 : 10 ^ s.length ≤ 10 ^ 3 := Nat.pow_le_pow_right (by decide) h3
      rw [if_neg (by omega)]
      show (BitVec.ofNat 128 _).toNat < 1000
      rw [BitVec.toNat_ofNat, Nat.mod_eq_of_lt (by omega)]
      omega
    · rw [if_neg ha]; decide
/-- What parsing a row's text answers. -/
def parseV (s : List UInt8) : Int × BitVec 128 × Int :=
  if apos s < s.length ∧ 1 ≤ apos s ∧ apos s ≤ 3 ∧ (parseR (s.take (apos s)) 10).2 = 0 ∧ (parseR (s.drop (apos s + 1)) 16).2 ≠ 3 ∧ (parseR (s.drop (apos s + 1)) 16).2 ≠ 4 then
    let w : Int := ((parseR (s.take (apos s)) 10).1.toNat : Int)
    let x := parseR (s.drop (apos s + 1)) 16
    if 1 ≤ w ∧ w ≤ 128 then (if x.2 = 0 ∧ mayB w x.1 = true then (w, x.1, 0) else (0, 0#128, 7)) else (0, 0#128, 9)
  else (0, 0#128, 4)
theorem parseV_bad {s : List UInt8} (h : ¬ (apos s < s.length ∧ 1 ≤ apos s ∧ apos s ≤ 3 ∧ (parseR (s.take (apos s)) 10).2 = 0 ∧ (parseR (s.drop (apos s + 1)) 16).2 ≠ 3 ∧ (parseR (s.drop (apos s + 1)) 16).2 ≠ 4)) : parseV s = (0, 0#128, 4) := if_neg h
theorem parseV_good {s : List UInt8} (h : apos s < s.length ∧ 1 ≤ apos s ∧ apos s ≤ 3 ∧ (parseR (s.take (apos s)) 10).2 = 0 ∧ (parseR (s.drop (apos s + 1)) 16).2 ≠ 3 ∧ (parseR (s.drop (apos s + 1)) 16).2 ≠ 4) :
    parseV s = if 1 ≤ ((parseR (s.take (apos s)) 10).1.toNat : Int) ∧ ((parseR (s.take (apos s)) 10).1.toNat : Int) ≤ 128 then (if (parseR (s.drop (apos s + 1)) 16).2 = 0 ∧ mayB ((parseR (s.take (apos s)) 10).1.toNat : Int) (parseR (s.drop (apos s + 1)) 16).1 = true then (((parseR (s.take (apos s)) 10).1.toNat : Int), (parseR (s.drop (apos s + 1)) 16).1, 0) else (0, 0#128, 7)) else (0, 0#128, 9) := if_pos h
theorem lo_small {x : BitVec 128} (h : x.toNat < 1000) : (lo x).toNat = x.toNat := by rw [lo_toNat, Nat.mod_eq_of_lt (by omega)]
/-- A row's text. -/
def textV (w : Int) (x : BitVec 128) : List UInt8 := if mayB w x = true then textL 10 128 w.toNat ++ [39] ++ textL 16 128 x.toNat else []
theorem textL_dch (b : Nat) : ∀ (k n : Nat), 2 ≤ b → b ≤ 16 → ∀ c ∈ textL b k n, ∃ d, d < b ∧ c = dch d
  | 0, _, _, _, c, h => by simp [textL] at h
  | k + 1, n, h1, h2, c, h => by
    have hr : n % b < b := Nat.mod_lt _ (by omega)
    unfold textL at h
    split at h
    · rw [List.mem_singleton] at h; exact ⟨_, hr, h⟩
    · rw [List.mem_append, List.mem_singleton] at h
      rcases h with h | h
      · exact textL_dch b k _ h1 h2 c h
      · exact ⟨_, hr, h⟩
theorem dch_num : ∀ d : Nat, d < 16 → (dch d).toNat < 128 ∧ dch d ≠ 39 ∧ dch d ≠ 120 := by decide +kernel
theorem dch_dig : ∀ d : Nat, d < 10 → 48 ≤ (dch d).toNat ∧ (dch d).toNat ≤ 57 := by decide +kernel
theorem apos_app : ∀ (s r : List UInt8), (∀ c ∈ s, c ≠ 39) → apos (s ++ 39 :: r) = s.length
  | [], r, _ => by rw [List.nil_append, apos, if_pos rfl]; rfl
  | c :: s, r, h => by
    rw [List.cons_append, apos, if_neg (h c (by simp)), apos_app s r (fun c hc => h c (by simp [hc])), List.length_cons]
theorem apos_mem : ∀ s : List UInt8, apos s < s.length ↔ (39 : UInt8) ∈ s
  | [] => by simp [apos]
  | c :: s => by
    have ih := apos_mem s
    rw [apos]
    by_cases h : c = 39
    · rw [if_pos h]; simp [h]
    · rw [if_neg h, List.length_cons, Nat.add_lt_add_iff_right, ih, List.mem_cons]
      exact ⟨.inr, fun h2 => h2.resolve_left (fun e => h e.symm)⟩
theorem text10_len (n : Nat) (h : n ≤ 128) : (textL 10 128 n).length ≤ 3 := by
  have : ∀ n : Nat, n ≤ 128 → (textL 10 128 n).length ≤ 3 := by decide +kernel
  exact this n h
/-- A row's text is parsed again. -/
theorem parse_textV {w : Int} {x : BitVec 128} (h : mayB w x = true) : parseV (textV w x) = (w, x, 0) := by
  obtain ⟨h1, h2, h3⟩ := may_w h
  have hw : textV w x = textL 10 128 w.toNat ++ 39 :: textL 16 128 x.toNat := by
    unfold textV; rw [if_pos h, List.append_assoc]; rfl
  have hne : ∀ c ∈ textL 10 128 w.toNat, c ≠ 39 := fun c hc => by
    obtain ⟨d, hd, rfl⟩ := textL_dch 10 128 _ (by decide) (by decide) c hc
    exact (dch_num d (by omega)).2.1
  have ha := apos_app (textL 10 128 w.toNat) (textL 16 128 x.toNat) hne
  have hl := text10_len w.toNat (by omega)
  obtain ⟨_, _, n1⟩ := textL_num 10 (by decide) (by decide) 128 w.toNat (by decide) (Nat.lt_of_le_of_lt (show w.toNat ≤ 128 by omega) (by decide))
  have hpos := List.length_pos_iff.mpr n1
  have ht : (textL 10 128 w.toNat ++ 39 :: textL 16 128 x.toNat).take (textL 10 128 w.toNat).length = textL 10 128 w.toNat := by simp
  have hd : (textL 10 128 w.toNat ++ 39 :: textL 16 128 x.toNat).drop ((textL 10 128 w.toNat).length + 1) = textL 16 128 x.toNat := by simp
  have hwn : (BitVec.ofNat 128 w.toNat).toNat = w.toNat := by
    rw [BitVec.toNat_ofNat]; exact Nat.mod_eq_of_lt (Nat.lt_of_le_of_lt (show w.toNat ≤ 128 by omega) (by decide))
  have p1 := parse_text 10 (by decide) (by decide) (BitVec.ofNat 128 w.toNat)
  rw [hwn] at p1
  have p1' : parseR (textL 10 128 w.toNat) 10 = (BitVec.ofNat 128 w.toNat, 0) := p1
  have p2 : parseR (textL 16 128 x.toNat) 16 = (x, 0) := parse_text 16 (by decide) (by decide) x
  rw [hw]
  have hg : parseV (textL 10 128 w.toNat ++ 39 :: textL 16 128 x.toNat) = _ := parseV_good (by
    rw [ha, ht, hd, p1', p2]
    exact ⟨by simp, hpos, hl, rfl, (by decide : (0 : Int) ≠ 3), (by decide : (0 : Int) ≠ 4)⟩)
  rw [ha, ht, hd, p1', p2] at hg
  rw [hg, hwn, show ((w.toNat : Nat) : Int) = w by omega, if_pos ⟨h1, h2⟩, if_pos ⟨rfl, h⟩]
end Go.Proofs.YtmdjifehblijkaaDoor
