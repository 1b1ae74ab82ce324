/- Numbers and rows of layer 6 by definition: NumOk. Conditions: none but those written. -/
import Derived.Test.YtmdjifehblijkaaDoorWt
import Derived.Test.YtmdjifehblijkaaDoorLx
namespace Go.Proofs.YtmdjifehblijkaaDoor
open Go Go.RowKit Go.Eng
/-- a number in a base -/
def intS (t : List UInt8) (b : Int) : TokD × Int :=
  if (parseR t b).2 = 4 ∨ (parseR t b).2 = 3 then ((2, [], 0, 0, 0#128), 4)
  else if (parseR t b).2 ≠ 0 ∨ ((len128 (parseR t b).1 : Nat) : Int) > 63 then ((2, [], 0, 0, 0#128), 7)
  else ((2, [], (((parseR t b).1.toNat : Nat) : Int), 0, 0#128), 0)
/-- a number or a row -/
def numS6 (s : List UInt8) : TokD × Int :=
  if apos s < s.length then ((3, [], 0, (parseV s).1, (parseV s).2.1), (parseV s).2.2)
  else if 2 ≤ s.length ∧ s.take 2 = [48, 120] then intS (s.drop 2) 16 else intS s 10
/-- a token's text -/
def txt6 (d : TokD) : List UInt8 :=
  if d.1 = 0 ∨ d.1 = 1 then d.2.1
  else if d.1 = 2 then (if d.2.2.1 < 0 then [] else textL 10 128 d.2.2.1.toNat)
  else if d.1 = 3 then textV d.2.2.2.1 d.2.2.2.2 else []
theorem len63 {x : BitVec 128} (h : ¬ ((len128 x : Nat) : Int) > 63) : x.toNat < 2 ^ 63 :=
  Nat.lt_of_lt_of_le (len128_spec x).1 (Nat.pow_le_pow_right (by decide) (by omega))
theorem len63_of {x : BitVec 128} (h : x.toNat < 2 ^ 63) : ¬ ((len128 x : Nat) : Int) > 63 := by
  intro hh
  obtain ⟨_, h2, _⟩ := len128_spec x
  have := h2 (by omega)
  have h3 : 2 ^ 63 ≤ 2 ^ (len128 x - 1) := Nat.pow_le_pow_right (by decide) (by omega)
  omega
theorem intS_ok {t : List UInt8} {b : Int} (h : (intS t b).2 = 0) : (parseR t b).1.toNat < 2 ^ 63 ∧ (intS t b).1 = (2, [], (((parseR t b).1.toNat : Nat) : Int), 0, 0#128) := by
  unfold intS at h ⊢
  split at h
  · exact absurd h (by decide)
  rename_i g1; rw [if_neg g1]
  split at h
  · exact absurd h (by decide)
  rename_i g2; rw [if_neg g2]
  exact ⟨len63 (fun hh => g2 (.inr hh)), rfl⟩
theorem dch_fact (b : Nat) (hb : b ≤ 16) {c : UInt8} (h : ∃ d, d < b ∧ c = dch d) : c.toNat < 128 ∧ numR (c.toNat : Int) = true ∧ c ≠ 39 ∧ c ≠ 120 := by
  obtain ⟨d, hd, rfl⟩ := h
  have : ∀ d : Nat, d < 16 → (dch d).toNat < 128 ∧ numR ((dch d).toNat : Int) = true ∧ dch d ≠ 39 ∧ dch d ≠ 120 := by decide +kernel
  exact this d (by omega)
theorem dch_first {c : UInt8} (h : ∃ d, d < 10 ∧ c = dch d) : digR (c.toNat : Int) = true := by
  obtain ⟨d, hd, rfl⟩ := h
  have := dch_dig d hd
  unfold digR; exact decide_eq_true (by omega)
theorem no_tick {s : List UInt8} (h : ∀ c ∈ s, c ≠ 39) : ¬ apos s < s.length := fun hh => h 39 ((apos_mem s).mp hh) rfl
/-- A number's text is the number again. -/
theorem num_again {n : Nat} (h : n < 2 ^ 63) : ∃ (b : UInt8) (r : List UInt8), textL 10 128 n = b :: r ∧ digR (b.toNat : Int) = true ∧ (∀ c ∈ b :: r, c.toNat < 128 ∧ numR (c.toNat : Int) = true) ∧ numS6 (b :: r) = ((2, [], (n : Int), 0, 0#128), 0) := by
  have hn : n < 2 ^ 128 := Nat.lt_trans h (by decide)
  obtain ⟨_, _, n1⟩ := textL_num 10 (by decide) (by decide) 128 n (by decide) hn
  have hall := textL_dch 10 128 n (by decide) (by decide)
  have hx : (BitVec.ofNat 128 n).toNat = n := by rw [BitVec.toNat_ofNat]; exact Nat.mod_eq_of_lt hn
  have p := parse_text 10 (by decide) (by decide) (BitVec.ofNat 128 n)
  rw [hx] at p
  obtain ⟨b, r, e⟩ := List.exists_cons_of_ne_nil n1
  rw [e] at hall p
  refine ⟨b, r, e, dch_first (hall b (by simp)), fun c hc => ⟨(dch_fact 10 (by decide) (hall c hc)).1, (dch_fact 10 (by decide) (hall c hc)).2.1⟩, ?_⟩
  have h0x : ¬ (2 ≤ (b :: r).length ∧ (b :: r).take 2 = [48, 120]) := fun hh => by
    have hm : (120 : UInt8) ∈ b :: r := List.mem_of_mem_take (i := 2) (by rw [hh.2]; simp)
    exact (dch_fact 10 (by decide) (hall 120 hm)).2.2.2 rfl
  unfold numS6
  rw [if_neg (no_tick (fun c hc => (dch_fact 10 (by decide) (hall c hc)).2.2.1)), if_neg h0x]
  have p' : parseR (b :: r) 10 = (BitVec.ofNat 128 n, 0) := p
  unfold intS
  rw [p']
  show (if (0 : Int) = 4 ∨ (0 : Int) = 3 then _ else if (0 : Int) ≠ 0 ∨ _ then _ else _) = _
  rw [if_neg (by decide), if_neg (fun hh => hh.elim (fun h0 => h0 rfl) (fun h1 => len63_of (x := BitVec.ofNat 128 n) (by rw [hx]; exact h) h1))]
  show ((2, [], (((BitVec.ofNat 128 n).toNat : Nat) : Int), 0, 0#128), (0 : Int)) = _
  rw [hx]
/-- A row's text is the row again. -/
theorem row_again {w : Int} {x : BitVec 128} (h : mayB w x = true) : ∃ (b : UInt8) (r : List UInt8), textV w x = b :: r ∧ digR (b.toNat : Int) = true ∧ (∀ c ∈ b :: r, c.toNat < 128 ∧ numR (c.toNat : Int) = true) ∧ numS6 (b :: r) = ((3, [], 0, w, x), 0) := by
  obtain ⟨h1, h2, h3⟩ := may_w h
  have hw : textV w x = textL 10 128 w.toNat ++ 39 :: textL 16 128 x.toNat := by
    unfold textV; rw [if_pos h, List.append_assoc]; rfl
  obtain ⟨_, _, n1⟩ := textL_num 10 (by decide) (by decide) 128 w.toNat (by decide) (Nat.lt_of_le_of_lt (show w.toNat ≤ 128 by omega) (by decide))
  have hall := textL_dch 10 128 w.toNat (by decide) (by decide)
  have hall2 := textL_dch 16 128 x.toNat (by decide) (by decide)
  have hp := parse_textV h
  obtain ⟨b, r, e⟩ := List.exists_cons_of_ne_nil n1
  rw [e] at hw hall
  refine ⟨b, r ++ 39 :: textL 16 128 x.toNat, hw, dch_first (hall b (by simp)), fun c hc => ?_, ?_⟩
  · rw [← List.cons_append, List.mem_append, List.mem_cons (a := c) (b := 39)] at hc
    rcases hc with hc | rfl | hc
    · exact ⟨(dch_fact 10 (by decide) (hall c hc)).1, (dch_fact 10 (by decide) (hall c hc)).2.1⟩
    · exact ⟨by decide, by decide⟩
    · exact ⟨(dch_fact 16 (by decide) (hall2 c hc)).1, (dch_fact 16 (by decide) (hall2 c hc)).2.1⟩
  · rw [hw, List.cons_append] at hp
    unfold numS6
    rw [if_pos ((apos_mem _).mpr (by simp)), hp]
theorem parseV_ok {s : List UInt8} (h : (parseV s).2.2 = 0) : mayB (parseV s).1 (parseV s).2.1 = true := by
  by_cases hg : apos s < s.length ∧ 1 ≤ apos s ∧ apos s ≤ 3 ∧ (parseR (s.take (apos s)) 10).2 = 0 ∧ (parseR (s.drop (apos s + 1)) 16).2 ≠ 3 ∧ (parseR (s.drop (apos s + 1)) 16).2 ≠ 4
  · rw [parseV_good hg] at h ⊢
    split at h
    · rename_i g1; rw [if_pos g1]
      split at h
      · rename_i g2; rw [if_pos g2]; exact g2.2
      · exact absurd h (by decide)
    · exact absurd h (by decide)
  · rw [parseV_bad hg] at h; exact absurd h (by decide)
theorem txt6_num (n : Nat) : txt6 (2, [], (n : Int), 0, 0#128) = textL 10 128 n := by
  unfold txt6
  show (if (2 : Int) = 0 ∨ (2 : Int) = 1 then _ else if (2 : Int) = 2 then (if (n : Int) < 0 then _ else textL 10 128 (n : Int).toNat) else _) = _
  rw [if_neg (by decide), if_pos rfl, if_neg (by omega), Int.toNat_natCast]
theorem txt6_row (w : Int) (x : BitVec 128) : txt6 (3, [], 0, w, x) = textV w x := by
  unfold txt6
  show (if (3 : Int) = 0 ∨ (3 : Int) = 1 then _ else if (3 : Int) = 2 then _ else if (3 : Int) = 3 then textV w x else _) = _
  rw [if_neg (by decide), if_neg (by decide), if_pos rfl]
theorem numOk6 : NumOk numS6 txt6 where
  low := fun d h => by unfold txt6; rw [if_pos h]
  num := fun x h => by
    have key2 : ∀ (t : List UInt8) (b : Int), (intS t b).2 = 0 → ∃ (c : UInt8) (r : List UInt8), txt6 (intS t b).1 = c :: r ∧ digR (c.toNat : Int) = true ∧ (∀ k ∈ c :: r, k.toNat < 128 ∧ numR (k.toNat : Int) = true) ∧ numS6 (c :: r) = ((intS t b).1, 0) := fun t b hi => by
      obtain ⟨i1, i2⟩ := intS_ok hi
      obtain ⟨c, r, q1, q2⟩ := num_again i1
      rw [i2]
      exact ⟨c, r, by rw [txt6_num]; exact q1, q2⟩
    unfold numS6 at h
    by_cases g : apos x < x.length
    · rw [if_pos g] at h
      have hm := parseV_ok h
      obtain ⟨c, r, q1, q2⟩ := row_again hm
      have e : numS6 x = ((3, [], 0, (parseV x).1, (parseV x).2.1), (parseV x).2.2) := by unfold numS6; rw [if_pos g]
      rw [e]
      exact ⟨c, r, by rw [txt6_row]; exact q1, q2.1, q2.2.1, by rw [q2.2.2, h]⟩
    · rw [if_neg g] at h
      by_cases g2 : 2 ≤ x.length ∧ x.take 2 = [48, 120]
      · rw [if_pos g2] at h
        have e : numS6 x = intS (x.drop 2) 16 := by unfold numS6; rw [if_neg g, if_pos g2]
        rw [e]; exact key2 _ _ h
      · rw [if_neg g2] at h
        have e : numS6 x = intS x 10 := by unfold numS6; rw [if_neg g, if_neg g2]
        rw [e]; exact key2 _ _ h
end Go.Proofs.YtmdjifehblijkaaDoor
