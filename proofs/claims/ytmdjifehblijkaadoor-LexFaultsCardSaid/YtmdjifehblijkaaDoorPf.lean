/- Layer 6: the law of faults. Conditions: none but those written. Program: Tryd. -/
import Derived.Test.YtmdjifehblijkaaDoorPx
import Derived.Test.YtmdjifehblijkaaDoorLLexFaults
namespace Go.Proofs.YtmdjifehblijkaaDoor
open Go Go.RowKit Go.Eng
theorem rng0 {n : Int} (h : (0 ≤ n ∧ n ≤ 99) := by decide) : 0 ≤ n ∧ n ≤ 99 := h
theorem intS_rng (t : List UInt8) (b : Int) : 0 ≤ (intS t b).2 ∧ (intS t b).2 ≤ 99 := by
  unfold intS
  split
  · exact rng0 (n := 4)
  · split
    · exact rng0 (n := 7)
    · exact rng0 (n := 0)
theorem parseV_rng (t : List UInt8) : 0 ≤ (parseV t).2.2 ∧ (parseV t).2.2 ≤ 99 := by
  unfold parseV
  split
  · dsimp only
    split
    · split
      · exact rng0 (n := 0)
      · exact rng0 (n := 7)
    · exact rng0 (n := 9)
  · exact rng0 (n := 4)
theorem numS6_rng (t : List UInt8) : 0 ≤ (numS6 t).2 ∧ (numS6 t).2 ≤ 99 := by
  unfold numS6
  split
  · exact parseV_rng t
  · split
    · exact intS_rng _ _
    · exact intS_rng _ _
theorem tokL_rng (t : List UInt8) : 0 ≤ (tokL numS6 t).2.1 ∧ (tokL numS6 t).2.1 ≤ 99 := by
  unfold tokL
  split
  · exact rng0 (n := 0)
  · split
    · split
      · exact rng0 (n := 0)
      · exact rng0 (n := 2)
    · split
      · split
        · exact rng0 (n := 0)
        · exact numS6_rng _
      · exact rng0 (n := 4)
theorem scanF_bad (n : Nat) : ∀ (f : Nat) (t : List UInt8), t.length ≤ n → 0 ≤ (scanF numS6 n f t).2.1 ∧ (scanF numS6 n f t).2.1 ≤ (n : Int) ∧ 0 ≤ (scanF numS6 n f t).2.2 ∧ (scanF numS6 n f t).2.2 ≤ 99
  | 0, _, _ => by
    show (0 : Int) ≤ 0 ∧ (0 : Int) ≤ (n : Int) ∧ (0 : Int) ≤ 99 ∧ (99 : Int) ≤ 99
    omega
  | f + 1, t, h => by
    rw [scanF]
    by_cases ht : t = []
    · rw [if_pos ht]
      show (0 : Int) ≤ 0 ∧ (0 : Int) ≤ (n : Int) ∧ (0 : Int) ≤ 0 ∧ (0 : Int) ≤ 99
      omega
    rw [if_neg ht]
    by_cases hz : (tokL numS6 t).2.1 ≠ 0
    · rw [if_pos hz]
      have := tokL_rng t
      show (0 : Int) ≤ (n : Int) - (t.length : Int) ∧ (n : Int) - (t.length : Int) ≤ (n : Int) ∧ 0 ≤ (tokL numS6 t).2.1 ∧ (tokL numS6 t).2.1 ≤ 99
      omega
    rw [if_neg hz]
    have hl := skipR_len false (t.drop (tokL numS6 t).2.2)
    rw [List.length_drop] at hl
    have ih := scanF_bad n f (skipR false (t.drop (tokL numS6 t).2.2)) (by omega)
    split
    · exact ih
    · show (0 : Int) ≤ 0 ∧ (0 : Int) ≤ (n : Int) ∧ (0 : Int) ≤ 0 ∧ (0 : Int) ≤ 99
      omega
theorem scanL_bad (s : List UInt8) : 0 ≤ (scanL numS6 s).2.1 ∧ (scanL numS6 s).2.1 ≤ (s.length : Int) ∧ 0 ≤ (scanL numS6 s).2.2 ∧ (scanL numS6 s).2.2 ≤ 99 := by
  unfold scanL
  split
  · show (0 : Int) ≤ 0 ∧ (0 : Int) ≤ (s.length : Int) ∧ (0 : Int) ≤ 2 ∧ (2 : Int) ≤ 99
    omega
  · exact scanF_bad _ _ _ (skipR_len _ _)
theorem digits_s (N : Nat) {n : Int} (h0 : 0 ≤ n) (h1 : n ≤ 9223372036854775807) : shunterlaw06_digits_m N n = some (textL 10 128 n.toNat) := by
  unfold shunterlaw06_digits_m
  rw [if_neg (by omega), ck_pos _ (by decide), textI10_s h0 h1]
theorem error_s (N : Nat) {e a : Int} (h0 : 0 ≤ e) (h1 : e ≤ 9223372036854775807) (h2 : 0 ≤ a) (h3 : a ≤ 9223372036854775807) :
    lex_Fault_Error_v2_m N e a = some ((([102, 97, 117, 108, 116, 32] ++ textL 10 128 e.toNat) ++ [32, 97, 116, 32]) ++ textL 10 128 a.toNat) := by
  have l1 := textL_len 10 128 e.toNat
  have l2 := textL_len 10 128 a.toNat
  unfold lex_Fault_Error_v2_m
  rw [itoa_s h0 h1, itoa_s h2 h3, ck_pos _ (by omega), ck_pos _ (by simp only [List.length_cons, List.length_nil]; omega), ck_pos _ (by simp only [List.length_append, List.length_cons, List.length_nil]; omega), ck_pos _ (by omega), ck_pos _ (by simp only [List.length_append, List.length_cons, List.length_nil]; omega)]
theorem faults_k2 (N : Nat) (hN : 100 < N) (s : List UInt8) (hs : s.length ≤ 100000) {e a : Int} (h : e ≠ 0) (h0 : 0 ≤ e) (h1 : e ≤ 99) (h2 : 0 ≤ a) (h3 : a ≤ (s.length : Int)) : shunterlaw06_LexFaults_k2 N s e a = some true := by
  have l1 := textL_len 10 128 e.toNat
  have l2 := textL_len 10 128 a.toNat
  unfold shunterlaw06_LexFaults_k2
  rw [show lex_Fault_Error_v1_m N = some [] from rfl, Option.bind_some, if_neg (fun hh => hh rfl), error_s N h0 (by omega) h2 (by omega), Option.bind_some, digits_s N h0 (by omega), Option.bind_some,
    ck_pos _ (by simp only [List.length_cons, List.length_nil]; omega), ck_pos _ (by simp only [List.length_append, List.length_cons, List.length_nil]; omega), digits_s N h2 (by omega), Option.bind_some,
    ck_pos _ (by simp only [List.length_append, List.length_cons, List.length_nil]; omega), if_neg (fun hh => hh rfl)]
  unfold shunterlaw06_LexFaults_k3
  rw [show lex_Only_v1_m N e a = some () from rfl, Option.bind_some, show lex_Why_v2_m N e a = some (e, a) from rfl, Option.bind_some]
  dsimp only
  rw [if_pos rfl, if_pos rfl, if_pos h, if_pos h2, if_pos h3, lives_s N hN]; rfl
theorem faults_k (N : Nat) (s : List UInt8) (hs : s.length ≤ 100000) (hN : s.length + 100 < N) : shunterlaw06_LexFaults_k1 N s = some true := by
  unfold shunterlaw06_LexFaults_k1
  rw [pscan_s N s hs (by omega), Option.bind_some]
  by_cases h : (scanL numS6 s).2.2 = 0
  · rw [out_ok h, onN, show lex_Why_v1_m N = some (0, 0) from rfl, Option.bind_some]
    dsimp only
    rw [if_pos rfl, if_pos rfl, lives_s N (by omega)]; rfl
  · obtain ⟨h1, h2, h3, h4⟩ := scanL_bad s
    rw [out_bad h, onT]
    exact faults_k2 N (by omega) s hs h h3 h4 h1 h2
theorem faults_s (N : Nat) (hN : 30000 < N) (s : List UInt8) : shunterlaw06_LexFaults_m N s = some true := by
  unfold shunterlaw06_LexFaults_m
  have hl := lives_s N (by omega)
  by_cases h1 : (s.length : Int) > 1500
  · rw [if_pos h1]
    by_cases h2 : (s.length : Int) ≤ 16384
    · rw [if_pos h2, hl]; rfl
    · rw [if_neg h2]
      by_cases h3 : (s.length : Int) > 20000
      · rw [if_pos h3, hl]; rfl
      · rw [if_neg h3]; exact faults_k N s (by omega) (by omega)
  · rw [if_neg h1, if_neg (by omega)]; exact faults_k N s (by omega) (by omega)
end Go.Proofs.YtmdjifehblijkaaDoor
