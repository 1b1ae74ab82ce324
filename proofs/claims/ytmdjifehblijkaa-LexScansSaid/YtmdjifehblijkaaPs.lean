/- Layer 6: the laws of scans and of remarks. Conditions: none but those written. Program: Try. -/
import Derived.Test.YtmdjifehblijkaaPl
import Derived.Test.YtmdjifehblijkaaLLexScans
namespace Go.Proofs.Ytmdjifehblijkaa
open Go Go.RowKit Go.Eng
theorem alike_s (N : Nat) (a : Int) (b : List UInt8) (c d : Int) (e : BitVec 128) (f g : Int) : shunterlaw06_alike_m N a b c d e f a b c d e g = some true := by
  unfold shunterlaw06_alike_m
  rw [if_pos rfl, if_pos rfl, if_pos rfl]; simp
theorem scans_l4 (N : Nat) (hN : 100 < N) (r3 : R6 × Sum25) (r12 : R6 × Int × Int) (h : r3.1 = r12.1) (hl : r3.1.length ≤ 100000) : ∀ (m f i : Nat), r3.1.length ≤ i + m → m < f → shunterlaw06_LexScans_l4 N r3 r12 f (i : Int) = some true := by
  intro m
  induction m with
  | zero =>
    intro f i hm hf
    obtain ⟨f, rfl⟩ : ∃ n, f = n + 1 := ⟨f - 1, by omega⟩
    rw [shunterlaw06_LexScans_l4, if_neg (by omega), lives_s N hN]; rfl
  | succ m ih =>
    intro f i hm hf
    obtain ⟨f, rfl⟩ : ∃ n, f = n + 1 := ⟨f - 1, by omega⟩
    by_cases hi : i < r3.1.length
    · rw [shunterlaw06_LexScans_l4, ← h, if_pos (by omega), ck_pos _ (by omega), ck_pos _ (by omega), alike_s, Option.bind_some, if_pos rfl, ck_pos _ (by omega), ck_pos _ (by omega), if_neg (fun hh => hh rfl), ck_pos _ (by omega), show (i : Int) + 1 = ((i + 1 : Nat) : Int) by omega]
      exact ih f (i + 1) (by omega) (by omega)
    · rw [shunterlaw06_LexScans_l4, if_neg (by omega), lives_s N hN]; rfl
theorem scans_k (N : Nat) (s : List UInt8) (hs : s.length ≤ 100000) (hN : s.length + 100 < N) : shunterlaw06_LexScans_k1 N s = some true := by
  unfold shunterlaw06_LexScans_k1
  rw [pscan_s N s hs (by omega), Option.bind_some]
  have hl := scanL_len s
  by_cases h : (scanL numS6 s).2.2 = 0
  · have eo : out6 [] (scanL numS6 s) = ((scanL numS6 s).1.map flat6, 0, 0) := by unfold out6; rw [if_neg (fun hh => hh h)]; rfl
    rw [out_ok h]
    show ((shunterref06_Scan_m N s).bind fun r12 => _) = _
    rw [refscan_s N s hs (by omega), Option.bind_some, eo, show lex_Why_v1_m N = some (0, 0) from rfl, Option.bind_some]
    rw [if_neg (fun hh => hh rfl), if_neg (fun hh => hh rfl), if_neg (fun hh => hh rfl), if_neg (fun hh => hh rfl)]
    exact scans_l4 N (by omega) _ _ rfl (by rw [List.length_map]; omega) s.length N 0 (by rw [List.length_map]; omega) (by omega)
  · have eo : out6 [] (scanL numS6 s) = ([], (scanL numS6 s).2.1, (scanL numS6 s).2.2) := by unfold out6; rw [if_pos h]
    rw [out_bad h]
    show ((shunterref06_Scan_m N s).bind fun r13 => _) = _
    rw [refscan_s N s hs (by omega), Option.bind_some, eo, show lex_Why_v2_m N (scanL numS6 s).2.2 (scanL numS6 s).2.1 = some ((scanL numS6 s).2.2, (scanL numS6 s).2.1) from rfl, Option.bind_some]
    rw [if_neg (fun hh => hh rfl), if_neg (fun hh => hh rfl), if_neg (fun hh => hh rfl), if_neg (fun hh => hh (by symm; exact beq_eq_false_iff_ne.mpr h))]
    unfold shunterlaw06_LexScans_k5
    obtain ⟨f, rfl⟩ : ∃ n, N = n + 1 := ⟨N - 1, by omega⟩
    rw [shunterlaw06_LexScans_l7, if_neg (by simp), lives_s _ (by omega)]; rfl
theorem scans_s (N : Nat) (hN : 30000 < N) (s : List UInt8) : shunterlaw06_LexScans_m N s = some true := by
  unfold shunterlaw06_LexScans_m
  have hl := lives_s N (by omega)
  by_cases h1 : (s.length : Int) > 1500
  · rw [if_pos h1]
    by_cases h2 : (s.length : Int) ≤ 16384
    · rw [if_pos h2, hl]; rfl
    · rw [if_neg h2]
      by_cases h3 : (s.length : Int) > 20000
      · rw [if_pos h3, hl]; rfl
      · rw [if_neg h3]; exact scans_k N s (by omega) (by omega)
  · rw [if_neg h1, if_neg (by omega)]; exact scans_k N s (by omega) (by omega)
end Go.Proofs.Ytmdjifehblijkaa
