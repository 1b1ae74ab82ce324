/- Layer 6: the law of texts. Conditions: none but those written. Program: Tryd. -/
import Derived.Test.YtmdjifehblijkaaDoorPx
import Derived.Test.YtmdjifehblijkaaDoorLLexTexts
namespace Go.Proofs.YtmdjifehblijkaaDoor
open Go Go.RowKit Go.Eng
theorem texts_k6 (N : Nat) (l m1 : R6) (i : Nat) (hi : i < l.length) (hl : l.length ≤ 60) (hI : ∀ r ∈ l, I64 r.2.2.1) (h2 : l[i].2.1.length ≤ 200) (rec' : R6 → List UInt8 → Int → Option Bool) (w : List UInt8) (hw : w.length ≤ 1000000) :
    shunterlaw06_LexTexts_k6 N l m1 (i : Int) rec' w = rec' (m1 ++ [l[i]]) (w ++ txt6 (dOf l[i])) ((i + 1 : Nat) : Int) := by
  have hn := hI l[i] (List.getElem_mem hi)
  have ht := txt6_len (d := dOf l[i]) (by show l[i].2.1.length ≤ 2000; omega)
  unfold shunterlaw06_LexTexts_k6
  rw [getI hi, ck_pos _ (by omega), rtext6_s N _ _ _ _ _ _ hn, Option.bind_some]
  have ed : txt6 (l[i].1, l[i].2.1, l[i].2.2.1, l[i].2.2.2.1, l[i].2.2.2.2.1) = txt6 (dOf l[i]) := rfl
  rw [ed, ck_pos _ (by omega), ptext_s N _ _ _ _ _ _ (by omega) hn, Option.bind_some, ck_pos _ (by omega), Option.bind_some, ed, if_neg (fun hh => hh rfl), ck_pos _ (by omega)]
  rw [show (i : Int) + 1 = ((i + 1 : Nat) : Int) by omega]
theorem texts_loop (N : Nat) (hN : 30000 < N) (l : R6) (hl : l.length ≤ 60) (hI : ∀ r ∈ l, I64 r.2.2.1) : ∀ (m f i : Nat), l.length ≤ i + m → m < f → i ≤ l.length → (∀ r ∈ l.take i, r.2.1.length ≤ 200) →
    shunterlaw06_LexTexts_l4 N l f (l.take i) (joinR (l.take i)) (i : Int) = some true := by
  have hlv := lives_s N (by omega)
  have fin : ∀ i : Nat, (∀ r ∈ l.take i, r.2.1.length ≤ 200) → ((lex_Join_m N (l.take i)).bind fun r57 => if r57 = joinR (l.take i) then (shunterlaw06_lives_m N).bind fun r60 => some r60 else some false) = some true := fun i h => by
    rw [join_s N _ (by rw [List.length_take]; omega) (by omega) (fun r hr => ⟨Nat.le_trans (h r hr) (by decide), hI r (List.mem_of_mem_take hr)⟩), Option.bind_some, if_pos rfl, hlv]; rfl
  intro m
  induction m with
  | zero =>
    intro f i hm hf hi h
    obtain ⟨f, rfl⟩ : ∃ n, f = n + 1 := ⟨f - 1, by omega⟩
    rw [shunterlaw06_LexTexts_l4, if_neg (by omega)]
    exact fin i h
  | succ m ih =>
    intro f i hm hf hi h
    obtain ⟨f, rfl⟩ : ∃ n, f = n + 1 := ⟨f - 1, by omega⟩
    by_cases hlt : i < l.length
    · rw [shunterlaw06_LexTexts_l4, getI hlt, if_pos (by omega), ck_pos _ (by omega)]
      by_cases h2 : ((l[i].2.1.length : Nat) : Int) > 200
      · rw [if_pos h2, hlv]; rfl
      · have hj := joinR_len (l.take i) (fun r hr => ⟨Nat.le_trans (h r hr) (by decide), hI r (List.mem_of_mem_take hr)⟩)
        have hn := joinR_next l i hlt
        have et : l.take (i + 1) = l.take i ++ [l[i]] := by rw [List.take_add_one, List.getElem?_eq_getElem hlt]; rfl
        rw [List.length_take] at hj
        have next := ih f (i + 1) (by omega) (by omega) (by omega) (fun r hr => by
          rw [et] at hr
          rcases List.mem_append.1 hr with hr | hr
          · exact h r hr
          · rw [List.mem_singleton.1 hr]; omega)
        rw [if_neg h2, ck_pos _ (by omega), ck_pos _ (by omega), ck_pos _ (by omega), ck_pos _ (by omega), ck_pos _ (by omega), ck_pos _ (by simp only [List.length_take, List.length_singleton]; omega)]
        by_cases h0 : i = 0
        · rw [if_pos h0] at hn
          have ej : joinR (l.take i) = [] := by rw [h0]; rfl
          rw [if_neg (by omega), ej, texts_k6 N l _ i hlt hl hI (by omega) _ _ (by simp only [List.length_nil]; omega), List.nil_append, ← hn, ← et]
          exact next
        · rw [if_neg h0] at hn
          rw [if_pos (by omega), ck_pos _ (by simp only [List.length_singleton]; omega), texts_k6 N l _ i hlt hl hI (by omega) _ _ (by simp only [List.length_append, List.length_singleton]; omega), List.append_assoc, List.singleton_append, ← hn, ← et]
          exact next
    · rw [shunterlaw06_LexTexts_l4, if_neg (by omega)]
      exact fin i h
theorem texts_s (N : Nat) (hN : 30000 < N) (l : R6) (hI : ∀ r ∈ l, I64 r.2.2.1) : shunterlaw06_LexTexts_m N l = some true := by
  unfold shunterlaw06_LexTexts_m
  by_cases h : (l.length : Int) > 60
  · rw [if_pos h, lives_s N (by omega)]; rfl
  · rw [if_neg h]
    exact texts_loop N hN l (by omega) hI l.length N 0 (by omega) (by omega) (Nat.zero_le _) (fun r hr => by cases hr)
end Go.Proofs.YtmdjifehblijkaaDoor
