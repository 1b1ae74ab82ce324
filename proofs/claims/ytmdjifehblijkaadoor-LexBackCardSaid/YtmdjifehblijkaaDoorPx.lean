/- Layer 6: the texts of tokens, and tokens that are joined: the program's and the reference's are the definition's. Conditions: none but those written. Program: Tryd. -/
import Derived.Test.YtmdjifehblijkaaDoorPl
namespace Go.Proofs.YtmdjifehblijkaaDoor
open Go Go.RowKit Go.Eng
theorem dch10 : ∀ d : Nat, d < 10 → dch d = UInt8.ofNat (48 + d) := by decide
theorem dec_text : ∀ (k n : Nat), 1 ≤ k → n < 10 ^ k → textL 10 k n = Lib.decDigits n
  | 0, _, h, _ => absurd h (by decide)
  | k + 1, n, _, h => by
    rw [textL, Lib.decDigits]
    by_cases h10 : n < 10
    · rw [dif_pos h10, if_pos (Nat.div_eq_of_lt h10), Nat.mod_eq_of_lt h10, dch10 n h10]
    · have hk : 1 ≤ k := by
        refine Nat.one_le_iff_ne_zero.2 fun e => ?_
        subst e; exact h10 (by simpa using h)
      have hd : n / 10 < 10 ^ k := Nat.div_lt_of_lt_mul (by rw [Nat.pow_succ] at h; omega)
      rw [dif_neg h10, if_neg (by omega), dec_text k (n / 10) hk hd, dch10 _ (Nat.mod_lt _ (by decide))]
theorem itoa_s {n : Int} (h0 : 0 ≤ n) (h1 : n ≤ 9223372036854775807) : Lib.itoa n = textL 10 128 n.toNat := by
  unfold Lib.itoa
  rw [if_neg (by omega), dec_text 128 n.toNat (by decide) (Nat.lt_of_lt_of_le (show n.toNat < 9223372036854775808 by omega) (by decide))]
theorem textI10_s {n : Int} (h0 : 0 ≤ n) (h1 : n ≤ 9223372036854775807) : textI 10 ((0#64) ++ (BitVec.ofInt 64 n)) = textL 10 128 n.toNat := by
  obtain ⟨k, rfl⟩ : ∃ k : Nat, n = (k : Int) := ⟨n.toNat, by omega⟩
  have e : ((0#64) ++ (BitVec.ofInt 64 (k : Int)) : BitVec 128) = BitVec.ofNat 128 k := smalln k (by omega)
  unfold textI
  rw [if_pos (by decide), e, BitVec.toNat_ofNat, Nat.mod_eq_of_lt (by omega)]; rfl
theorem textI16_s (x : BitVec 128) : textI 16 x = textL 16 128 x.toNat := by
  unfold textI; rw [if_pos (by decide)]; rfl
theorem vtext_s (N : Nat) (w : Int) (x : BitVec 128) : vec_Text_m N w x = some (textV w x) := by
  unfold vec_Text_m textV
  rw [vmay_s, Option.bind_some]
  by_cases h : mayB w x = true
  · obtain ⟨h1, h2, _⟩ := may_w h
    have h3 := textL_len 10 128 w.toNat
    have h4 := textL_len 16 128 x.toNat
    rw [if_pos h, if_pos h, ck_pos _ (by omega), itoa_s (by omega) (by omega), ck_pos _ (by simp only [List.length_singleton]; omega)]
    unfold vec_Word_m
    rw [Option.bind_some, textI16_s, ck_pos _ (by simp only [List.length_append, List.length_singleton]; omega)]
  · rw [if_neg h, if_neg h]
theorem rmay_s (N : Nat) (w : Int) (x : BitVec 128) : shunterref02_May_m N w x = some (mayB w x) := by
  unfold shunterref02_May_m mayB
  rw [hi_lo]
  by_cases h1 : 1 ≤ w
  · rw [if_pos h1, decide_eq_true h1, Bool.true_and]
    by_cases h2 : w ≤ 128
    · rw [if_pos h2, decide_eq_true h2, Bool.true_and]
    · rw [if_neg h2, decide_eq_false h2, Bool.false_and]
  · rw [if_neg h1, decide_eq_false h1, Bool.false_and]
theorem rtextv_s (N : Nat) (w : Int) (x : BitVec 128) : shunterref02_Text_m N w x = some (textV w x) := by
  unfold shunterref02_Text_m textV
  rw [rmay_s, Option.bind_some]
  by_cases h : mayB w x = true
  · obtain ⟨h1, h2, _⟩ := may_w h
    have h3 := textL_len 10 128 w.toNat
    have h4 := textL_len 16 128 x.toNat
    rw [if_pos h, if_pos h, hi_lo, textI10_s (by omega) (by omega), textI16_s, ck_pos _ (by decide), ck_pos _ (by simp only [List.length_singleton]; omega), ck_pos _ (by decide), ck_pos _ (by simp only [List.length_append, List.length_singleton]; omega)]
  · rw [if_neg h, if_neg h]
def I64 (n : Int) : Prop := -9223372036854775808 ≤ n ∧ n ≤ 9223372036854775807
theorem ptext_s (N : Nat) (k : Int) (s : List UInt8) (n w : Int) (x : BitVec 128) (a : Int) (hs : s.length ≤ 100000) (hn : I64 n) : lex_Text_m N k s n w x a = some (txt6 (k, s, n, w, x)) := by
  have key : ∀ b : Bool, (b = true ↔ k = 0 ∨ k = 1) → lex_Text_k2 N k s n w x b = some (txt6 (k, s, n, w, x)) := fun b hb => by
    unfold lex_Text_k2 txt6
    by_cases h01 : k = 0 ∨ k = 1
    · rw [if_pos (hb.2 h01), clone_s N s hs]
      exact (if_pos (c := k = 0 ∨ k = 1) h01 ▸ rfl)
    · rw [if_neg (fun h => h01 (hb.1 h))]
      refine Eq.trans ?_ (congrArg some (if_neg (c := k = 0 ∨ k = 1) h01).symm)
      show _ = some (if k = 2 then _ else _)
      by_cases h2 : k = 2
      · rw [if_pos h2, if_pos h2]
        by_cases h0 : n ≥ 0
        · rw [if_pos h0, ck_pos _ (show -9223372036854775808 ≤ n ∧ n ≤ 9223372036854775807 from hn), itoa_s h0 hn.2]
          show _ = some (if n < 0 then _ else _)
          rw [if_neg (by omega)]
        · rw [if_neg h0]
          show _ = some (if n < 0 then _ else _)
          rw [if_pos (by omega)]
      · rw [if_neg h2, if_neg h2]
        by_cases h3 : k = 3
        · rw [if_pos h3, vtext_s, Option.bind_some]
          show _ = some (if k = 3 then _ else _)
          rw [if_pos h3]
        · rw [if_neg h3]
          show _ = some (if k = 3 then _ else _)
          rw [if_neg h3]
  unfold lex_Text_m
  by_cases h : k = 0
  · rw [if_pos h]; exact key _ (by rw [beq_iff_eq]; exact ⟨fun h => .inl h, fun _ => h⟩)
  · rw [if_neg h]; exact key _ (by rw [beq_iff_eq]; exact ⟨fun h => .inr h, fun g => g.resolve_left h⟩)
theorem rtext6_s (N : Nat) (k : Int) (s : List UInt8) (n w : Int) (x : BitVec 128) (a : Int) (hn : I64 n) : shunterref06_Text_m N k s n w x a = some (txt6 (k, s, n, w, x)) := by
  have key : ∀ b : Bool, (b = true ↔ k = 0 ∨ k = 1) → shunterref06_Text_k2 N k s n w x b = some (txt6 (k, s, n, w, x)) := fun b hb => by
    unfold shunterref06_Text_k2 txt6
    by_cases h01 : k = 0 ∨ k = 1
    · rw [if_pos (hb.2 h01)]
      exact (if_pos (c := k = 0 ∨ k = 1) h01 ▸ rfl)
    · rw [if_neg (fun h => h01 (hb.1 h))]
      refine Eq.trans ?_ (congrArg some (if_neg (c := k = 0 ∨ k = 1) h01).symm)
      show _ = some (if k = 2 then _ else _)
      by_cases h2 : k = 2
      · rw [if_pos h2, if_pos h2]
        by_cases h0 : n < 0
        · rw [if_pos h0]
          show _ = some (if n < 0 then _ else _)
          rw [if_pos h0]
        · rw [if_neg h0, ck_pos _ (by decide), textI10_s (by omega) hn.2]
          show _ = some (if n < 0 then _ else _)
          rw [if_neg h0]
      · rw [if_neg h2, if_neg h2]
        by_cases h3 : k = 3
        · rw [if_pos h3, rtextv_s, Option.bind_some]
          show _ = some (if k = 3 then _ else _)
          rw [if_pos h3]
        · rw [if_neg h3]
          show _ = some (if k = 3 then _ else _)
          rw [if_neg h3]
  unfold shunterref06_Text_m
  by_cases h : k = 0
  · rw [if_pos h]; exact key _ (by rw [beq_iff_eq]; exact ⟨fun h => .inl h, fun _ => h⟩)
  · rw [if_neg h]; exact key _ (by rw [beq_iff_eq]; exact ⟨fun h => .inr h, fun g => g.resolve_left h⟩)
abbrev Tok6 := Int × List UInt8 × Int × Int × BitVec 128 × Int
def dOf (r : Tok6) : TokD := (r.1, r.2.1, r.2.2.1, r.2.2.2.1, r.2.2.2.2.1)
def joinR (l : R6) : List UInt8 := joinL txt6 (l.map dOf)
/-- What tokens may be for it. -/
def Fair (r : Tok6) : Prop := r.2.1.length ≤ 2000 ∧ I64 r.2.2.1
theorem txt6_len {d : TokD} (h : d.2.1.length ≤ 2000) : (txt6 d).length ≤ 2000 := by
  unfold txt6
  split
  · exact h
  · split
    · split
      · exact Nat.zero_le _
      · exact Nat.le_trans (textL_len _ _ _) (by decide)
    · split
      · unfold textV
        have h3 := textL_len 10 128 d.2.2.2.1.toNat
        have h4 := textL_len 16 128 d.2.2.2.2.toNat
        split
        · simp only [List.length_append, List.length_singleton]; omega
        · exact Nat.zero_le _
      · exact Nat.zero_le _
theorem joinL_snoc (txt : TokD → List UInt8) : ∀ (l : List TokD) (d : TokD), l ≠ [] → joinL txt (l ++ [d]) = joinL txt l ++ 32 :: txt d
  | [], _, h => absurd rfl h
  | [a], d, _ => rfl
  | a :: b :: l, d, _ => by
    have ih := joinL_snoc txt (b :: l) d (by simp)
    show txt a ++ 32 :: joinL txt (b :: l ++ [d]) = (txt a ++ 32 :: joinL txt (b :: l)) ++ 32 :: txt d
    rw [ih, List.append_assoc]; rfl
theorem joinL_len (txt : TokD → List UInt8) : ∀ l : List TokD, (∀ d ∈ l, (txt d).length ≤ 2000) → (joinL txt l).length ≤ l.length * 2001
  | [], _ => Nat.zero_le _
  | [a], h => by have := h a (by simp); show (txt a).length ≤ 1 * 2001; omega
  | a :: b :: l, h => by
    have ih := joinL_len txt (b :: l) (fun d hd => h d (by simp [hd]))
    have ha := h a (by simp)
    show (txt a ++ 32 :: joinL txt (b :: l)).length ≤ (b :: l).length.succ * 2001
    rw [List.length_append, List.length_cons, Nat.succ_mul]; omega
theorem wb_s (N : Nat) (b : List UInt8) (c : UInt8) (h : b.length + 1 ≤ 140737488355328) : strings_Builder_WriteByte_v2b_m N b c = some (b ++ [c]) := by
  unfold strings_Builder_WriteByte_v2b_m strings_Builder_WriteByte_v2_m strings_Builder_copyCheck_v2_m
  rw [Option.bind_some, ck_pos _ rfl, ck_pos _ (show b.length + [c].length ≤ 140737488355328 from h)]
theorem ws_s (N : Nat) (b s : List UInt8) (h : b.length + s.length ≤ 140737488355328) : strings_Builder_WriteString_v2b_m N b s = some ((s.length : Int), b ++ s) := by
  unfold strings_Builder_WriteString_v2b_m strings_Builder_WriteString_v2_m strings_Builder_copyCheck_v2_m
  rw [Option.bind_some, ck_pos _ rfl, ck_pos _ h]
theorem bs_s (N : Nat) (b : List UInt8) (h : b.length ≤ 140737488355328) : strings_Builder_String_v2b_m N b = some b := by
  unfold strings_Builder_String_v2b_m strings_Builder_String_v2_m
  rw [ck_pos _ h]
theorem joinR_len (l : R6) (h : ∀ r ∈ l, Fair r) : (joinR l).length ≤ l.length * 2001 := by
  have := joinL_len txt6 (l.map dOf) (fun d hd => by obtain ⟨r, hr, rfl⟩ := List.mem_map.1 hd; exact txt6_len (h r hr).1)
  rwa [List.length_map] at this
theorem joinR_next (l : R6) (i : Nat) (hi : i < l.length) : joinR (l.take (i + 1)) = if i = 0 then txt6 (dOf l[i]) else joinR (l.take i) ++ 32 :: txt6 (dOf l[i]) := by
  have e : l.take (i + 1) = l.take i ++ [l[i]] := by rw [List.take_add_one, List.getElem?_eq_getElem hi]; rfl
  unfold joinR
  rw [e, List.map_append]
  by_cases h : i = 0
  · subst h; rw [if_pos rfl]; rfl
  · rw [if_neg h]
    refine joinL_snoc txt6 _ _ (fun hh => ?_)
    have := congrArg List.length hh
    rw [List.length_map, List.length_take, List.length_nil] at this; omega
theorem join_loop (N : Nat) (l : R6) (hl : l.length ≤ 2000) (hd : ∀ r ∈ l, Fair r) : ∀ (m f i : Nat), l.length ≤ i + m → m < f → i ≤ l.length → lex_Join_l3 N l f (joinR (l.take i)) (i : Int) = some (joinR l) := by
  intro m
  induction m with
  | zero =>
    intro f i hm hf hi
    obtain ⟨f, rfl⟩ : ∃ n, f = n + 1 := ⟨f - 1, by omega⟩
    have hj := joinR_len l hd
    rw [lex_Join_l3, if_neg (by omega), List.take_of_length_le (by omega), bs_s N _ (by omega)]; rfl
  | succ m ih =>
    intro f i hm hf hi
    obtain ⟨f, rfl⟩ : ∃ n, f = n + 1 := ⟨f - 1, by omega⟩
    by_cases h : i < l.length
    · have hfair := hd l[i] (List.getElem_mem h)
      have hj := joinR_len (l.take i) (fun r hr => hd r (List.mem_of_mem_take hr))
      rw [List.length_take] at hj
      have ht := txt6_len (d := dOf l[i]) hfair.1
      have hn := joinR_next l i h
      rw [lex_Join_l3, if_pos (by omega), ck_pos _ (by omega), getI h]
      rw [ptext_s N _ _ _ _ _ _ (by have := hfair.1; omega) hfair.2, Option.bind_some]
      have ed : txt6 (l[i].1, l[i].2.1, l[i].2.2.1, l[i].2.2.2.1, l[i].2.2.2.2.1) = txt6 (dOf l[i]) := rfl
      rw [ed]
      by_cases h0 : i = 0
      · rw [if_pos h0] at hn
        have ej : joinR (l.take i) = [] := by rw [h0]; rfl
        rw [if_neg (by omega), ej, ws_s N _ _ (by simp only [List.length_nil]; omega), Option.bind_some, ck_pos _ (by omega), show (i : Int) + 1 = ((i + 1 : Nat) : Int) by omega]
        show lex_Join_l3 N l f ([] ++ txt6 (dOf l[i])) _ = _
        rw [List.nil_append, ← hn]
        exact ih f (i + 1) (by omega) (by omega) (by omega)
      · rw [if_neg h0] at hn
        rw [if_pos (by omega), wb_s N _ _ (by omega), Option.bind_some, Option.bind_some, ws_s N _ _ (by rw [List.length_append, List.length_singleton]; omega), Option.bind_some, ck_pos _ (by omega), show (i : Int) + 1 = ((i + 1 : Nat) : Int) by omega]
        show lex_Join_l3 N l f ((joinR (l.take i) ++ [32]) ++ txt6 (dOf l[i])) _ = _
        rw [List.append_assoc, List.singleton_append, ← hn]
        exact ih f (i + 1) (by omega) (by omega) (by omega)
    · have hj := joinR_len l hd
      rw [lex_Join_l3, if_neg (by omega), List.take_of_length_le (by omega), bs_s N _ (by omega)]; rfl
theorem join_s (N : Nat) (l : R6) (hl : l.length ≤ 2000) (hN : 2000 < N) (hd : ∀ r ∈ l, Fair r) : lex_Join_m N l = some (joinR l) :=
  join_loop N l hl hd l.length N 0 (by omega) (by omega) (Nat.zero_le _)
end Go.Proofs.YtmdjifehblijkaaDoor
