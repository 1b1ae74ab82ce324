/- Layer 7: what is written, and what is read, are the document's. Conditions: fuel. -/
import Derived.Test.YtdgejbbelmhbdaaWq
import Derived.Test.YtdgejbbelmhbdaaBf
namespace Go.Proofs.Ytdgejbbelmhbdaa
open Go Go.RowKit Go.Eng
abbrev OpL := Int × Int × Int × Int × Int × (BitVec 128) × (List UInt8) × (List (Int × BitVec 128)) × (List Int)
/-- an op's bytes -/
def outB (o : OpL) : List UInt8 :=
  if o.1 = 0 then numB o.2.1 1 else if o.1 = 1 then numB o.2.1 2 else if o.1 = 2 then numB o.2.1 4 else if o.1 = 3 then rowB (o.2.2.2.2.1, o.2.2.2.2.2.1)
  else if o.1 = 4 then textB o.2.2.2.2.2.2.1 else if o.1 = 5 then rowsB o.2.2.2.2.2.2.2.1 else if o.1 = 6 then numsB o.2.2.2.2.2.2.2.2 else []
def Light (o : OpL) : Prop := o.2.2.2.2.2.2.2.1.length ≤ 300 ∧ o.2.2.2.2.2.2.2.2.length ≤ 300 ∧ o.2.2.2.2.2.2.1.length ≤ 600
theorem rows_len : ∀ l : List (Int × BitVec 128), (l.flatMap rowB).length ≤ 17 * l.length
  | [] => by simp
  | p :: l => by
    have := rows_len l; have := rowB_len p
    rw [List.flatMap_cons, List.length_append, List.length_cons]; omega
theorem outB_len (o : OpL) (h : Light o) : (outB o).length ≤ 6000 := by
  obtain ⟨h1, h2, h3⟩ := h
  unfold outB
  split
  · rw [numB_len _ _ (.inl rfl)]; decide
  · split
    · rw [numB_len _ _ (.inr (.inl rfl))]; decide
    · split
      · rw [numB_len _ _ (.inr (.inr rfl))]; decide
      · split
        · exact Nat.le_trans (rowB_len _) (by decide)
        · split
          · unfold textB; split
            · decide
            · rw [List.length_cons]; omega
          · split
            · unfold rowsB; split
              · decide
              · have := rows_len o.2.2.2.2.2.2.2.1
                rw [List.length_cons]; omega
            · split
              · unfold numsB; split
                · decide
                · rw [List.length_cons, List.length_map]; omega
              · decide
theorem light_loop (ops : List OpL) (hl : ops.length ≤ 30) : ∀ (k f i : Nat), i + k = ops.length → k < f → ∃ v, shunterlaw07_light_l2 ops f (i : Int) = some v ∧ (v = true → ∀ o ∈ ops.drop i, Light o) := by
  intro k
  induction k with
  | zero =>
    intro f i hi hf
    obtain ⟨f, rfl⟩ : ∃ n, f = n + 1 := ⟨f - 1, by omega⟩
    refine ⟨true, by rw [shunterlaw07_light_l2, if_neg (by omega)], fun _ o ho => ?_⟩
    rw [List.drop_of_length_le (by omega)] at ho; cases ho
  | succ k ih =>
    intro f i hi hf
    obtain ⟨f, rfl⟩ : ∃ n, f = n + 1 := ⟨f - 1, by omega⟩
    obtain ⟨v, hv, hv2⟩ := ih f (i + 1) (by omega) (by omega)
    rw [shunterlaw07_light_l2, if_pos (by omega), ck_pos _ (by omega), ck_pos _ (by omega), ck_pos _ (by omega), Int.toNat_natCast]
    by_cases h1 : ((((ops[i]!).2.2.2.2.2.2.2.1).length : Int) : Int) > 300
    · exact ⟨false, by rw [if_pos h1], fun h => nomatch h⟩
    · by_cases h2 : ((((ops[i]!).2.2.2.2.2.2.2.2).length : Int) : Int) > 300
      · exact ⟨false, by rw [if_neg h1, if_pos h2], fun h => nomatch h⟩
      · by_cases h3 : ((((ops[i]!).2.2.2.2.2.2.1).length : Int) : Int) > 600
        · exact ⟨false, by rw [if_neg h1, if_neg h2, if_pos h3], fun h => nomatch h⟩
        · refine ⟨v, by rw [if_neg h1, if_neg h2, if_neg h3, ck_pos _ (by omega), show (i : Int) + 1 = ((i + 1 : Nat) : Int) from by omega, hv], fun h o ho => ?_⟩
          rw [drop_get ops i (by omega)] at ho
          rcases List.mem_cons.1 ho with rfl | ho
          · exact ⟨by omega, by omega, by omega⟩
          · exact hv2 h o ho
theorem light_s (N : Nat) (hN : 400 < N) (ops : List OpL) : ∃ v, shunterlaw07_light_m N ops = some v ∧ (v = true → ops.length ≤ 30 ∧ ∀ o ∈ ops, Light o) := by
  unfold shunterlaw07_light_m
  by_cases h : ((ops.length : Int) : Int) > 30
  · exact ⟨false, by rw [if_pos h], fun h => nomatch h⟩
  · obtain ⟨v, h1, h2⟩ := light_loop ops (by omega) ops.length N 0 (by omega) (by omega)
    exact ⟨v, by rw [if_neg h]; exact h1, fun hv => ⟨by omega, by have := h2 hv; rwa [List.drop_zero] at this⟩⟩
theorem want_loop (N : Nat) (hN : 400 < N) (b : List UInt8) (hb : b.length ≤ 1000000) (l : List (Int × BitVec 128)) (hl : l.length ≤ 300) : ∀ (k f i : Nat) (acc : List UInt8), i + k = l.length → k < f → acc.length ≤ 100000 + 17 * i → shunterlaw07_write_v1_l5 N b l f acc (i : Int) = some (.t0 (b ++ rowsB l), acc ++ (l.drop i).flatMap rowB) := by
  intro k
  induction k with
  | zero =>
    intro f i acc hi hf _
    obtain ⟨f, rfl⟩ : ∃ n, f = n + 1 := ⟨f - 1, by omega⟩
    rw [shunterlaw07_write_v1_l5, if_neg (by omega), List.drop_of_length_le (by omega), List.flatMap_nil, List.append_nil]
    unfold shunterlaw07_write_v1_k2
    rw [wVecs_s N hN b (by omega) l hl]; rfl
  | succ k ih =>
    intro f i acc hi hf ha
    obtain ⟨f, rfl⟩ : ∃ n, f = n + 1 := ⟨f - 1, by omega⟩
    have hr := rowB_len (l[i]!)
    have e : shunterref07_Vec_m N (l[i]!).1 (l[i]!).2 = some (rowB (l[i]!)) := by rw [wvec_s N (by omega)]; rfl
    rw [shunterlaw07_write_v1_l5, if_pos (by omega), ck_pos _ (by omega), Int.toNat_natCast, e, Option.bind_some, ck_pos _ (by omega), ck_pos _ (by omega), show (i : Int) + 1 = ((i + 1 : Nat) : Int) from by omega, ih f (i + 1) _ (by omega) (by omega) (by rw [List.length_append]; omega), drop_get l i (by omega), List.flatMap_cons, List.append_assoc]
theorem wantn_loop (N : Nat) (hN : 400 < N) (b : List UInt8) (hb : b.length ≤ 1000000) (l : List Int) (hl : l.length ≤ 300) : ∀ (k f i : Nat) (acc : List UInt8), i + k = l.length → k < f → acc.length ≤ 100000 + i → shunterlaw07_write_v1_l10 N b l f acc (i : Int) = some (.t0 (b ++ numsB l), acc ++ (l.drop i).map byteI) := by
  intro k
  induction k with
  | zero =>
    intro f i acc hi hf _
    obtain ⟨f, rfl⟩ : ∃ n, f = n + 1 := ⟨f - 1, by omega⟩
    rw [shunterlaw07_write_v1_l10, if_neg (by omega), List.drop_of_length_le (by omega), List.map_nil, List.append_nil]
    unfold shunterlaw07_write_v1_k7
    rw [wNumbers_s N hN b (by omega) l hl]; rfl
  | succ k ih =>
    intro f i acc hi hf ha
    obtain ⟨f, rfl⟩ : ∃ n, f = n + 1 := ⟨f - 1, by omega⟩
    rw [shunterlaw07_write_v1_l10, if_pos (by omega), ck_pos _ (by omega), ck_pos _ (by simp only [List.length_singleton]; omega), ck_pos _ (by omega), Int.toNat_natCast, show (i : Int) + 1 = ((i + 1 : Nat) : Int) from by omega, ih f (i + 1) _ (by omega) (by omega) (by rw [List.length_append, List.length_singleton]; omega), drop_get l i (by omega), List.map_cons, List.append_assoc, List.singleton_append]
theorem write_s (N : Nat) (hN : 1100 < N) (b : List UInt8) (hb : b.length ≤ 1000000) (o : OpL) (ho : Light o) (p q : Int) :
    shunterlaw07_write_v1_m N b o.1 o.2.1 p q o.2.2.2.2.1 o.2.2.2.2.2.1 o.2.2.2.2.2.2.1 o.2.2.2.2.2.2.2.1 o.2.2.2.2.2.2.2.2 = some (if 0 ≤ o.1 ∧ o.1 ≤ 6 then .t0 (b ++ outB o) else .nil, outB o) := by
  obtain ⟨o0, o1, o2, o3, o4, o5, o6, o7, o8⟩ := o
  obtain ⟨h1, h2, h3⟩ := ho
  simp only at h1 h2 h3
  unfold shunterlaw07_write_v1_m outB
  simp only
  by_cases c0 : o0 = 0
  · rw [if_pos c0, if_pos c0, if_pos (by omega), wByte_s N (by omega) b (by omega), Option.bind_some, show shunterref07_Number_m N o1 1 = some (numB o1 1) from wnumber_s N (by omega) o1 1 (.inl rfl)]; rfl
  · by_cases c1 : o0 = 1
    · rw [if_neg c0, if_neg c0, if_pos c1, if_pos c1, if_pos (by omega), wTwo_s N (by omega) b (by omega), Option.bind_some, show shunterref07_Number_m N o1 2 = some (numB o1 2) from wnumber_s N (by omega) o1 2 (.inr (.inl rfl))]; rfl
    · by_cases c2 : o0 = 2
      · rw [if_neg c0, if_neg c0, if_neg c1, if_neg c1, if_pos c2, if_pos c2, if_pos (by omega), wFour_s N (by omega) b (by omega), Option.bind_some, show shunterref07_Number_m N o1 4 = some (numB o1 4) from wnumber_s N (by omega) o1 4 (.inr (.inr rfl))]; rfl
      · by_cases c3 : o0 = 3
        · rw [if_neg c0, if_neg c0, if_neg c1, if_neg c1, if_neg c2, if_neg c2, if_pos c3, if_pos c3, if_pos (by omega), wVec_s N (by omega) b (by omega), Option.bind_some, wvec_s N (by omega)]; rfl
        · by_cases c4 : o0 = 4
          · rw [if_neg c0, if_neg c0, if_neg c1, if_neg c1, if_neg c2, if_neg c2, if_neg c3, if_neg c3, if_pos c4, if_pos c4, if_pos (by omega), wName_s N (by omega) b (by omega) o6 (by omega), Option.bind_some, wtext_s N o6 (by omega)]; rfl
          · by_cases c5 : o0 = 5
            · rw [if_neg c0, if_neg c0, if_neg c1, if_neg c1, if_neg c2, if_neg c2, if_neg c3, if_neg c3, if_neg c4, if_neg c4, if_pos c5, if_pos c5, if_pos (show 0 ≤ o0 ∧ o0 ≤ 6 by omega)]
              by_cases hl : o7.length > 255
              · rw [if_neg (by omega)]
                unfold shunterlaw07_write_v1_k2
                rw [wVecs_s N (by omega) b (by omega) o7 h1]
                unfold rowsB; rw [if_pos hl]; rfl
              · have := want_loop N (by omega) b hb o7 h1 o7.length N 0 [byteI (o7.length : Int)] (by omega) (by omega) (by simp)
                have e : rowsB o7 = [byteI (o7.length : Int)] ++ o7.flatMap rowB := by unfold rowsB; rw [if_neg hl]; rfl
                rw [if_pos (by omega), ck_pos _ (by decide)]
                rw [List.drop_zero, ← e] at this
                exact this
            · by_cases c6 : o0 = 6
              · rw [if_neg c0, if_neg c0, if_neg c1, if_neg c1, if_neg c2, if_neg c2, if_neg c3, if_neg c3, if_neg c4, if_neg c4, if_neg c5, if_neg c5, if_pos c6, if_pos c6, if_pos (show 0 ≤ o0 ∧ o0 ≤ 6 by omega)]
                by_cases hl : o8.length > 255
                · rw [if_neg (by omega)]
                  unfold shunterlaw07_write_v1_k7
                  rw [wNumbers_s N (by omega) b (by omega) o8 h2]
                  unfold numsB; rw [if_pos hl]; rfl
                · have := wantn_loop N (by omega) b hb o8 h2 o8.length N 0 [byteI (o8.length : Int)] (by omega) (by omega) (by simp)
                  have e : numsB o8 = [byteI (o8.length : Int)] ++ o8.map byteI := by unfold numsB; rw [if_neg hl]; rfl
                  rw [if_pos (by omega), ck_pos _ (by decide)]
                  rw [List.drop_zero, ← e] at this
                  exact this
              · rw [if_neg c0, if_neg c0, if_neg c1, if_neg c1, if_neg c2, if_neg c2, if_neg c3, if_neg c3, if_neg c4, if_neg c4, if_neg c5, if_neg c5, if_neg c6, if_neg c6, if_neg (by omega)]
end Go.Proofs.Ytdgejbbelmhbdaa
