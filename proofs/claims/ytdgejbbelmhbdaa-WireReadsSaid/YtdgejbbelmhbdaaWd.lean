/- Layer 7: what is read, step by step, is the document's. Conditions: fuel, lengths. -/
import Derived.Test.YtdgejbbelmhbdaaWr
namespace Go.Proofs.Ytdgejbbelmhbdaa
open Go Go.RowKit Go.Eng
theorem Goes.self {r : List UInt8} {a : Int} (ha : 0 ≤ a ∧ a ≤ (r.length : Int)) (e : Int) : Goes r a e (r.drop a.toNat, a, e, a) := ⟨ha, rfl, rfl, rfl, fun _ => rfl⟩
theorem firstNum_n (b : List UInt8) (most err : Int) : 0 ≤ (firstNum b 1 most err).1 ∧ (firstNum b 1 most err).1 ≤ 255 := by
  unfold firstNum
  split
  · exact ⟨by show (0 : Int) ≤ 0; decide, by show (0 : Int) ≤ 255; decide⟩
  · split
    · exact ⟨by show (0 : Int) ≤ 0; decide, by show (0 : Int) ≤ 255; decide⟩
    · have h1 := numU_lt (b.take 1)
      have h2 : (b.take 1).length = 1 := by rw [List.length_take]; omega
      rw [h2] at h1
      exact ⟨by show (0 : Int) ≤ ((numU (b.take 1) : Nat) : Int); omega, by show ((numU (b.take 1) : Nat) : Int) ≤ 255; omega⟩
theorem pNum_n (r : List UInt8) (a e most err : Int) : 0 ≤ (pNum r a e 1 most err).1 ∧ (pNum r a e 1 most err).1 ≤ 255 := by
  have h := firstNum_n (r.drop a.toNat) most err
  unfold pNum stepP
  split
  · exact ⟨by show (0 : Int) ≤ 0; decide, by show (0 : Int) ≤ 255; decide⟩
  · split
    · exact ⟨by show (0 : Int) ≤ 0; decide, by show (0 : Int) ≤ 255; decide⟩
    · exact h
theorem goes_count {r : List UInt8} {a e : Int} {x : RdS} (h : Goes r a e x) (most : Int) : (countL x most).2 = (pNum r a e 1 most 2).1 ∧ Goes r (pNum r a e 1 most 2).2.1 (pNum r a e 1 most 2).2.2 (countL x most).1 := by
  unfold countL pNum stepP
  rw [h.err]
  by_cases he : e = 0
  · subst he
    rw [if_neg (show ¬ (0 : Int) ≠ 0 by decide), if_neg (show ¬ (0 : Int) ≠ 0 by decide), ← h.rest]
    unfold firstNum
    by_cases h1 : x.1.length < 1
    · have ht : takeL x 1 255 = ((x.1, x.2.1, 3, x.2.1), 0) := by unfold takeL; rw [h.err, if_neg (show ¬ (0 : Int) ≠ 0 by decide), if_pos h1]
      rw [ht, if_neg (fun hh => absurd (show (3 : Int) = 0 from hh.1) (by decide)), if_pos h1, if_pos (show (3 : Int) ≠ 0 by decide)]
      exact ⟨rfl, h.fail 3 _ h.place⟩
    · have h2 := numU_lt (x.1.take 1)
      have h3 : (x.1.take 1).length = 1 := by rw [List.length_take]; omega
      rw [h3] at h2
      have ht : takeL x 1 255 = ((x.1.drop 1, x.2.1 + ((1 : Nat) : Int), 0, x.2.2.2), (numU (x.1.take 1) : Int)) := by
        unfold takeL; rw [h.err, if_neg (show ¬ (0 : Int) ≠ 0 by decide), if_neg h1, if_neg (by omega)]
      rw [ht, if_neg h1]
      simp only
      by_cases h4 : ((numU (x.1.take 1) : Nat) : Int) > most
      · rw [if_pos ⟨trivial, h4⟩, if_pos h4, if_pos (show (2 : Int) ≠ 0 by decide)]
        have hf : failL x 2 x.2.1 = (x.1, x.2.1, 2, x.2.1) := by unfold failL; rw [if_pos ⟨h.err, by decide⟩]
        rw [hf]
        exact ⟨rfl, h.fail 2 _ h.place⟩
      · rw [if_neg (fun h => h4 h.2), if_neg h4, if_neg (show ¬ (0 : Int) ≠ 0 by decide)]
        exact ⟨rfl, h.on 1 (by omega)⟩
  · rw [if_pos he, if_pos he]
    exact ⟨rfl, h⟩
def rowsP (r : List UInt8) : Nat → Int → Int → List (Int × BitVec 128) × Int × Int
  | 0, a, e => ([], a, e)
  | k + 1, a, e => ((pRow r a e).1 :: (rowsP r k (pRow r a e).2.1 (pRow r a e).2.2).1, (rowsP r k (pRow r a e).2.1 (pRow r a e).2.2).2)
def rowsW : Nat → RdS → List (Int × BitVec 128) × RdS
  | 0, x => ([], x)
  | k + 1, x => ((rowL x).2 :: (rowsW k (rowL x).1).1, (rowsW k (rowL x).1).2)
theorem goes_rows {r : List UInt8} : ∀ (k : Nat) {a e : Int} {x : RdS}, Goes r a e x → (rowsW k x).1 = (rowsP r k a e).1 ∧ Goes r (rowsP r k a e).2.1 (rowsP r k a e).2.2 (rowsW k x).2
  | 0, _, _, _, h => ⟨rfl, h⟩
  | k + 1, a, e, x, h => by
    obtain ⟨h1, h2⟩ := goes_row h
    obtain ⟨h3, h4⟩ := goes_rows k h2
    unfold rowsW rowsP
    exact ⟨by rw [h1, h3], h4⟩
theorem vecs_loop (N : Nat) (hN : 400 < N) (r : List UInt8) (hr : r.length ≤ 100000000) (r5 : Int × List UInt8 × Int × Int) (n : Nat) (hn : r5.1 = (n : Int)) (hn2 : n ≤ 255) : ∀ (k f i : Nat) (acc : List (Int × BitVec 128)) (a e : Int), 0 ≤ a ∧ a ≤ (r.length : Int) → i + k = n → k < f → acc.length = i →
    wire_listOf_api_Vec__v2_l5 N r5 f acc (i : Int) r a e = some (if (rowsP r k a e).2.2 = 0 then acc ++ (rowsP r k a e).1 else [], r, (rowsP r k a e).2.1, (rowsP r k a e).2.2) := by
  intro k
  induction k with
  | zero =>
    intro f i acc a e ha hi hf hacc
    obtain ⟨f, rfl⟩ : ∃ n, f = n + 1 := ⟨f - 1, by omega⟩
    rw [wire_listOf_api_Vec__v2_l5, hn, if_neg (by omega)]
    unfold wire_Reader_Bad_v1_m rowsP
    rw [Option.bind_some]
    by_cases he : e = 0
    · subst he; rw [if_neg (by decide), if_pos rfl, List.append_nil]
    · have h1 : (e != 0) = true := by simpa using he
      rw [h1, if_pos rfl, if_neg he]
  | succ k ih =>
    intro f i acc a e ha hi hf hacc
    obtain ⟨f, rfl⟩ : ∃ n, f = n + 1 := ⟨f - 1, by omega⟩
    have hg := (goes_row (Goes.self ha e)).2.at0
    rw [wire_listOf_api_Vec__v2_l5, hn, if_pos (by omega), rVec_s N hN r hr a e ha, Option.bind_some, ck_pos _ rfl, ck_pos _ (by simp only [List.length_singleton]; omega), ck_pos _ (by omega), show (i : Int) + 1 = ((i + 1 : Nat) : Int) from by omega, ih f (i + 1) _ _ _ hg (by omega) (by omega) (by rw [List.length_append, List.length_singleton, hacc])]
    rw [List.append_assoc]
    rfl
theorem rVecs_s (N : Nat) (hN : 400 < N) (r : List UInt8) (hr : r.length ≤ 100000000) (a e : Int) (ha : 0 ≤ a ∧ a ≤ (r.length : Int)) (most : Int) (n : Nat) (hn : (pNum r a e 1 most 2).1 = (n : Int)) :
    wire_Reader_Vecs_v1_m N r a e most = some (if (rowsP r n (pNum r a e 1 most 2).2.1 (pNum r a e 1 most 2).2.2).2.2 = 0 then (rowsP r n (pNum r a e 1 most 2).2.1 (pNum r a e 1 most 2).2.2).1 else [], r, (rowsP r n (pNum r a e 1 most 2).2.1 (pNum r a e 1 most 2).2.2).2.1, (rowsP r n (pNum r a e 1 most 2).2.1 (pNum r a e 1 most 2).2.2).2.2) := by
  have hb := pNum_n r a e most 2
  have hg := (goes_count (Goes.self ha e) most).2.at0
  unfold wire_Reader_Vecs_v1_m wire_listOf_api_Vec__v2_m
  rw [show wire_Reader_number_v2_m N r a e 1 most 2 = _ from rnum2_s N hN r hr a e ha 1 (by decide) most 2, Option.bind_some, ck_pos _ rfl]
  have := vecs_loop N hN r hr ((pNum r a e 1 most 2).1, r, (pNum r a e 1 most 2).2.1, (pNum r a e 1 most 2).2.2) n hn (by omega) n N 0 [] (pNum r a e 1 most 2).2.1 (pNum r a e 1 most 2).2.2 hg (by omega) (by omega) rfl
  have this' : wire_listOf_api_Vec__v2_l5 N ((pNum r a e 1 most 2).1, r, (pNum r a e 1 most 2).2.1, (pNum r a e 1 most 2).2.2) N [] 0 r (pNum r a e 1 most 2).2.1 (pNum r a e 1 most 2).2.2 = _ := this
  rw [this', Option.bind_some, ck_pos _ rfl, List.nil_append]
def numsP (r : List UInt8) (m : Int) : Nat → Int → Int → List Int × Int × Int
  | 0, a, e => ([], a, e)
  | k + 1, a, e => ((pNum r a e 1 m 7).1 :: (numsP r m k (pNum r a e 1 m 7).2.1 (pNum r a e 1 m 7).2.2).1, (numsP r m k (pNum r a e 1 m 7).2.1 (pNum r a e 1 m 7).2.2).2)
def numsW (m : Int) : Nat → RdS → List Int × RdS
  | 0, x => ([], x)
  | k + 1, x => ((takeL x 1 m).2 :: (numsW m k (takeL x 1 m).1).1, (numsW m k (takeL x 1 m).1).2)
theorem goes_nums {r : List UInt8} (m : Int) : ∀ (k : Nat) {a e : Int} {x : RdS}, Goes r a e x → (numsW m k x).1 = (numsP r m k a e).1 ∧ Goes r (numsP r m k a e).2.1 (numsP r m k a e).2.2 (numsW m k x).2
  | 0, _, _, _, h => ⟨rfl, h⟩
  | k + 1, a, e, x, h => by
    obtain ⟨h1, h2⟩ := goes_num h 1 m
    obtain ⟨h3, h4⟩ := goes_nums m k h2
    unfold numsW numsP
    exact ⟨by rw [h1, h3], h4⟩
theorem ints_loop (N : Nat) (hN : 400 < N) (r : List UInt8) (hr : r.length ≤ 100000000) (m : Int) (r5 : Int × List UInt8 × Int × Int) (n : Nat) (hn : r5.1 = (n : Int)) (hn2 : n ≤ 255) : ∀ (k f i : Nat) (acc : List Int) (a e : Int), 0 ≤ a ∧ a ≤ (r.length : Int) → i + k = n → k < f → acc.length = i →
    wire_listOf_int__v2_l5 N m r5 f acc (i : Int) r a e = some (if (numsP r m k a e).2.2 = 0 then acc ++ (numsP r m k a e).1 else [], r, (numsP r m k a e).2.1, (numsP r m k a e).2.2) := by
  intro k
  induction k with
  | zero =>
    intro f i acc a e ha hi hf hacc
    obtain ⟨f, rfl⟩ : ∃ n, f = n + 1 := ⟨f - 1, by omega⟩
    rw [wire_listOf_int__v2_l5, hn, if_neg (by omega)]
    unfold wire_Reader_Bad_v1_m numsP
    rw [Option.bind_some]
    by_cases he : e = 0
    · subst he; rw [if_neg (by decide), if_pos rfl, List.append_nil]
    · have h1 : (e != 0) = true := by simpa using he
      rw [h1, if_pos rfl, if_neg he]
  | succ k ih =>
    intro f i acc a e ha hi hf hacc
    obtain ⟨f, rfl⟩ : ∃ n, f = n + 1 := ⟨f - 1, by omega⟩
    have hg := (goes_num (Goes.self ha e) 1 m).2.at0
    have e1 : wire_Reader_Numbers_1_v2_m N r a e m = some ((pNum r a e 1 m 7).1, r, (pNum r a e 1 m 7).2.1, (pNum r a e 1 m 7).2.2) := by
      unfold wire_Reader_Numbers_1_v2_m
      rw [rByte_s N hN r hr a e ha, Option.bind_some, ck_pos _ rfl]
    rw [wire_listOf_int__v2_l5, hn, if_pos (by omega), e1, Option.bind_some, ck_pos _ rfl, ck_pos _ (by simp only [List.length_singleton]; omega), ck_pos _ (by omega), show (i : Int) + 1 = ((i + 1 : Nat) : Int) from by omega, ih f (i + 1) _ _ _ hg (by omega) (by omega) (by rw [List.length_append, List.length_singleton, hacc])]
    rw [List.append_assoc]
    rfl
theorem rNumbers_s (N : Nat) (hN : 400 < N) (r : List UInt8) (hr : r.length ≤ 100000000) (a e : Int) (ha : 0 ≤ a ∧ a ≤ (r.length : Int)) (most m : Int) (n : Nat) (hn : (pNum r a e 1 most 2).1 = (n : Int)) :
    wire_Reader_Numbers_v1_m N r a e most m = some (if (numsP r m n (pNum r a e 1 most 2).2.1 (pNum r a e 1 most 2).2.2).2.2 = 0 then (numsP r m n (pNum r a e 1 most 2).2.1 (pNum r a e 1 most 2).2.2).1 else [], r, (numsP r m n (pNum r a e 1 most 2).2.1 (pNum r a e 1 most 2).2.2).2.1, (numsP r m n (pNum r a e 1 most 2).2.1 (pNum r a e 1 most 2).2.2).2.2) := by
  have hb := pNum_n r a e most 2
  have hg := (goes_count (Goes.self ha e) most).2.at0
  unfold wire_Reader_Numbers_v1_m wire_listOf_int__v2_m
  rw [show wire_Reader_number_v2_m N r a e 1 most 2 = _ from rnum2_s N hN r hr a e ha 1 (by decide) most 2, Option.bind_some, ck_pos _ rfl]
  have := ints_loop N hN r hr m ((pNum r a e 1 most 2).1, r, (pNum r a e 1 most 2).2.1, (pNum r a e 1 most 2).2.2) n hn (by omega) n N 0 [] (pNum r a e 1 most 2).2.1 (pNum r a e 1 most 2).2.2 hg (by omega) (by omega) rfl
  have this' : wire_listOf_int__v2_l5 N m ((pNum r a e 1 most 2).1, r, (pNum r a e 1 most 2).2.1, (pNum r a e 1 most 2).2.2) N [] 0 r (pNum r a e 1 most 2).2.1 (pNum r a e 1 most 2).2.2 = _ := this
  rw [this', Option.bind_some, ck_pos _ rfl, List.nil_append]
theorem cmpv_loop (r70 : List (Int × BitVec 128) × List UInt8 × Int × Int) (w : List (Int × BitVec 128)) (hw : r70.1 = w) (hl : w.length ≤ 300) (y : RdS) : ∀ (k f i : Nat), i + k = w.length → k < f → shunterlaw07_reads_v1_l13 r70 w y.1 y.2.1 y.2.2.1 y.2.2.2 f true (i : Int) = some (y.1, y.2.1, y.2.2.1, y.2.2.2, true, r70.2.1, r70.2.2.1, r70.2.2.2) := by
  intro k
  induction k with
  | zero =>
    intro f i hi hf
    obtain ⟨f, rfl⟩ : ∃ n, f = n + 1 := ⟨f - 1, by omega⟩
    rw [shunterlaw07_reads_v1_l13, if_neg (by omega)]
  | succ k ih =>
    intro f i hi hf
    obtain ⟨f, rfl⟩ : ∃ n, f = n + 1 := ⟨f - 1, by omega⟩
    rw [shunterlaw07_reads_v1_l13, if_pos (by omega), if_pos rfl]
    unfold shunterlaw07_reads_v1_k14
    rw [hw, ck_pos _ (by omega), ck_pos _ (by omega), ck_pos _ (by omega), beq_self_eq_true, beq_self_eq_true, Bool.and_self, show (i : Int) + 1 = ((i + 1 : Nat) : Int) from by omega]
    exact ih f (i + 1) (by omega) (by omega)
theorem cmpn_loop (r70 : List Int × List UInt8 × Int × Int) (w : List Int) (hw : r70.1 = w) (hl : w.length ≤ 300) (y : RdS) : ∀ (k f i : Nat), i + k = w.length → k < f → shunterlaw07_reads_v1_l21 r70 w y.1 y.2.1 y.2.2.1 y.2.2.2 f true (i : Int) = some (y.1, y.2.1, y.2.2.1, y.2.2.2, true, r70.2.1, r70.2.2.1, r70.2.2.2) := by
  intro k
  induction k with
  | zero =>
    intro f i hi hf
    obtain ⟨f, rfl⟩ : ∃ n, f = n + 1 := ⟨f - 1, by omega⟩
    rw [shunterlaw07_reads_v1_l21, if_neg (by omega)]
  | succ k ih =>
    intro f i hi hf
    obtain ⟨f, rfl⟩ : ∃ n, f = n + 1 := ⟨f - 1, by omega⟩
    rw [shunterlaw07_reads_v1_l21, if_pos (by omega), if_pos rfl]
    unfold shunterlaw07_reads_v1_k22
    rw [hw, ck_pos _ (by omega), ck_pos _ (by omega), ck_pos _ (by omega), beq_self_eq_true, show (i : Int) + 1 = ((i + 1 : Nat) : Int) from by omega]
    exact ih f (i + 1) (by omega) (by omega)
theorem len_beq {α : Type} {l m : List α} (h : l = m) : (((l.length : Nat) : Int) == ((m.length : Nat) : Int)) = true := by rw [h]; exact beq_self_eq_true _
theorem wantv_loop (N : Nat) (hN : 1100 < N) (r : List UInt8) (hr : r.length ≤ 1000) (r70 : List (Int × BitVec 128) × List UInt8 × Int × Int) (r79 : List UInt8 × Int × Int × Int × Int) (n : Nat) (hn : r79.2.2.2.2 = (n : Int)) (hn2 : n ≤ 255) : ∀ (k f i : Nat) (w : List (Int × BitVec 128)) (x : RdS) (a e : Int), Goes r a e x → i + k = n → k < f → w.length = i →
    (r70.1 = if (rowsW k x).2.2.2.1 = 0 then w ++ (rowsW k x).1 else []) →
    shunterlaw07_reads_v1_l10 N r70 r79 f w (i : Int) x.1 x.2.1 x.2.2.1 x.2.2.2 = some ((rowsW k x).2.1, (rowsW k x).2.2.1, (rowsW k x).2.2.2.1, (rowsW k x).2.2.2.2, true, r70.2.1, r70.2.2.1, r70.2.2.2) := by
  intro k
  induction k with
  | zero =>
    intro f i w x a e hg hi hf hw h70
    obtain ⟨f, rfl⟩ : ∃ n, f = n + 1 := ⟨f - 1, by omega⟩
    rw [shunterlaw07_reads_v1_l10, hn, if_neg (by omega)]
    unfold rowsW at h70 ⊢
    simp only at h70 ⊢
    by_cases he : x.2.2.1 = 0
    · rw [if_pos he, List.append_nil] at h70
      rw [if_neg (fun h => h he), len_beq h70]
      exact cmpv_loop r70 w h70 (by omega) x w.length N 0 (by omega) (by omega)
    · rw [if_neg he] at h70
      rw [if_pos he, h70]; rfl
  | succ k ih =>
    intro f i w x a e hg hi hf hw h70
    obtain ⟨f, rfl⟩ : ∃ n, f = n + 1 := ⟨f - 1, by omega⟩
    have ha := hg.at0
    have hx : x.1.length ≤ 1000 := by have := hg.len; omega
    have e1 : shunterref07_TakeVec_v1_m N x.1 x.2.1 x.2.2.1 x.2.2.2 = some (flat6 (rowL x)) := wrow_s N hN x.1 x.2.1 x.2.2.1 x.2.2.2 (by omega) (by rw [hg.place]; omega)
    rw [shunterlaw07_reads_v1_l10, hn, if_pos (by omega), e1, Option.bind_some, ck_pos _ (by simp only [List.length_singleton]; omega), ck_pos _ (by omega), show (i : Int) + 1 = ((i + 1 : Nat) : Int) from by omega]
    refine ih f (i + 1) (w ++ [(rowL x).2]) (rowL x).1 _ _ (goes_row hg).2 (by omega) (by omega) (by rw [List.length_append, List.length_singleton, hw]) ?_
    rw [h70]
    conv => lhs; unfold rowsW
    rw [List.append_assoc]; rfl
theorem wantnn_loop (N : Nat) (hN : 1100 < N) (m : Int) (r : List UInt8) (hr : r.length ≤ 1000) (r70 : List Int × List UInt8 × Int × Int) (r79 : List UInt8 × Int × Int × Int × Int) (n : Nat) (hn : r79.2.2.2.2 = (n : Int)) (hn2 : n ≤ 255) : ∀ (k f i : Nat) (w : List Int) (x : RdS) (a e : Int), Goes r a e x → i + k = n → k < f → w.length = i →
    (r70.1 = if (numsW m k x).2.2.2.1 = 0 then w ++ (numsW m k x).1 else []) →
    shunterlaw07_reads_v1_l18 N m r70 r79 f w (i : Int) x.1 x.2.1 x.2.2.1 x.2.2.2 = some ((numsW m k x).2.1, (numsW m k x).2.2.1, (numsW m k x).2.2.2.1, (numsW m k x).2.2.2.2, true, r70.2.1, r70.2.2.1, r70.2.2.2) := by
  intro k
  induction k with
  | zero =>
    intro f i w x a e hg hi hf hw h70
    obtain ⟨f, rfl⟩ : ∃ n, f = n + 1 := ⟨f - 1, by omega⟩
    rw [shunterlaw07_reads_v1_l18, hn, if_neg (by omega)]
    unfold numsW at h70 ⊢
    simp only at h70 ⊢
    by_cases he : x.2.2.1 = 0
    · rw [if_pos he, List.append_nil] at h70
      rw [if_neg (fun h => h he), len_beq h70]
      exact cmpn_loop r70 w h70 (by omega) x w.length N 0 (by omega) (by omega)
    · rw [if_neg he] at h70
      rw [if_pos he, h70]; rfl
  | succ k ih =>
    intro f i w x a e hg hi hf hw h70
    obtain ⟨f, rfl⟩ : ∃ n, f = n + 1 := ⟨f - 1, by omega⟩
    have ha := hg.at0
    have e1 : shunterref07_Take_v1_m N x.1 x.2.1 x.2.2.1 x.2.2.2 1 m = some (flat5 (takeL x 1 m)) := wtake_s N (by omega) x.1 x.2.1 x.2.2.1 x.2.2.2 1 m (by decide) (by rw [hg.place]; omega)
    rw [shunterlaw07_reads_v1_l18, hn, if_pos (by omega), e1, Option.bind_some, ck_pos _ (by simp only [List.length_singleton]; omega), ck_pos _ (by omega), show (i : Int) + 1 = ((i + 1 : Nat) : Int) from by omega]
    refine ih f (i + 1) (w ++ [(takeL x 1 m).2]) (takeL x 1 m).1 _ _ (goes_num hg 1 m).2 (by omega) (by omega) (by rw [List.length_append, List.length_singleton, hw]) ?_
    rw [h70]
    conv => lhs; unfold numsW
    rw [List.append_assoc]; rfl
theorem k6_s (N : Nat) (hN : 1100 < N) {r : List UInt8} (hr : r.length ≤ 1000) {a e : Int} {x : RdS} (h : Goes r a e x) (o0 most : Int) (c : Nat) (hc : c ≤ 7) (ho : shlI (1 : Int) (((BitVec.ofInt 64 o0).toNat : Int)).toNat = (c : Int)) :
    shunterlaw07_reads_v1_k6 N x.1 x.2.1 x.2.2.1 x.2.2.2 o0 most (pNum r a e c most 7).1 r (pNum r a e c most 7).2.1 (pNum r a e c most 7).2.2 = some ((takeL x c most).1.1, (takeL x c most).1.2.1, (takeL x c most).1.2.2.1, (takeL x c most).1.2.2.2, true, r, (pNum r a e c most 7).2.1, (pNum r a e c most 7).2.2) := by
  have ha := h.at0
  unfold shunterlaw07_reads_v1_k6
  rw [ck_pos _ (by omega), ho, wtake_s N (by omega) x.1 x.2.1 x.2.2.1 x.2.2.2 c most hc (by rw [h.place]; omega), Option.bind_some]
  have h1 := (goes_num h c most).1
  have h2 : (flat5 (takeL (x.1, x.2.1, x.2.2.1, x.2.2.2) c most)).2.2.2.2 = (pNum r a e c most 7).1 := h1
  rw [h2, beq_self_eq_true]; rfl
theorem reads_s (N : Nat) (hN : 2000 < N) {r : List UInt8} (hr : r.length ≤ 1000) {a e : Int} {x : RdS} (h : Goes r a e x) (o : OpL) :
    ∃ (y : RdS) (a' e' : Int), shunterlaw07_reads_v1_m N r a e x.1 x.2.1 x.2.2.1 x.2.2.2 o.1 o.2.1 o.2.2.1 o.2.2.2.1 o.2.2.2.2.1 o.2.2.2.2.2.1 o.2.2.2.2.2.2.1 o.2.2.2.2.2.2.2.1 o.2.2.2.2.2.2.2.2 = some (y.1, y.2.1, y.2.2.1, y.2.2.2, true, r, a', e') ∧ Goes r a' e' y := by
  obtain ⟨o0, o1, o2, o3, o4, o5, o6, o7, o8⟩ := o
  have ha := h.at0
  have hx : x.1.length ≤ 1000 := by have := h.len; omega
  simp only
  unfold shunterlaw07_reads_v1_m
  by_cases c0 : o0 = 0
  · subst c0
    refine ⟨(takeL x 1 o2).1, _, _, ?_, (goes_num h 1 o2).2⟩
    rw [if_pos rfl]
    unfold shunterlaw07_reads_v1_k2
    rw [if_pos (by rfl), if_pos rfl, rByte_s N (by omega) r (by omega) a e ha, Option.bind_some, ck_pos _ rfl]
    exact k6_s N (by omega) hr h 0 o2 1 (by decide) (by decide)
  · rw [if_neg c0]
    by_cases c1 : o0 = 1
    · subst c1
      refine ⟨(takeL x 2 o2).1, _, _, ?_, (goes_num h 2 o2).2⟩
      rw [if_pos rfl]
      unfold shunterlaw07_reads_v1_k2
      rw [if_pos (by rfl), if_neg (by decide), if_pos rfl, rTwo_s N (by omega) r (by omega) a e ha, Option.bind_some, ck_pos _ rfl]
      exact k6_s N (by omega) hr h 1 o2 2 (by decide) (by decide)
    · rw [if_neg c1]
      unfold shunterlaw07_reads_v1_k2
      by_cases c2 : o0 = 2
      · subst c2
        refine ⟨(takeL x 4 o2).1, _, _, ?_, (goes_num h 4 o2).2⟩
        rw [if_pos (by rfl), if_neg (by decide), if_neg (by decide), rFour_s N (by omega) r (by omega) a e ha, Option.bind_some, ck_pos _ rfl]
        exact k6_s N (by omega) hr h 2 o2 4 (by decide) (by decide)
      · have hb : (o0 == 2) = false := by simpa using c2
        rw [hb, if_neg (by decide)]
        by_cases c3 : o0 = 3
        · refine ⟨(rowL x).1, _, _, ?_, (goes_row h).2⟩
          have e1 : shunterref07_TakeVec_v1_m N x.1 x.2.1 x.2.2.1 x.2.2.2 = some (flat6 (rowL x)) := wrow_s N (by omega) x.1 x.2.1 x.2.2.1 x.2.2.2 (by omega) (by rw [h.place]; omega)
          have e2 : (flat6 (rowL x)).2.2.2.2.1 = (pRow r a e).1.1 := congrArg Prod.fst (goes_row h).1
          have e3 : (flat6 (rowL x)).2.2.2.2.2 = (pRow r a e).1.2 := congrArg Prod.snd (goes_row h).1
          rw [if_pos c3, rVec_s N (by omega) r (by omega) a e ha, Option.bind_some, ck_pos _ rfl, e1, Option.bind_some, e2, e3, beq_self_eq_true, beq_self_eq_true]; rfl
        · rw [if_neg c3]
          by_cases c4 : o0 = 4
          · refine ⟨(nameL x).1, _, _, ?_, (goes_name h).2⟩
            have e1 : shunterref07_TakeName_v1_m N x.1 x.2.1 x.2.2.1 x.2.2.2 = some (flat5b (nameL x)) := wname_s N (by omega) x.1 x.2.1 x.2.2.1 x.2.2.2 (by omega) (by omega) (by rw [h.place]; omega)
            have e2 : (flat5b (nameL x)).2.2.2.2 = (pName r a e).1 := (goes_name h).1
            rw [if_pos c4, rName_s N (by omega) r (by omega) a e ha, Option.bind_some, ck_pos _ rfl, e1, Option.bind_some, e2, beq_self_eq_true]; rfl
          · rw [if_neg c4]
            by_cases c5 : o0 = 5
            · obtain ⟨h1, h2⟩ := goes_count h o2
              have hb := pNum_n r a e o2 2
              obtain ⟨n, hn⟩ : ∃ n : Nat, (pNum r a e 1 o2 2).1 = (n : Int) := ⟨(pNum r a e 1 o2 2).1.toNat, by omega⟩
              have e1 : shunterref07_Count_v1_m N x.1 x.2.1 x.2.2.1 x.2.2.2 o2 = some (flat5 (countL x o2)) := wcount_s N (by omega) x.1 x.2.1 x.2.2.1 x.2.2.2 o2 (by rw [h.place]; omega)
              obtain ⟨h3, h4⟩ := goes_rows n h2
              refine ⟨(rowsW n (countL x o2).1).2, _, _, ?_, h4⟩
              rw [if_pos c5, rVecs_s N (by omega) r (by omega) a e ha o2 n hn, Option.bind_some, ck_pos _ rfl, e1, Option.bind_some]
              refine wantv_loop N (by omega) r hr (_, r, _, _) (flat5 (countL x o2)) n (by rw [← hn]; exact h1) (by omega) n N 0 [] (countL x o2).1 _ _ h2 (by omega) (by omega) rfl ?_
              rw [h3, h4.err, List.nil_append]
            · rw [if_neg c5]
              by_cases c6 : o0 = 6
              · obtain ⟨h1, h2⟩ := goes_count h o2
                have hb := pNum_n r a e o2 2
                obtain ⟨n, hn⟩ : ∃ n : Nat, (pNum r a e 1 o2 2).1 = (n : Int) := ⟨(pNum r a e 1 o2 2).1.toNat, by omega⟩
                have e1 : shunterref07_Count_v1_m N x.1 x.2.1 x.2.2.1 x.2.2.2 o2 = some (flat5 (countL x o2)) := wcount_s N (by omega) x.1 x.2.1 x.2.2.1 x.2.2.2 o2 (by rw [h.place]; omega)
                obtain ⟨h3, h4⟩ := goes_nums o3 n h2
                refine ⟨(numsW o3 n (countL x o2).1).2, _, _, ?_, h4⟩
                rw [if_pos c6, rNumbers_s N (by omega) r (by omega) a e ha o2 o3 n hn, Option.bind_some, ck_pos _ rfl, e1, Option.bind_some]
                refine wantnn_loop N (by omega) o3 r hr (_, r, _, _) (flat5 (countL x o2)) n (by rw [← hn]; exact h1) (by omega) n N 0 [] (countL x o2).1 _ _ h2 (by omega) (by omega) rfl ?_
                rw [h3, h4.err, List.nil_append]
              · rw [if_neg c6]
                by_cases c7 : o0 = 7
                · rw [if_pos c7]
                  unfold wire_Reader_Fail_v1_m wire_spot_fail_v2_m
                  have he := h.err
                  by_cases h0 : e = 0
                  · subst h0
                    rw [if_pos rfl, Option.bind_some, ck_pos _ rfl, Option.bind_some, ck_pos _ rfl, if_pos he]
                    unfold shunterlaw07_reads_v1_k24
                    by_cases h1 : o1 = 0
                    · refine ⟨x, a, o1, ?_, by rw [h1]; exact h⟩
                      subst h1
                      rw [if_neg (by decide)]
                    · have hb1 : (o1 != 0) = true := by simpa using h1
                      refine ⟨(x.1, x.2.1, o1, x.2.1), a, o1, ?_, h.fail o1 _ h.place⟩
                      rw [hb1, if_pos rfl]
                  · refine ⟨x, a, e, ?_, h⟩
                    rw [if_neg h0, Option.bind_some, ck_pos _ rfl, Option.bind_some, ck_pos _ rfl, if_neg (by rw [he]; exact h0)]
                    unfold shunterlaw07_reads_v1_k24
                    rw [if_neg (by decide)]
                · refine ⟨x, a, e, ?_, h⟩
                  rw [if_neg c7]
theorem end_s (N : Nat) (r : List UInt8) (hr : r.length ≤ 1000000) (a e : Int) (ha : 0 ≤ a ∧ a ≤ (r.length : Int)) : wire_Reader_End_v1_m N r a e = some (if e ≠ 0 then .t80 e a else if (r.length : Int) - a > 0 then .t80 2 a else .nil) := by
  unfold wire_Reader_End_v1_m wire_Reader_Left_v1_m
  by_cases he : e = 0
  · rw [if_neg (fun h => h he), if_neg (fun h => h he), ck_pos _ (by omega), Option.bind_some]
    by_cases h1 : (r.length : Int) - a > 0
    · rw [if_pos h1, if_pos h1]
    · rw [if_neg h1, if_neg h1]
  · rw [if_pos he, if_pos he]
theorem read_s (N : Nat) (b : List UInt8) (hb : b.length ≤ 1000000) : wire_Read_m N b = some (b, 0, 0) := by
  unfold wire_Read_m
  rw [cl_s N b (by omega)]; rfl
theorem reads_loop (N : Nat) (hN : 2000 < N) (ops : List OpL) (hl : ops.length ≤ 30) (r : List UInt8) (hr : r.length ≤ 1000) : ∀ (k f i : Nat) (x : RdS) (a e : Int), Goes r a e x → i + k = ops.length → k < f → shunterlaw07_WireReads_l6 N ops f (i : Int) x.1 x.2.1 x.2.2.1 x.2.2.2 r a e = some true := by
  intro k
  induction k with
  | zero =>
    intro f i x a e h hi hf
    obtain ⟨f, rfl⟩ : ∃ n, f = n + 1 := ⟨f - 1, by omega⟩
    have ha := h.at0; have hlen := h.len
    have ew : shunterref07_End_v1_m N x.1 x.2.1 x.2.2.1 x.2.2.2 = some (endL x) := wend_s N x.1 x.2.1 x.2.2.1 x.2.2.2
    rw [shunterlaw07_WireReads_l6, if_neg (by omega), end_s N r (by omega) a e ha, Option.bind_some, ew]
    unfold endL
    rw [h.err, h.place]
    by_cases he : e = 0
    · rw [if_neg (show ¬ e ≠ 0 from fun h2 => h2 he), if_neg (show ¬ e ≠ 0 from fun h2 => h2 he)]
      by_cases h1 : (r.length : Int) - a > 0
      · rw [if_pos h1, if_pos (by omega)]
        simp only [Sum46.on, wire_Why_v2_m, wire_asFault_v1_m, Option.bind_some, if_true]
        rw [lives_s N (by omega)]; rfl
      · rw [if_neg h1, if_neg (by omega)]
        simp only [Sum46.on, wire_Why_v1_m, Option.bind_some, if_true]
        rw [lives_s N (by omega)]; rfl
    · rw [if_pos (show e ≠ 0 from he), if_pos (show e ≠ 0 from he), h.wher he]
      simp only [Sum46.on, wire_Why_v2_m, wire_asFault_v1_m, Option.bind_some, if_true]
      rw [lives_s N (by omega)]; rfl
  | succ k ih =>
    intro f i x a e h hi hf
    obtain ⟨f, rfl⟩ : ∃ n, f = n + 1 := ⟨f - 1, by omega⟩
    obtain ⟨y, a', e', h1, h2⟩ := reads_s N hN hr h (ops[i]!)
    have ha := h2.at0; have hlen := h2.len
    rw [shunterlaw07_WireReads_l6, if_pos (by omega), ck_pos _ (by omega), Int.toNat_natCast, h1, Option.bind_some, ck_pos _ rfl, if_pos rfl]
    unfold wire_Reader_At_v1_m wire_Reader_Left_v1_m wire_Reader_Bad_v1_m
    rw [Option.bind_some, if_neg (fun hh => hh h2.place.symm), ck_pos _ (by simp only; omega), Option.bind_some, if_neg (fun hh => hh (by simp only; omega)), Option.bind_some, if_neg (fun hh => hh (by simp only; rw [h2.err])), ck_pos _ (by omega), show (i : Int) + 1 = ((i + 1 : Nat) : Int) from by omega]
    exact ih f (i + 1) y a' e' h2 (by omega) (by omega)
theorem readss_s (N : Nat) (hN : 2000 < N) (b : List UInt8) (ops : List OpL) : shunterlaw07_WireReads_m N b ops = some true := by
  unfold shunterlaw07_WireReads_m
  by_cases hb : ((b.length : Int) : Int) > 500
  · rw [if_pos hb, lives_s N (by omega)]; rfl
  · obtain ⟨v, h1, h2⟩ := light_s N (by omega) ops
    rw [if_neg hb, h1, Option.bind_some]
    by_cases hv : v = true
    · have hl := (h2 hv).1
      rw [if_pos hv]
      unfold shunterlaw07_WireReads_k1
      rw [read_s N b (by omega), Option.bind_some]
      exact reads_loop N hN ops hl b (by omega) ops.length N 0 (b, 0, 0, 0) 0 0 ⟨⟨Int.le_refl _, by omega⟩, rfl, rfl, rfl, fun h => absurd rfl h⟩ (by omega) (by omega)
    · rw [if_neg hv, lives_s N (by omega)]; rfl
end Go.Proofs.Ytdgejbbelmhbdaa
