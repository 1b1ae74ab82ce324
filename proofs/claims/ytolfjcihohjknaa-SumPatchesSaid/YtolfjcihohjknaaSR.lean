/- The reference of layer 4: the models' answers. Conditions: none. -/
import Derived.Test.YtolfjcihohjknaaSa
import Derived.Test.YtolfjcihohjknaaBa
namespace Go.Proofs.Ytolfjcihohjknaa
open Go Go.RowKit Go.Eng
theorem drop_cons (b : List UInt8) (i : Nat) (h : i < b.length) : b.drop i = b[i]! :: b.drop (i + 1) := by
  rw [List.drop_eq_getElem_cons h, getElem!_pos b i h]
theorem drop_consI (b : List Int) (i : Nat) (h : i < b.length) : b.drop i = b[i]! :: b.drop (i + 1) := by
  rw [List.drop_eq_getElem_cons h, getElem!_pos b i h]
theorem words_loop (b : List UInt8) (hb : b.length ≤ 100000) : ∀ (k f i : Nat) (l : List Int), b.length ≤ i + k → k < f → i ≤ b.length + 1 → l.length ≤ i →
    ∃ W : List Int, shunterref04_Words_l3 b f l (i : Int) = some (l ++ W) ∧ W.sum = (psum true (b.drop i) : Int) ∧ (∀ x ∈ W, 0 ≤ x ∧ x ≤ 65535) ∧ W.length ≤ k := by
  intro k
  induction k using Nat.strongRecOn with
  | _ k ih =>
  intro f i l hi hf hle hl
  obtain ⟨f, rfl⟩ : ∃ n, f = n + 1 := ⟨f - 1, by omega⟩
  rw [shunterref04_Words_l3]
  by_cases h : (i : Int) < (b.length : Int)
  · rw [if_pos h, ck_pos _ (by omega)]
    have hx := (b[i]!).toNat_lt
    have hd := drop_cons b i (by omega)
    have e2 : ((i : Int) + 2) = ((i + 2 : Nat) : Int) := by omega
    have e1 : ((i : Int) + 1).toNat = i + 1 := by omega
    by_cases h1 : (i : Int) + 1 < (b.length : Int)
    · rw [if_pos h1, ck_pos _ (by omega), ck_pos _ (by omega), shunterref04_Words_k5, ck_pos _ (by omega), Int.toNat_natCast, e1, e2]
      have hy := (b[i + 1]!).toNat_lt
      rw [ck_pos _ (by omega), ck_pos _ (by omega), ck_pos _ (by simp only [List.length_singleton]; omega), ck_pos _ (by omega)]
      obtain ⟨W, h1', h2, h3, h4⟩ := ih (k - 2) (by omega) f (i + 2) (l ++ [256 * (((b[i]!).toNat : Nat) : Int) + (((b[i + 1]!).toNat : Nat) : Int)]) (by omega) (by omega) (by omega) (by simp only [List.length_append, List.length_singleton]; omega)
      refine ⟨(256 * (((b[i]!).toNat : Nat) : Int) + (((b[i + 1]!).toNat : Nat) : Int)) :: W, by rw [h1', List.append_assoc]; rfl, ?_, ?_, by simp only [List.length_cons]; omega⟩
      · rw [List.sum_cons, h2, hd, drop_cons b (i + 1) (by omega), psum, psum]
        simp only [Bool.not_true, Bool.not_false, if_true, Bool.false_eq_true, if_false]
        have e5 : i + 1 + 1 = i + 2 := rfl
        rw [e5]; omega
      · intro x hx'
        rcases List.mem_cons.mp hx' with rfl | hx'
        · omega
        · exact h3 x hx'
    · rw [if_neg h1, shunterref04_Words_k5, ck_pos _ (by omega), Int.toNat_natCast, e2]
      rw [ck_pos _ (by omega), ck_pos _ (by omega), ck_pos _ (by simp only [List.length_singleton]; omega), ck_pos _ (by omega)]
      obtain ⟨f, rfl⟩ : ∃ n, f = n + 1 := ⟨f - 1, by omega⟩
      refine ⟨[256 * (((b[i]!).toNat : Nat) : Int) + 0], ?_, ?_, ?_, by simp only [List.length_singleton]; omega⟩
      · rw [shunterref04_Words_l3, if_neg (by omega)]
      · rw [hd, List.drop_of_length_le (by omega), psum, psum]; simp
      · intro x hx'
        rw [List.mem_singleton] at hx'; omega
  · rw [if_neg h]
    refine ⟨[], by rw [List.append_nil], ?_, fun x h => (nomatch h), Nat.zero_le _⟩
    rw [List.drop_of_length_le (by omega)]; rfl
theorem words_s (N : Nat) (b : List UInt8) (hb : b.length ≤ 100000) (hN : b.length < N) :
    ∃ W : List Int, shunterref04_Words_m N b = some W ∧ W.sum = (psum true b : Int) ∧ (∀ x ∈ W, 0 ≤ x ∧ x ≤ 65535) ∧ W.length ≤ b.length := by
  obtain ⟨W, h1, h2, h3, h4⟩ := words_loop b hb b.length N 0 [] (by omega) hN (by omega) (by simp)
  exact ⟨W, by rw [shunterref04_Words_m]; exact h1, h2, h3, h4⟩
theorem total_fold : ∀ (f n : Nat), n < 65536 + 65535 * f → n ≤ 4611686018427387904 → shunterref04_Total_l5 (f + 1) (n : Int) = some (foldN n : Int) := by
  intro f
  induction f with
  | zero =>
    intro n h _
    rw [shunterref04_Total_l5, if_neg (by omega), foldN_id (by omega)]
  | succ f ih =>
    intro n h hn
    rw [shunterref04_Total_l5]
    by_cases h1 : (n : Int) > 65535
    · have e : ((n : Int) / 65536 + (n : Int) % 65536) = ((n / 65536 + n % 65536 : Nat) : Int) := by omega
      rw [if_pos h1, ck_pos _ (by omega), ck_pos _ (by omega), ck_pos _ (by omega), e, ih _ (by omega) (by omega), foldN_step (by omega)]
    · rw [if_neg h1, foldN_id (by omega)]
theorem total_loop (N : Nat) (l : List Int) (hl : l.length ≤ 100000) (hb : ∀ x ∈ l, 0 ≤ x ∧ x ≤ 65535) : ∀ (k f i n : Nat), i + k = l.length → k < f → n ≤ 65535 * i →
    shunterref04_Total_l3 N l f (n : Int) (i : Int) = shunterref04_Total_l5 N ((n : Int) + (l.drop i).sum) := by
  intro k
  induction k with
  | zero =>
    intro f i n hi hf hn
    obtain ⟨f, rfl⟩ : ∃ n, f = n + 1 := ⟨f - 1, by omega⟩
    rw [shunterref04_Total_l3, if_neg (by omega), List.drop_of_length_le (by omega), List.sum_nil, Int.add_zero]
  | succ k ih =>
    intro f i n hi hf hn
    obtain ⟨f, rfl⟩ : ∃ n, f = n + 1 := ⟨f - 1, by omega⟩
    have hx := hb (l[i]!) (by rw [getElem!_pos l i (by omega)]; exact List.getElem_mem _)
    have e1 : (i : Int) + 1 = ((i + 1 : Nat) : Int) := by omega
    have e2 : (n : Int) + l[i]! = ((n + (l[i]!).toNat : Nat) : Int) := by omega
    rw [shunterref04_Total_l3, if_pos (by omega), ck_pos _ (by omega), Int.toNat_natCast, ck_pos _ (by omega), ck_pos _ (by omega), e1, e2, ih f (i + 1) _ (by omega) (by omega) (by omega), drop_consI l i (by omega), List.sum_cons]
    congr 1
    omega
theorem sum_nn (l : List Int) (hb : ∀ x ∈ l, 0 ≤ x ∧ x ≤ 65535) : 0 ≤ l.sum ∧ l.sum ≤ 65535 * (l.length : Int) := by
  induction l with
  | nil => simp
  | cons x r ih =>
    have h1 := hb x (by simp)
    have h2 := ih (fun y hy => hb y (by simp [hy]))
    rw [List.sum_cons, List.length_cons]; omega
theorem total_s (N : Nat) (l : List Int) (hl : l.length ≤ 100000) (hN : l.length + 1 < N) (hb : ∀ x ∈ l, 0 ≤ x ∧ x ≤ 65535) : shunterref04_Total_m N l = some (foldN l.sum.toNat : Int) := by
  have h := sum_nn l hb
  obtain ⟨f, rfl⟩ : ∃ n, N = n + 1 := ⟨N - 1, by omega⟩
  rw [shunterref04_Total_m]
  have := total_loop (f + 1) l hl hb l.length (f + 1) 0 0 (by omega) (by omega) (by omega)
  have e : ((0 : Nat) : Int) + (l.drop 0).sum = ((l.sum.toNat : Nat) : Int) := by rw [List.drop_zero]; omega
  rw [e, total_fold f _ (by omega) (by omega)] at this
  exact this
theorem sum_s (N : Nat) (b : List UInt8) (hb : b.length ≤ 100000) (hN : b.length + 1 < N) : shunterref04_Sum_m N b = some (65535 - (foldN (psum true b) : Int)) := by
  obtain ⟨W, h1, h2, h3, h4⟩ := words_s N b hb (by omega)
  have hf := foldN_le (psum true b)
  rw [shunterref04_Sum_m, h1, Option.bind_some, total_s N W (by omega) (by omega) h3, Option.bind_some, h2, Int.toNat_natCast, ck_pos _ (by omega)]
theorem sum_sc (N : Nat) (b : List UInt8) (hb : b.length ≤ 100000) (hN : b.length + 1 < N) : shunterref04_Sum_m N b = some (((csum b).toNat : Nat) : Int) := by
  rw [sum_s N b hb hN, csum_i]
/-- may a checksum lie there? -/
def placeB (b : List UInt8) (at' : Int) : Bool := decide (0 ≤ at' ∧ at' % 2 = 0 ∧ at' ≤ (b.length : Int) - 2)
theorem placeB_t {b : List UInt8} {at' : Int} (h : placeB b at' = true) : 0 ≤ at' ∧ at' % 2 = 0 ∧ at' ≤ (b.length : Int) - 2 := of_decide_eq_true h
theorem place_s (N : Nat) (b : List UInt8) (hb : b.length ≤ 100000) (at' : Int) (h63 : at' ≤ 9223372036854775807) : shunterref04_Place_m N b at' = some (placeB b at') := by
  unfold shunterref04_Place_m placeB
  by_cases h1 : at' ≥ 0
  · rw [if_pos h1, ck_pos _ (by omega)]
    by_cases h2 : at' % 2 = 0
    · rw [if_pos h2, ck_pos _ (by omega)]
      congr 1
      apply decide_eq_decide.mpr; omega
    · rw [if_neg h2]
      congr 1
      exact (decide_eq_false (by omega)).symm
  · rw [if_neg h1]
    congr 1
    exact (decide_eq_false (by omega)).symm
/-- two bytes laid at a place -/
def put2 (b : List UInt8) (at' : Nat) (x y : UInt8) : List UInt8 := (b.set at' x).set (at' + 1) y
theorem put2_len (b : List UInt8) (at' : Nat) (x y : UInt8) : (put2 b at' x y).length = b.length := by unfold put2; rw [List.length_set, List.length_set]
theorem refwithout_s (N : Nat) (b : List UInt8) (hb : b.length ≤ 100000) (hN : b.length + 1 < N) (at' : Int) (h : placeB b at' = true) :
    shunterref04_Without_m N b at' = some (((csum (put2 b at'.toNat 0 0)).toNat : Nat) : Int) := by
  obtain ⟨h1, h2, h3⟩ := placeB_t h
  unfold shunterref04_Without_m
  have e : (at' + 1).toNat = at'.toNat + 1 := by omega
  rw [ck_pos _ (by simp only [List.length_nil]; omega), List.nil_append, ck_pos _ (by omega), ck_pos _ (by omega), ck_pos _ (by rw [List.length_set]; omega), e]
  have := sum_sc N (put2 b at'.toNat 0 0) (by rw [put2_len]; omega) (by rw [put2_len]; omega)
  unfold put2 at this ⊢
  rw [this]; rfl
end Go.Proofs.Ytolfjcihohjknaa
