/- Layer 6: the law of remarks. Conditions: none but those written. Program: Try. -/
import Derived.Test.YtmdjifehblijkaaPl
import Derived.Test.YtmdjifehblijkaaLLexRemarks
namespace Go.Proofs.Ytmdjifehblijkaa
open Go Go.RowKit Go.Eng
/-- The second text's tokens are there, behind the first one's. -/
theorem rem_l8 (N : Nat) (hN : 100 < N) (r26 r35 r48 : R6 × Sum25) (X : R6) (h : r48.1 = r26.1 ++ X) (hX : X.length = r35.1.length)
    (hx : ∀ i : Nat, i < r35.1.length → (X[i]!).2.1 = (r35.1[i]!).2.1 ∧ (X[i]!).2.2.1 = (r35.1[i]!).2.2.1 ∧ (X[i]!).2.2.2.1 = (r35.1[i]!).2.2.2.1 ∧ (X[i]!).2.2.2.2.1 = (r35.1[i]!).2.2.2.2.1)
    (hb : r26.1.length + r35.1.length ≤ 100000) : ∀ (m f i : Nat), r35.1.length ≤ i + m → m < f → shunterlaw06_LexRemarks_l8 N r26 r35 r48 f (i : Int) = some true := by
  have h48 : r48.1.length = r26.1.length + r35.1.length := by rw [h, List.length_append, hX]
  intro m
  induction m with
  | zero =>
    intro f i hm hf
    obtain ⟨f, rfl⟩ : ∃ n, f = n + 1 := ⟨f - 1, by omega⟩
    rw [shunterlaw06_LexRemarks_l8, if_neg (by omega), lives_s N hN]; rfl
  | succ m ih =>
    intro f i hm hf
    obtain ⟨f, rfl⟩ : ∃ n, f = n + 1 := ⟨f - 1, by omega⟩
    by_cases hi : i < r35.1.length
    · obtain ⟨x1, x2, x3, x4⟩ := hx i hi
      have e : (r48.1)[((r26.1.length : Int) + (i : Int)).toNat]! = X[i]! := by
        rw [show ((r26.1.length : Int) + (i : Int)).toNat = r26.1.length + i by omega, h, getElem!_pos _ _ (by rw [List.length_append]; omega), getElem!_pos _ _ (by omega), List.getElem_append_right (by omega)]
        congr 1; omega
      have ei : ((i : Nat) : Int).toNat = i := Int.toNat_natCast i
      rw [shunterlaw06_LexRemarks_l8, e, ei, x1, x2, x3, x4, if_pos (by omega), ck_pos _ (by omega), ck_pos _ (by omega), ck_pos _ (by omega), if_neg (fun hh => hh rfl), ck_pos _ (by omega), ck_pos _ (by omega), ck_pos _ (by omega), if_neg (fun hh => hh rfl), ck_pos _ (by omega), ck_pos _ (by omega), ck_pos _ (by omega), if_pos (by simp), ck_pos _ (by omega), show (i : Int) + 1 = ((i + 1 : Nat) : Int) by omega]
      exact ih f (i + 1) (by omega) (by omega)
    · rw [shunterlaw06_LexRemarks_l8, if_neg (by omega), lives_s N hN]; rfl
theorem rem_l6 (N : Nat) (hN : 200000 < N) (r26 r35 r48 : R6 × Sum25) (X : R6) (h : r48.1 = r26.1 ++ X) (hX : X.length = r35.1.length)
    (hx : ∀ i : Nat, i < r35.1.length → (X[i]!).2.1 = (r35.1[i]!).2.1 ∧ (X[i]!).2.2.1 = (r35.1[i]!).2.2.1 ∧ (X[i]!).2.2.2.1 = (r35.1[i]!).2.2.2.1 ∧ (X[i]!).2.2.2.2.1 = (r35.1[i]!).2.2.2.2.1)
    (hb : r26.1.length + r35.1.length ≤ 100000) : ∀ (m f i : Nat), r26.1.length ≤ i + m → m < f → shunterlaw06_LexRemarks_l6 N r26 r35 r48 f (i : Int) = some true := by
  have h48 : r48.1.length = r26.1.length + r35.1.length := by rw [h, List.length_append, hX]
  intro m
  induction m with
  | zero =>
    intro f i hm hf
    obtain ⟨f, rfl⟩ : ∃ n, f = n + 1 := ⟨f - 1, by omega⟩
    rw [shunterlaw06_LexRemarks_l6, if_neg (by omega)]
    exact rem_l8 N (by omega) r26 r35 r48 X h hX hx hb r35.1.length N 0 (by omega) (by omega)
  | succ m ih =>
    intro f i hm hf
    obtain ⟨f, rfl⟩ : ∃ n, f = n + 1 := ⟨f - 1, by omega⟩
    by_cases hi : i < r26.1.length
    · have ei : ((i : Nat) : Int).toNat = i := Int.toNat_natCast i
      have e : (r48.1)[i]! = (r26.1)[i]! := by
        rw [h, getElem!_pos (r26.1 ++ X) i (by rw [List.length_append]; omega), getElem!_pos r26.1 i hi, List.getElem_append_left hi]
      rw [shunterlaw06_LexRemarks_l6, ei, e, if_pos (by omega), ck_pos _ (by omega), ck_pos _ (by omega), if_neg (fun hh => hh rfl), ck_pos _ (by omega), ck_pos _ (by omega), if_neg (fun hh => hh rfl), ck_pos _ (by omega), ck_pos _ (by omega), if_neg (fun hh => hh rfl), ck_pos _ (by omega), show (i : Int) + 1 = ((i + 1 : Nat) : Int) by omega]
      exact ih f (i + 1) (by omega) (by omega)
    · rw [shunterlaw06_LexRemarks_l6, if_neg (by omega)]
      exact rem_l8 N (by omega) r26 r35 r48 X h hX hx hb r35.1.length N 0 (by omega) (by omega)
theorem rem_k3 (N : Nat) (hN : 200000 < N) (a b m : List UInt8) (hm : ∀ c ∈ m, c ≠ 10) (hlen : a.length + b.length + m.length ≤ 3000) (ha : (scanL numS6 (a ++ [10])).2.2 = 0) (hb : (scanL numS6 b).2.2 = 0) :
    shunterlaw06_LexRemarks_k3 N a b m ((scanL numS6 (a ++ [10])).1.map flat6, .nil) ((scanL numS6 b).1.map flat6, .nil) = some true := by
  obtain ⟨h0, l2, h1, h2⟩ := scan_between (numS := numS6) a b m hm (by omega) ha hb
  have hla := scanL_len (a ++ [10])
  have hlb := scanL_len b
  have h2l : l2.length = (scanL numS6 b).1.length := by have := congrArg List.length h2; rwa [List.length_map, List.length_map] at this
  rw [List.length_append, List.length_singleton] at hla
  have et : (((a ++ ([10, 32, 9, 35] : List UInt8)) ++ m) ++ ([10, 13] : List UInt8)) ++ b = a ++ (10 :: 32 :: 9 :: 35 :: (m ++ 10 :: 13 :: b)) := by simp
  have hl : (a ++ (10 :: 32 :: 9 :: 35 :: (m ++ 10 :: 13 :: b))).length = a.length + m.length + b.length + 6 := by simp; omega
  unfold shunterlaw06_LexRemarks_k3
  rw [et]
  rw [ck_pos _ (by simp; omega), ck_pos _ (by simp; omega), ck_pos _ (by simp; omega), ck_pos _ (by simp; omega)]
  rw [pscan_s N _ (by omega) (by omega), Option.bind_some, out_ok h0]
  show ck _ _ = _
  have e1 : (((scanL numS6 (a ++ [10])).1.map flat6).length : Int) = ((scanL numS6 (a ++ [10])).1.length : Int) := by rw [List.length_map]
  have e2 : (((scanL numS6 b).1.map flat6).length : Int) = ((scanL numS6 b).1.length : Int) := by rw [List.length_map]
  have e3 : (((scanL numS6 (a ++ (10 :: 32 :: 9 :: 35 :: (m ++ 10 :: 13 :: b)))).1.map flat6).length : Int) = ((scanL numS6 (a ++ [10])).1.length : Int) + ((scanL numS6 b).1.length : Int) := by
    rw [List.length_map, h1, List.length_append, h2l]; omega
  rw [ck_pos _ (by rw [e1, e2]; omega), if_neg (fun hh => hh (by rw [e1, e2]; exact e3))]
  unfold shunterlaw06_LexRemarks_k4
  refine rem_l6 N hN _ _ _ (l2.map flat6) (by show List.map _ _ = List.map _ _ ++ _; rw [h1, List.map_append]) (by show List.length _ = List.length (List.map _ _); rw [List.length_map, List.length_map, h2l]) (fun i hi => ?_) (by show List.length (List.map _ _) + List.length (List.map _ _) ≤ _; rw [List.length_map, List.length_map]; omega) (a.length + 1) N 0 (by show List.length (List.map _ _) ≤ _; rw [List.length_map]; omega) (by omega)
  have hi' : i < (scanL numS6 b).1.length := by have : i < ((scanL numS6 b).1.map flat6).length := hi; rwa [List.length_map] at this
  have key : (l2[i]'(by omega)).1 = ((scanL numS6 b).1[i]).1 := by
    have := List.getElem_of_eq h2 (i := i) (by rw [List.length_map]; omega)
    rwa [List.getElem_map, List.getElem_map] at this
  have g1 : (l2.map flat6)[i]! = flat6 (l2[i]'(by omega)) := by rw [getElem!_pos (l2.map flat6) i (by rw [List.length_map]; omega), List.getElem_map]
  have g2 : ((scanL numS6 b).1.map flat6)[i]! = flat6 ((scanL numS6 b).1[i]) := by rw [getElem!_pos ((scanL numS6 b).1.map flat6) i (by rw [List.length_map]; omega), List.getElem_map]
  show ((l2.map flat6)[i]!).2.1 = (((scanL numS6 b).1.map flat6)[i]!).2.1 ∧ ((l2.map flat6)[i]!).2.2.1 = (((scanL numS6 b).1.map flat6)[i]!).2.2.1 ∧ ((l2.map flat6)[i]!).2.2.2.1 = (((scanL numS6 b).1.map flat6)[i]!).2.2.2.1 ∧ ((l2.map flat6)[i]!).2.2.2.2.1 = (((scanL numS6 b).1.map flat6)[i]!).2.2.2.2.1
  rw [g1, g2]
  unfold flat6
  rw [key]; exact ⟨rfl, rfl, rfl, rfl⟩
theorem rem_l2 (N : Nat) (hN : 200000 < N) (a b m : List UInt8) (hlen : a.length + b.length + m.length ≤ 3000) : ∀ (k f i : Nat), m.length ≤ i + k → k < f → (∀ j, j < i → m.getD j 0 ≠ 10) → shunterlaw06_LexRemarks_l2 N a b m f (i : Int) = some true := by
  have hlv := lives_s N (by omega)
  intro k
  induction k using Nat.strongRecOn with
  | _ k ih =>
  intro f i hk hf hj
  obtain ⟨f, rfl⟩ : ∃ n, f = n + 1 := ⟨f - 1, by omega⟩
  rw [shunterlaw06_LexRemarks_l2]
  by_cases hi : i < m.length
  · rw [if_pos (by omega), ck_pos _ (by omega)]
    by_cases hc : byteAt m (i : Int) = 10
    · rw [if_pos hc, hlv]; rfl
    · rw [if_neg hc, ck_pos _ (by omega), show (i : Int) + 1 = ((i + 1 : Nat) : Int) by omega]
      refine ih (k - 1) (by omega) f (i + 1) (by omega) (by omega) (fun j hj' => ?_)
      by_cases hji : j < i
      · exact hj j hji
      · obtain rfl : j = i := by omega
        intro e; apply hc
        unfold byteAt
        rw [Int.toNat_natCast, e]; rfl
  · have hm : ∀ c ∈ m, c ≠ 10 := fun c hc => by
      obtain ⟨j, hj', rfl⟩ := List.mem_iff_getElem.1 hc
      have := hj j (by omega)
      rwa [List.getD_eq_getElem?_getD, List.getElem?_eq_getElem hj', Option.getD_some] at this
    rw [if_neg (by omega), ck_pos _ (by simp only [List.length_singleton]; omega), pscan_s N _ (by rw [List.length_append, List.length_singleton]; omega) (by rw [List.length_append, List.length_singleton]; omega), Option.bind_some, pscan_s N b (by omega) (by omega), Option.bind_some, Option.bind_some, hlv]
    by_cases ha : (scanL numS6 (a ++ [10])).2.2 = 0
    · rw [out_ok ha, onN]
      by_cases hb : (scanL numS6 b).2.2 = 0
      · rw [out_ok hb, onN]
        exact rem_k3 N hN a b m hm hlen ha hb
      · rw [out_bad hb, onT, Option.bind_some]
    · rw [out_bad ha, onT]
      by_cases hb : (scanL numS6 b).2.2 = 0
      · rw [out_ok hb, onN, Option.bind_some]
      · rw [out_bad hb, onT, Option.bind_some]
theorem remarks_s (N : Nat) (hN : 200000 < N) (a b m : List UInt8) (ha : a.length < 4611686018427387904) (hb : b.length < 2305843009213693952) (hm : m.length < 2305843009213693952) : shunterlaw06_LexRemarks_m N a b m = some true := by
  unfold shunterlaw06_LexRemarks_m
  rw [ck_pos _ (by omega), ck_pos _ (by omega)]
  by_cases h : ((a.length : Int) + (b.length : Int)) + (m.length : Int) > 3000
  · rw [if_pos h, lives_s N (by omega)]; rfl
  · rw [if_neg h]; exact rem_l2 N hN a b m (by omega) m.length N 0 (by omega) (by omega) (fun j hj => absurd hj (Nat.not_lt_zero j))
end Go.Proofs.Ytmdjifehblijkaa
