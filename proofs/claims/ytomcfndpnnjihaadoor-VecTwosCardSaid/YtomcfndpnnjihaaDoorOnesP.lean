/- What the models of what is done to one row come to. Conditions: none but those written. -/
import Derived.Test.YtomcfndpnnjihaaDoorPartsP
import Derived.Test.YtomcfndpnnjihaaDoorLVecOnes
namespace Go.Proofs.YtomcfndpnnjihaaDoor
open Go Go.RowKit Go.Eng
def mapR (w : Nat) (B : Nat → Bool) : List Bool := (List.range w).map B
theorem mapR_len (w : Nat) (B : Nat → Bool) : (mapR w B).length = w := by simp [mapR]
theorem mapR_succ (w : Nat) (B : Nat → Bool) : mapR w B ++ [B w] = mapR (w + 1) B := by simp [mapR, List.range_succ]
theorem mapR_get (w : Nat) (B : Nat → Bool) (j : Nat) : (mapR w B)[j]! = (decide (j < w) && B j) := by
  rw [List.getElem!_eq_getElem?_getD]
  by_cases h : j < w
  · simp [mapR, h]
  · simp [mapR, h]
theorem ofR (w : Nat) (hw : w ≤ 128) (B : Nat → Bool) (y : BitVec 128) (h : ∀ j, j < 128 → y.getLsbD j = (decide (j < w) && B j)) : ofL (mapR w B) = y := by
  apply BitVec.eq_of_getLsbD_eq
  intro j hj
  rw [ofL_bit _ (by rw [mapR_len]; omega), mapR_get, h j hj]
theorem ofR_low (w : Int) (h1 : 0 ≤ w) (hw : w ≤ 128) (B : Nat → Bool) (y : BitVec 128) (h : ∀ j : Nat, (j : Int) < w → y.getLsbD j = B j) : ofL (mapR w.toNat B) = y &&& onesI w := ofR w.toNat (by omega) B _ fun j hj => by
  rw [low_bit _ _ _ hj]
  by_cases hw : (j : Int) < w
  · rw [h j hw, decide_eq_true hw, decide_eq_true (show j < w.toNat by omega)]; simp
  · rw [decide_eq_false hw, decide_eq_false (show ¬ j < w.toNat by omega)]; simp
def oneBody (op : List UInt8) (n : Int) (r : List Bool) (w : Int) (out : List Bool) (c : Bool) (i : Int) (rec : List Bool → Bool → Int → Option (Int × BitVec 128 × Int)) : Option (Int × BitVec 128 × Int) :=
  if i < ((r).length : Int) then ck (0 ≤ i ∧ i < ((r).length : Int)) (shunterref02_One_k12 op n r w out c i rec ((r)[(i).toNat]!)) else shunterref02_One_k12 op n r w out c i rec (false)
theorem one_loop (N : Nat) (hN : 128 < N) (op : List UInt8) (n : Int) (r : List Bool) (w : Nat) (hw : w ≤ 128) (B C : Nat → Bool)
    (step : ∀ i, i < w → ∀ (out : List Bool) rec, out.length = i → oneBody op n r (w : Int) out (C i) (i : Int) rec = rec (out ++ [B i]) (C (i + 1)) ((i : Int) + 1)) :
    ∀ (k f i : Nat), i + k = w → k < f → shunterref02_One_l10 N op n r (w : Int) f (mapR i B) (C i) (i : Int) = some ((w : Int), ofL (mapR w B), 0) := by
  intro k
  induction k with
  | zero =>
    intro f i hi hf
    obtain ⟨f, rfl⟩ : ∃ k, f = k + 1 := ⟨f - 1, by omega⟩
    obtain rfl : i = w := by omega
    rw [shunterref02_One_l10, if_neg (by omega), of_s N hN _ (by rw [mapR_len]; exact hw), Option.bind_some, mapR_len]
  | succ k ih =>
    intro f i hi hf
    obtain ⟨f, rfl⟩ : ∃ k, f = k + 1 := ⟨f - 1, by omega⟩
    rw [shunterref02_One_l10, if_pos (by omega)]
    have h1 := step i (by omega) (mapR i B) (shunterref02_One_l10 N op n r (w : Int) f) (mapR_len i B)
    unfold oneBody at h1
    rw [h1, mapR_succ]
    exact ih f (i + 1) (by omega) (by omega)
theorem k21_s (out : List Bool) (i : Nat) (hi : i < 128) (ho : out.length = i) (rec : List Bool → Bool → Int → Option (Int × BitVec 128 × Int)) (c b : Bool) : shunterref02_One_k21 out (i : Int) rec c b = rec (out ++ [b]) c ((i : Int) + 1) := by
  unfold shunterref02_One_k21
  rw [ck_pos _ (by rw [ho]; simp; omega), ck_pos _ (by omega)]
theorem body_in (op : List UInt8) (n : Int) (x : BitVec 128) (m : Nat) (w : Int) (out : List Bool) (c : Bool) (i : Nat) (hi : i < m) (rec : List Bool → Bool → Int → Option (Int × BitVec 128 × Int)) :
    oneBody op n (bitsL m x) w out c (i : Int) rec = shunterref02_One_k12 op n (bitsL m x) w out c (i : Int) rec (x.getLsbD i) := by
  unfold oneBody
  rw [bitsL_len, if_pos (by omega), ck_pos _ (by omega), Int.toNat_natCast, bitsL_get, decide_eq_true hi, Bool.true_and]
theorem body_out (op : List UInt8) (n : Int) (x : BitVec 128) (m : Nat) (w : Int) (out : List Bool) (c : Bool) (i : Nat) (hi : ¬ i < m) (rec : List Bool → Bool → Int → Option (Int × BitVec 128 × Int)) :
    oneBody op n (bitsL m x) w out c (i : Int) rec = shunterref02_One_k12 op n (bitsL m x) w out c (i : Int) rec false := by
  unfold oneBody
  rw [bitsL_len, if_neg (by omega)]
/-- What is done to a row that may be, by an operation that isn't 'cast'. -/
theorem one_plain (N : Nat) (hN : 128 < N) (op : List UInt8) (n w : Int) (x : BitVec 128) (hm : mayB w x = true) (h1 : ¬ op = [99, 97, 115, 116]) (h2 : op = [115, 104, 108] ∨ op = [115, 104, 114] → 0 ≤ n) (B C : Nat → Bool) (h0 : C 0 = true)
    (step : ∀ i, i < w.toNat → ∀ (out : List Bool) rec, out.length = i → shunterref02_One_k12 op n (bitsL w.toNat x) w out (C i) (i : Int) rec (x.getLsbD i) = rec (out ++ [B i]) (C (i + 1)) ((i : Int) + 1)) :
    shunterref02_One_m N op w x n = some (w, ofL (mapR w.toNat B), 0) := by
  have hw := may_w hm
  unfold shunterref02_One_m
  rw [rmay_s, Option.bind_some, if_pos hm]
  have key : shunterref02_One_k2 N op w x n 0 ((0#64) ++ (0#64)) = some (w, ofL (mapR w.toNat B), 0) := by
    unfold shunterref02_One_k2 shunterref02_One_k4 shunterref02_One_k6
    rw [if_neg h1, bits_s N w x hN (by omega) (by omega), Option.bind_some, if_neg h1, bitsL_len]
    have e : ((w.toNat : Nat) : Int) = w := by omega
    have := one_loop N hN op n (bitsL w.toNat x) w.toNat (by omega) B C (fun i hi out rec ho => by
      rw [body_in _ _ _ _ _ _ _ _ hi, e]; exact step i hi out rec ho) w.toNat N 0 (by omega) (by omega)
    rw [h0, e] at this
    rw [e]; exact this
  by_cases h3 : op = [115, 104, 108]
  · rw [if_pos h3, if_neg (by have := h2 (.inl h3); omega)]; exact key
  · rw [if_neg h3]
    by_cases h4 : op = [115, 104, 114]
    · rw [if_pos h4, if_neg (by have := h2 (.inr h4); omega)]; exact key
    · rw [if_neg h4]; exact key
theorem zz : ((0#64) ++ (0#64) : BitVec 128) = 0#128 := by decide
theorem one_bad (N : Nat) (op : List UInt8) (n w : Int) (x : BitVec 128) (hm : ¬ mayB w x = true) : shunterref02_One_m N op w x n = some (0, 0#128, 1) := by
  unfold shunterref02_One_m
  rw [rmay_s, Option.bind_some, if_neg hm, zz]
theorem not_eq (N : Nat) (hN : 128 < N) (n w : Int) (x : BitVec 128) : ∃ A, vec_Not_m N w x = some A ∧ shunterref02_One_m N [110, 111, 116] w x n = some A := by
  unfold vec_Not_m vec_Word_m
  rw [vmay_s, Option.bind_some]
  by_cases hm : mayB w x = true
  · have hw := may_w hm
    rw [if_pos hm, Option.bind_some, lowest_s _ _ _ (by omega), Option.bind_some]
    refine ⟨_, rfl, ?_⟩
    rw [one_plain N hN _ n w x hm (by decide) (fun h => by rcases h with h | h <;> exact absurd h (by decide)) (fun i => !(x.getLsbD i)) (fun _ => true) rfl (fun i hi out rec ho => by
      unfold shunterref02_One_k12 shunterref02_One_k14 shunterref02_One_k17 shunterref02_One_k19
      rw [if_pos rfl, if_neg (by decide), if_neg (by decide), if_neg (by decide), k21_s out i (by omega) ho])]
    rw [ofR_low w (by omega) (by omega) _ (~~~x) (fun j hj => by rw [BitVec.getLsbD_not, decide_eq_true (by omega)]; simp)]
  · rw [if_neg hm, one_bad N _ n w x hm, zz]; exact ⟨_, rfl, rfl⟩
theorem unlike_s (N : Nat) (v : Int) (x : BitVec 128) (w : Int) (y : BitVec 128) : vec_unlike_m N v x w y = some (if mayB v x = true ∧ mayB w y = true then (if v = w then 0 else 9) else 1) := by
  unfold vec_unlike_m
  rw [vmay_s, Option.bind_some]
  by_cases hx : mayB v x = true
  · rw [if_pos hx, vmay_s, Option.bind_some]
    by_cases hy : mayB w y = true
    · rw [if_pos hy, if_pos ⟨hx, hy⟩]
      unfold vec_unlike_k1
      by_cases h : v = w
      · rw [if_neg (by simp [h]), if_pos h]
      · rw [if_pos h, if_neg h]
    · rw [if_neg hy, if_neg (fun h => hy h.2)]
  · rw [if_neg hx, if_neg (fun h => hx h.1)]
theorem pair_s (N : Nat) (v : Int) (x : BitVec 128) (w : Int) (y : BitVec 128) (F : BitVec 128 → BitVec 128 → Option (Int × BitVec 128)) (R : Int × BitVec 128) (hF : mayB v x = true → mayB w y = true → v = w → F x y = some R) :
    vec_pair_m N v x w y F = some (if mayB v x = true ∧ mayB w y = true then (if v = w then (R.1, R.2, 0) else (0, 0#128, 9)) else (0, 0#128, 1)) := by
  unfold vec_pair_m vec_Word_m
  rw [unlike_s, Option.bind_some]
  by_cases h : mayB v x = true ∧ mayB w y = true
  · rw [if_pos h, if_pos h]
    by_cases e : v = w
    · rw [if_pos e, if_neg (by decide), if_pos e, Option.bind_some, Option.bind_some, hF h.1 h.2 e, Option.bind_some]
    · rw [if_neg e, if_pos (by decide), if_neg e, zz]
  · rw [if_neg h, if_pos (by decide), if_neg h, zz]
theorem sub_s (N : Nat) (v : Int) (x : BitVec 128) (w : Int) (y : BitVec 128) : vec_Sub_m N v x w y = some (if mayB v x = true ∧ mayB w y = true then (if v = w then (v, (x - y) &&& onesI v, 0) else (0, 0#128, 9)) else (0, 0#128, 1)) := by
  unfold vec_Sub_m
  rw [pair_s N v x w y _ (v, (x - y) &&& onesI v) (fun hx _ _ => by
    have := may_w hx
    unfold vec_Sub_1_m
    rw [lowest_s _ _ _ (by omega), Option.bind_some]), Option.bind_some]
theorem may_zero {w : Int} (h1 : 1 ≤ w) (h2 : w ≤ 128) : mayB w 0#128 = true := may_of h1 h2 fun j _ => by simp
theorem neg_eq (N : Nat) (hN : 128 < N) (n w : Int) (x : BitVec 128) : ∃ A, vec_Neg_m N w x = some A ∧ shunterref02_One_m N [110, 101, 103] w x n = some A := by
  unfold vec_Neg_m
  rw [zz, sub_s, Option.bind_some]
  by_cases hm : mayB w x = true
  · have hw := may_w hm
    rw [if_pos ⟨may_zero hw.1 hw.2.1, hm⟩, if_pos rfl]
    refine ⟨_, rfl, ?_⟩
    rw [one_plain N hN _ n w x hm (by decide) (fun h => by rcases h with h | h <;> exact absurd h (by decide)) (fun i => (!(x.getLsbD i)) != BitVec.carry i 0#128 (~~~x) true) (fun i => BitVec.carry i 0#128 (~~~x) true) (by simp) (fun i hi out rec ho => by
      have hc : BitVec.carry (i + 1) 0#128 (~~~x) true = (!(x.getLsbD i) && BitVec.carry i 0#128 (~~~x) true) := by
        rw [sum_carry, BitVec.getLsbD_zero, if_neg (by decide), BitVec.getLsbD_not, decide_eq_true (show i < 128 by omega), Bool.true_and]
      rw [hc]
      unfold shunterref02_One_k12 shunterref02_One_k14 shunterref02_One_k17 shunterref02_One_k19
      rw [if_neg (by decide), if_pos rfl]
      cases hb : x.getLsbD i
      · rw [if_neg (by decide), if_neg (by decide), if_neg (by decide), k21_s out i (by omega) ho]; rfl
      · rw [if_pos rfl, if_neg (by decide), if_neg (by decide), k21_s out i (by omega) ho]; rfl)]
    rw [ofR_low w (by omega) (by omega) _ (0#128 - x) (fun j hj => by
      rw [← sub_sum, sum_bit _ _ _ _ (by omega), BitVec.getLsbD_zero, Bool.false_xor, BitVec.getLsbD_not, decide_eq_true (by omega), Bool.true_and])]
  · rw [if_neg (fun h => hm h.2), one_bad N _ n w x hm]; exact ⟨_, rfl, rfl⟩
theorem move_s (N : Nat) (w : Int) (x : BitVec 128) (n : Int) (F : BitVec 128 → Int → Option (BitVec 128)) (R : BitVec 128) (hF : F x n = some R) :
    vec_move_m N w x n F = some (if mayB w x = true then (if n < 0 then (0, 0#128, 7) else (w, R &&& onesI w, 0)) else (0, 0#128, 1)) := by
  unfold vec_move_m vec_Word_m
  rw [vmay_s, Option.bind_some]
  by_cases hm : mayB w x = true
  · have hw := may_w hm
    rw [if_pos hm, if_pos hm]
    by_cases h : n < 0
    · rw [if_pos h, if_pos h, zz]
    · rw [if_neg h, if_neg h, Option.bind_some, hF, Option.bind_some, lowest_s _ _ _ (by omega), Option.bind_some]
  · rw [if_neg hm, if_neg hm, zz]
theorem one_low (N : Nat) (op : List UInt8) (n w : Int) (x : BitVec 128) (hm : mayB w x = true) (h : op = [115, 104, 108] ∨ op = [115, 104, 114]) (hn : n < 0) : shunterref02_One_m N op w x n = some (0, 0#128, 7) := by
  unfold shunterref02_One_m
  rw [rmay_s, Option.bind_some, if_pos hm]
  rcases h with rfl | rfl
  · rw [if_pos rfl, if_pos hn, zz]
  · rw [if_neg (by decide), if_pos rfl, if_pos hn, zz]
theorem shl_eq (N : Nat) (hN : 128 < N) (n w : Int) (x : BitVec 128) (hr : -9223372036854775808 ≤ n ∧ n ≤ 9223372036854775807) : ∃ A, vec_Shl_m N w x n = some A ∧ shunterref02_One_m N [115, 104, 108] w x n = some A := by
  unfold vec_Shl_m
  rw [move_s N w x n _ (shiftI x n) (by rw [ck_pos _ hr]), Option.bind_some]
  by_cases hm : mayB w x = true
  · have hw := may_w hm
    rw [if_pos hm]
    by_cases hn : n < 0
    · rw [if_pos hn, one_low N _ n w x hm (.inl rfl) hn]; exact ⟨_, rfl, rfl⟩
    · rw [if_neg hn]
      refine ⟨_, rfl, ?_⟩
      rw [one_plain N hN _ n w x hm (by decide) (fun _ => by omega) (fun i => decide (n ≤ (i : Int)) && x.getLsbD (i - n.toNat)) (fun _ => true) rfl (fun i hi out rec ho => by
        unfold shunterref02_One_k12 shunterref02_One_k14 shunterref02_One_k17 shunterref02_One_k19
        rw [if_neg (by decide), if_neg (by decide), if_pos rfl]
        by_cases h : n ≤ (i : Int)
        · rw [if_pos h, Int.min_eq_left h, ck_pos _ (by omega), ck_pos _ (by rw [bitsL_len]; omega), if_neg (by decide), k21_s out i (by omega) ho, bitsL_get, decide_eq_true (show ((i : Int) - n).toNat < w.toNat by omega), decide_eq_true h, show ((i : Int) - n).toNat = i - n.toNat by omega]
        · rw [if_neg h, if_neg (by decide), k21_s out i (by omega) ho, decide_eq_false h, Bool.false_and])]
      rw [ofR_low w (by omega) (by omega) _ (shiftI x n) (fun j hj => by
        rw [← shiftI_pos hn, BitVec.getLsbD_shiftLeft, decide_eq_true (show j < 128 by omega)]
        by_cases h : n ≤ (j : Int)
        · rw [decide_eq_true h, decide_eq_false (by omega)]; simp
        · rw [decide_eq_false h, decide_eq_true (by omega)]; simp)]
  · rw [if_neg hm, one_bad N _ n w x hm]; exact ⟨_, rfl, rfl⟩
theorem shr_eq (N : Nat) (hN : 128 < N) (n w : Int) (x : BitVec 128) (hr : -9223372036854775808 ≤ n ∧ n ≤ 9223372036854775807) : ∃ A, vec_Shr_m N w x n = some A ∧ shunterref02_One_m N [115, 104, 114] w x n = some A := by
  unfold vec_Shr_m
  rw [move_s N w x n _ (shiftI x (-n)) (by rw [ck_pos _ hr]), Option.bind_some]
  by_cases hm : mayB w x = true
  · have hw := may_w hm
    rw [if_pos hm]
    by_cases hn : n < 0
    · rw [if_pos hn, one_low N _ n w x hm (.inr rfl) hn]; exact ⟨_, rfl, rfl⟩
    · rw [if_neg hn]
      refine ⟨_, rfl, ?_⟩
      rw [one_plain N hN _ n w x hm (by decide) (fun _ => by omega) (fun i => x.getLsbD (n.toNat + i)) (fun _ => true) rfl (fun i hi out rec ho => by
        unfold shunterref02_One_k12 shunterref02_One_k14 shunterref02_One_k17 shunterref02_One_k19
        rw [if_neg (by decide), if_neg (by decide), if_neg (by decide), if_pos rfl, ck_pos _ (by omega)]
        by_cases h : n < w - (i : Int)
        · rw [if_pos h, Int.min_eq_left (show n ≤ w by omega), Int.min_eq_left (show (i : Int) + n ≤ w - 1 by omega), ck_pos _ (by omega), ck_pos _ (by omega), ck_pos _ (by rw [bitsL_len]; omega), k21_s out i (by omega) ho, bitsL_get, decide_eq_true (show ((i : Int) + n).toNat < w.toNat by omega), Bool.true_and, show ((i : Int) + n).toNat = n.toNat + i by omega]
        · rw [if_neg h, k21_s out i (by omega) ho, may_bit hm (n.toNat + i) (by omega)])]
      rw [ofR_low w (by omega) (by omega) _ (shiftI x (-n)) (fun j hj => by
        rw [← shiftI_down hn, BitVec.getLsbD_ushiftRight])]
  · rw [if_neg hm, one_bad N _ n w x hm]; exact ⟨_, rfl, rfl⟩
theorem cast_eq' (N : Nat) (hN : 128 < N) (n w : Int) (x : BitVec 128) : ∃ A, vec_Cast_m N w x n = some A ∧ shunterref02_One_m N [99, 97, 115, 116] w x n = some A := by
  unfold vec_Cast_m vec_Word_m
  rw [vmay_s, Option.bind_some]
  by_cases hm : mayB w x = true
  · have hw := may_w hm
    rw [if_pos hm, Option.bind_some, cut_s, Option.bind_some]
    unfold shunterref02_One_m shunterref02_One_k2
    rw [rmay_s, Option.bind_some, if_pos hm, if_neg (show ¬ ([99, 97, 115, 116] : List UInt8) = [115, 104, 108] by decide), if_neg (show ¬ ([99, 97, 115, 116] : List UInt8) = [115, 104, 114] by decide), if_pos (show ([99, 97, 115, 116] : List UInt8) = [99, 97, 115, 116] from rfl)]
    by_cases h1 : n < 1
    · rw [if_pos h1, if_neg (show ¬ (1 ≤ n ∧ n ≤ 128) by omega), zz]; exact ⟨_, rfl, rfl⟩
    · rw [if_neg h1]
      by_cases h2 : n > 128
      · rw [if_pos h2, if_neg (show ¬ (1 ≤ n ∧ n ≤ 128) by omega), zz]; exact ⟨_, rfl, rfl⟩
      · rw [if_neg h2, if_pos (show 1 ≤ n ∧ n ≤ 128 by omega)]
        refine ⟨_, rfl, ?_⟩
        unfold shunterref02_One_k4 shunterref02_One_k6
        rw [bits_s N w x hN (by omega) (by omega), Option.bind_some, if_pos rfl]
        have e : ((n.toNat : Nat) : Int) = n := by omega
        have step : ∀ (i : Nat) out (rec : List Bool → Bool → Int → Option (Int × BitVec 128 × Int)) b, i < 128 → out.length = i → shunterref02_One_k12 [99, 97, 115, 116] n (bitsL w.toNat x) n out true (i : Int) rec b = rec (out ++ [b]) true ((i : Int) + 1) := fun i out rec b hi ho => by
          unfold shunterref02_One_k12 shunterref02_One_k14 shunterref02_One_k17 shunterref02_One_k19
          rw [if_neg (by decide), if_neg (by decide), if_neg (by decide), if_neg (by decide), k21_s out i hi ho]
        have := one_loop N hN [99, 97, 115, 116] n (bitsL w.toNat x) n.toNat (by omega) (fun i => x.getLsbD i) (fun _ => true) (fun i hi out rec ho => by
          rw [e]
          by_cases h : i < w.toNat
          · rw [body_in _ _ _ _ _ _ _ _ h]; exact step i out rec _ (by omega) ho
          · rw [body_out _ _ _ _ _ _ _ _ h, may_bit hm i (by omega)]; exact step i out rec _ (by omega) ho) n.toNat N 0 (by omega) (by omega)
        rw [e] at this
        rw [ofR_low n (by omega) (by omega) _ x (fun j _ => rfl)] at this
        exact this
  · rw [if_neg hm, one_bad N _ n w x hm, zz]; exact ⟨_, rfl, rfl⟩
theorem pre_loop (N : Nat) (hN : 128 < N) (w n : Int) (h1 : 0 ≤ w) (h2 : w ≤ 128) (h3 : 0 ≤ n) (h4 : n ≤ w) : ∀ (k f i : Nat), i + k = w.toNat → k < f → shunterref02_Prefix_l7 N w n f (mapR i fun i => decide ((i : Int) ≥ w - n)) (i : Int) = some (w, ofL (mapR w.toNat fun i => decide ((i : Int) ≥ w - n)), 0) := by
  intro k
  induction k with
  | zero =>
    intro f i hi hf
    obtain ⟨f, rfl⟩ : ∃ k, f = k + 1 := ⟨f - 1, by omega⟩
    obtain rfl : i = w.toNat := by omega
    rw [shunterref02_Prefix_l7, if_neg (by omega), of_s N hN _ (by rw [mapR_len]; omega), Option.bind_some, mapR_len, show ((w.toNat : Nat) : Int) = w by omega]
  | succ k ih =>
    intro f i hi hf
    obtain ⟨f, rfl⟩ : ∃ k, f = k + 1 := ⟨f - 1, by omega⟩
    rw [shunterref02_Prefix_l7, if_pos (by omega), ck_pos _ (by omega), ck_pos _ (by rw [mapR_len]; simp; omega), ck_pos _ (by omega)]
    have := ih f (i + 1) (by omega) (by omega)
    rw [← mapR_succ] at this
    exact this
theorem prefix_eq (N : Nat) (hN : 128 < N) (w n : Int) : ∃ A, vec_Prefix_m N w n = some A ∧ shunterref02_Prefix_m N w n = some A := by
  unfold vec_Prefix_m shunterref02_Prefix_m shunterref02_Prefix_k2 shunterref02_Prefix_k4 vec_Prefix_k2
  rw [width_s, Option.bind_some]
  by_cases h1 : w < 1
  · rw [if_pos h1, decide_eq_false (by omega), if_neg (by decide)]; exact ⟨_, rfl, rfl⟩
  · rw [if_neg h1]
    by_cases h2 : w > 128
    · rw [if_pos h2, decide_eq_false (by omega), if_neg (by decide)]; exact ⟨_, rfl, rfl⟩
    · rw [if_neg h2, decide_eq_true (by omega), if_pos rfl]
      by_cases h3 : n < 0
      · rw [if_pos h3, if_pos h3]; exact ⟨_, rfl, rfl⟩
      · rw [if_neg h3, if_neg h3]
        by_cases h4 : n > w
        · rw [if_pos h4, if_pos h4]; exact ⟨_, rfl, rfl⟩
        · rw [if_neg h4, if_neg h4, ck_pos _ (by omega), ck_pos _ (by omega), ck_pos _ (by omega), lowest_s _ _ _ (by omega), Option.bind_some]
          refine ⟨_, rfl, ?_⟩
          have := pre_loop N hN w n (by omega) (by omega) (by omega) (by omega) w.toNat N 0 (by omega) (by omega)
          rw [ofR_low w (by omega) (by omega) _ (shiftI (onesI n) (w - n)) (fun j hj => by
            rw [← shiftI_pos (by omega), BitVec.getLsbD_shiftLeft, decide_eq_true (show j < 128 by omega), onesI_bit _ _ (by omega)]
            by_cases h : (j : Int) ≥ w - n
            · rw [decide_eq_true h, decide_eq_false (by omega), decide_eq_true (by omega)]; rfl
            · rw [decide_eq_false h, decide_eq_true (by omega)]; rfl)] at this
          exact this
theorem ones_s (N : Nat) (hN : 128 < N) (w : Int) (x : BitVec 128) (n : Int) (hr : -9223372036854775808 ≤ n ∧ n ≤ 9223372036854775807) : shunterlaw02_VecOnes_m N w x n = some true := by
  obtain ⟨A1, a1, b1⟩ := not_eq N hN n w x
  obtain ⟨A2, a2, b2⟩ := neg_eq N hN n w x
  obtain ⟨A3, a3, b3⟩ := shl_eq N hN n w x hr
  obtain ⟨A4, a4, b4⟩ := shr_eq N hN n w x hr
  obtain ⟨A5, a5, b5⟩ := cast_eq' N hN n w x
  obtain ⟨A6, a6, b6⟩ := prefix_eq N hN w n
  unfold shunterlaw02_VecOnes_m
  rw [a1, Option.bind_some, a2, Option.bind_some, a3, Option.bind_some, a4, Option.bind_some, a5, Option.bind_some]
  refine ckpos (by decide) ?_
  refine (congrArg (fun z => Option.bind z _) b1).trans (ifpos (by simp) (ifneg (fun h => h rfl) (ckpos (by decide) ?_)))
  refine (congrArg (fun z => Option.bind z _) b2).trans (ifpos (by simp) (ifneg (fun h => h rfl) (ckpos (by decide) ?_)))
  refine (congrArg (fun z => Option.bind z _) b3).trans (ifpos (by simp) (ifneg (fun h => h rfl) (ckpos (by decide) ?_)))
  refine (congrArg (fun z => Option.bind z _) b4).trans (ifpos (by simp) (ifneg (fun h => h rfl) (ckpos (by decide) ?_)))
  refine (congrArg (fun z => Option.bind z _) b5).trans (ifpos (by simp) (ifneg (fun h => h rfl) ?_))
  refine (congrArg (fun z => Option.bind z _) a6).trans ?_
  refine (congrArg (fun z => Option.bind z _) b6).trans ?_
  exact ifpos (by simp) (ifpos rfl (by rw [lives_s]; rfl))
end Go.Proofs.YtomcfndpnnjihaaDoor
