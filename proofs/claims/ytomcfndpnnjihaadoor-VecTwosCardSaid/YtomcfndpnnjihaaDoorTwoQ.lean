/- Sums, differences and what is done bit by bit, of two rows. Conditions: none but those written. -/
import Derived.Test.YtomcfndpnnjihaaDoorTwoP
namespace Go.Proofs.YtomcfndpnnjihaaDoor
open Go Go.RowKit Go.Eng
/-- Both come to the same, if they do where the rows may be. -/
theorem two_eq (N : Nat) (hN : 128 < N) (op : List UInt8) (v : Int) (x : BitVec 128) (w : Int) (y : BitVec 128) (R : Int × BitVec 128) (V : Option (Int × BitVec 128 × Int))
    (hV : V = some (if mayB v x = true ∧ mayB w y = true then (if v = w then (R.1, R.2, 0) else (0, 0#128, 9)) else (0, 0#128, 1)))
    (h : mayB v x = true → mayB w y = true → v = w → twoTail N op (bitsL v.toNat x) (bitsL v.toNat y) (decide (x < y)) (decide (x = y)) = some (R.1, R.2, 0)) :
    ∃ A, V = some A ∧ shunterref02_Two_m N op v x w y = some A := by
  subst hV
  rw [two_s N hN]
  refine ⟨_, rfl, ?_⟩
  by_cases h1 : mayB v x = true ∧ mayB w y = true
  · rw [if_pos h1, if_pos h1]
    by_cases e : v = w
    · rw [if_pos e, if_pos e]; exact h h1.1 h1.2 e
    · rw [if_neg e, if_neg e]
  · rw [if_neg h1, if_neg h1]
theorem plainY (op : List UInt8) (y : BitVec 128) (h1 : ¬ op = [115, 117, 98]) (h2 : ¬ op = [115, 117, 98, 115, 97, 116]) : ∀ i, i < 128 → y.getLsbD i = (if op = [115, 117, 98] ∨ op = [115, 117, 98, 115, 97, 116] then !(y.getLsbD i) else y.getLsbD i) := fun i _ => by
  rw [if_neg (fun h => h.elim h1 h2)]
theorem turnY (op : List UInt8) (y : BitVec 128) (h : op = [115, 117, 98] ∨ op = [115, 117, 98, 115, 97, 116]) : ∀ i, i < 128 → (~~~y).getLsbD i = (if op = [115, 117, 98] ∨ op = [115, 117, 98, 115, 97, 116] then !(y.getLsbD i) else y.getLsbD i) := fun i hi => by
  rw [if_pos h, BitVec.getLsbD_not, decide_eq_true hi, Bool.true_and]
theorem add_eq (N : Nat) (hN : 128 < N) (v : Int) (x : BitVec 128) (w : Int) (y : BitVec 128) : ∃ A, vec_Add_m N v x w y = some A ∧ shunterref02_Two_m N [97, 100, 100] v x w y = some A := by
  refine two_eq N hN _ v x w y (v, (x + y) &&& onesI v) _ ?_ (fun hx _ _ => ?_)
  · unfold vec_Add_m
    rw [pair_s N v x w y _ (v, (x + y) &&& onesI v) (fun hx _ _ => by
      have := may_w hx
      unfold vec_Add_1_m; rw [lowest_s _ _ _ (by omega), Option.bind_some]), Option.bind_some]
  · have hw := may_w hx
    refine tail_id N hN _ x y y (x + y) v ⟨hw.1, hw.2.1⟩ _ _ (by decide) false (by decide) (plainY _ y (by decide) (by decide)) (fun h => absurd h.1 (by decide)) (fun h => absurd h.1 (by decide)) (fun i hi => ?_)
    rw [← add_zero_c x y, sum_bit _ _ _ _ hi]; rfl
theorem sub_eq' (N : Nat) (hN : 128 < N) (v : Int) (x : BitVec 128) (w : Int) (y : BitVec 128) : ∃ A, vec_Sub_m N v x w y = some A ∧ shunterref02_Two_m N [115, 117, 98] v x w y = some A := by
  refine two_eq N hN _ v x w y (v, (x - y) &&& onesI v) _ (sub_s N v x w y) (fun hx _ _ => ?_)
  have hw := may_w hx
  refine tail_id N hN _ x y (~~~y) (x - y) v ⟨hw.1, hw.2.1⟩ _ _ (by decide) true (by decide) (turnY _ y (.inl rfl)) (fun h => absurd h.1 (by decide)) (fun h => absurd h.1 (by decide)) (fun i hi => ?_)
  rw [← sub_sum x y, sum_bit _ _ _ _ hi]; rfl
theorem low_ones (w : Int) : onesI w &&& onesI w = onesI w := BitVec.and_self
theorem len_gt (z : BitVec 128) (w : Int) (h1 : 1 ≤ w) : ((len128 z : Nat) : Int) > w ↔ 2 ^ w.toNat ≤ z.toNat := by
  obtain ⟨h3, h4, _⟩ := len128_spec z
  constructor
  · intro h
    exact Nat.le_trans (Nat.pow_le_pow_right (by decide) (by omega)) (h4 (by omega))
  · intro h
    refine Int.not_le.1 fun hle => ?_
    have : 2 ^ len128 z ≤ 2 ^ w.toNat := Nat.pow_le_pow_right (by decide) (by omega)
    omega
theorem addsat_1 (N : Nat) (v : Int) (x y : BitVec 128) (hx : mayB v x = true) (hy : mayB v y = true) : vec_AddSat_1_m N x y v x = some (v, if BitVec.carry v.toNat x y false = true then onesI v else (x + y) &&& onesI v) := by
  have hw := may_w hx
  have bx : x.toNat < 2 ^ v.toNat := by rw [← lowN_may hx]; exact Nat.mod_lt _ (Nat.two_pow_pos _)
  have by' : y.toNat < 2 ^ v.toNat := by rw [← lowN_may hy]; exact Nat.mod_lt _ (Nat.two_pow_pos _)
  have hc : BitVec.carry v.toNat x y false = decide (2 ^ v.toNat ≤ x.toNat + y.toNat) := by
    unfold BitVec.carry
    rw [Nat.mod_eq_of_lt bx, Nat.mod_eq_of_lt by']
    exact decide_eq_decide.2 (by simp)
  have hpow : 2 ^ v.toNat ≤ 2 ^ 128 := Nat.pow_le_pow_right (by decide) (by omega)
  unfold vec_AddSat_1_m vec_AddSat_1_k2
  rw [carry_iff, hc, Bool.toNat_false, Nat.add_zero]
  by_cases h : 2 ^ 128 ≤ x.toNat + y.toNat
  · rw [decide_eq_true h, if_pos rfl, ck_pos _ (by omega), lowest_s _ _ _ (by omega), Option.bind_some, low_ones, decide_eq_true (Nat.le_trans hpow h), if_pos rfl]
  · rw [decide_eq_false h, if_neg (by decide)]
    have hs : (x + y).toNat = x.toNat + y.toNat := by rw [BitVec.toNat_add, Nat.mod_eq_of_lt (by omega)]
    by_cases h2 : ((len128 (x + y) : Nat) : Int) > v
    · have := (len_gt _ _ hw.1).1 h2
      rw [hs] at this
      rw [if_pos h2, ck_pos _ (by omega), lowest_s _ _ _ (by omega), Option.bind_some, low_ones, decide_eq_true this, if_pos rfl]
    · have : ¬ 2 ^ v.toNat ≤ x.toNat + y.toNat := fun hle => h2 ((len_gt _ _ hw.1).2 (by rw [hs]; exact hle))
      rw [if_neg h2, lowest_s _ _ _ (by omega), Option.bind_some, decide_eq_false this, if_neg (by decide)]
theorem addsat_eq (N : Nat) (hN : 128 < N) (v : Int) (x : BitVec 128) (w : Int) (y : BitVec 128) : ∃ A, vec_AddSat_m N v x w y = some A ∧ shunterref02_Two_m N [97, 100, 100, 115, 97, 116] v x w y = some A := by
  refine two_eq N hN _ v x w y (v, if BitVec.carry v.toNat x y false = true then onesI v else (x + y) &&& onesI v) _ ?_ (fun hx _ _ => ?_)
  · unfold vec_AddSat_m
    rw [pair_s N v x w y _ (v, if BitVec.carry v.toNat x y false = true then onesI v else (x + y) &&& onesI v) (fun hx hy e => by
      subst e
      exact addsat_1 N v x y hx hy), Option.bind_some]
  · have hw := may_w hx
    by_cases hc : BitVec.carry v.toNat x y false = true
    · rw [if_pos hc]
      have := tail_all N hN [97, 100, 100, 115, 97, 116] x y y v ⟨hw.1, hw.2.1⟩ (decide (x < y)) (decide (x = y)) (by decide) false true (by decide) (plainY _ y (by decide) (by decide)) (.inl ⟨rfl, hc, rfl⟩)
      rw [if_pos rfl] at this; exact this
    · rw [if_neg hc]
      refine tail_id N hN _ x y y (x + y) v ⟨hw.1, hw.2.1⟩ _ _ (by decide) false (by decide) (plainY _ y (by decide) (by decide)) (fun h => hc h.2) (fun h => absurd h.1 (by decide)) (fun i hi => ?_)
      rw [← add_zero_c x y, sum_bit _ _ _ _ hi]; rfl
theorem subsat_eq (N : Nat) (hN : 128 < N) (v : Int) (x : BitVec 128) (w : Int) (y : BitVec 128) : ∃ A, vec_SubSat_m N v x w y = some A ∧ shunterref02_Two_m N [115, 117, 98, 115, 97, 116] v x w y = some A := by
  refine two_eq N hN _ v x w y (v, if x < y then 0#128 else (x - y) &&& onesI v) _ ?_ (fun hx _ _ => ?_)
  · unfold vec_SubSat_m
    rw [pair_s N v x w y _ (v, if x < y then 0#128 else (x - y) &&& onesI v) (fun hx _ _ => by
      have := may_w hx
      unfold vec_SubSat_1_m vec_SubSat_1_k2
      by_cases h : x < y
      · rw [if_pos h, if_pos h, lowest_s _ _ _ (by omega), Option.bind_some, zz, BitVec.zero_and]
      · rw [if_neg h, if_neg h, lowest_s _ _ _ (by omega), Option.bind_some]), Option.bind_some]
  · have hw := may_w hx
    by_cases h : x < y
    · rw [if_pos h]
      have := tail_all N hN [115, 117, 98, 115, 97, 116] x y (~~~y) v ⟨hw.1, hw.2.1⟩ (decide (x < y)) (decide (x = y)) (by decide) true false (by decide) (turnY _ y (.inr rfl)) (.inr ⟨rfl, decide_eq_true h, rfl⟩)
      rw [if_neg (by decide)] at this; exact this
    · rw [if_neg h]
      refine tail_id N hN _ x y (~~~y) (x - y) v ⟨hw.1, hw.2.1⟩ _ _ (by decide) true (by decide) (turnY _ y (.inr rfl)) (fun h' => absurd h'.1 (by decide)) (fun h' => h (of_decide_eq_true h'.2)) (fun i hi => ?_)
      rw [← sub_sum x y, sum_bit _ _ _ _ hi]; rfl
theorem bitwise_s (N : Nat) (v : Int) (x : BitVec 128) (w : Int) (y : BitVec 128) (F : BitVec 128 → BitVec 128 → Option (BitVec 128)) (z : BitVec 128) (hF : F x y = some z) :
    vec_bitwise_m N v x w y F = some (if mayB v x = true ∧ mayB w y = true then (if v = w then (v, z &&& onesI v, 0) else (0, 0#128, 9)) else (0, 0#128, 1)) := by
  unfold vec_bitwise_m
  rw [pair_s N v x w y _ (v, z &&& onesI v) (fun hx _ _ => by
    have := may_w hx
    unfold vec_bitwise_1_m
    rw [hF, Option.bind_some, lowest_s _ _ _ (by omega), Option.bind_some]), Option.bind_some]
theorem and_eq (N : Nat) (hN : 128 < N) (v : Int) (x : BitVec 128) (w : Int) (y : BitVec 128) : ∃ A, vec_And_m N v x w y = some A ∧ shunterref02_Two_m N [97, 110, 100] v x w y = some A := by
  refine two_eq N hN _ v x w y (v, (x &&& y) &&& onesI v) _ ?_ (fun hx _ _ => ?_)
  · unfold vec_And_m; rw [bitwise_s N v x w y _ (x &&& y) rfl, Option.bind_some]
  · have hw := may_w hx
    refine tail_id N hN _ x y y (x &&& y) v ⟨hw.1, hw.2.1⟩ _ _ (by decide) false (by decide) (plainY _ y (by decide) (by decide)) (fun h => absurd h.1 (by decide)) (fun h => absurd h.1 (by decide)) (fun i _ => ?_)
    unfold finB
    rw [if_neg (by decide), if_neg (by decide), if_pos rfl, BitVec.getLsbD_and]
    cases x.getLsbD i <;> rfl
theorem or_eq (N : Nat) (hN : 128 < N) (v : Int) (x : BitVec 128) (w : Int) (y : BitVec 128) : ∃ A, vec_Or_m N v x w y = some A ∧ shunterref02_Two_m N [111, 114] v x w y = some A := by
  refine two_eq N hN _ v x w y (v, (x ||| y) &&& onesI v) _ ?_ (fun hx _ _ => ?_)
  · unfold vec_Or_m; rw [bitwise_s N v x w y _ (x ||| y) rfl, Option.bind_some]
  · have hw := may_w hx
    refine tail_id N hN _ x y y (x ||| y) v ⟨hw.1, hw.2.1⟩ _ _ (by decide) false (by decide) (plainY _ y (by decide) (by decide)) (fun h => absurd h.1 (by decide)) (fun h => absurd h.1 (by decide)) (fun i _ => ?_)
    unfold finB
    rw [if_neg (by decide), if_pos rfl, BitVec.getLsbD_or]
    cases x.getLsbD i <;> rfl
theorem xor_eq (N : Nat) (hN : 128 < N) (v : Int) (x : BitVec 128) (w : Int) (y : BitVec 128) : ∃ A, vec_Xor_m N v x w y = some A ∧ shunterref02_Two_m N [120, 111, 114] v x w y = some A := by
  refine two_eq N hN _ v x w y (v, (x ^^^ y) &&& onesI v) _ ?_ (fun hx _ _ => ?_)
  · unfold vec_Xor_m; rw [bitwise_s N v x w y _ (x ^^^ y) rfl, Option.bind_some]
  · have hw := may_w hx
    refine tail_id N hN _ x y y (x ^^^ y) v ⟨hw.1, hw.2.1⟩ _ _ (by decide) false (by decide) (plainY _ y (by decide) (by decide)) (fun h => absurd h.1 (by decide)) (fun h => absurd h.1 (by decide)) (fun i _ => ?_)
    unfold finB
    rw [if_pos rfl, BitVec.getLsbD_xor]
end Go.Proofs.YtomcfndpnnjihaaDoor
