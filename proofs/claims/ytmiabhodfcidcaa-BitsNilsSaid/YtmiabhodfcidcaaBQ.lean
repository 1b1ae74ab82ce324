/- What the models of bits that are put in come to, of rows that grow, and of takers. Conditions: none but those written. -/
import Derived.Test.YtmiabhodfcidcaaBP
namespace Go.Proofs.Ytmiabhodfcidcaa
open Go Go.RowKit Go.Eng

/-! ### One part that is written -/
theorem not8_bit (x : UInt8) (t : Nat) (ht : t < 8) : (~~~x).toNat.testBit t = !x.toNat.testBit t := by
  show (~~~x.toBitVec).getLsbD t = !x.toBitVec.getLsbD t
  rw [BitVec.getLsbD_not, decide_eq_true ht, Bool.true_and]
theorem byteU_bit (z : BitVec 64) (t : Nat) (ht : t < 8) : (byteU z).toNat.testBit t = z.getLsbD t := by
  unfold byteU
  rw [UInt8.toNat_ofNat', Nat.testBit_mod_two_pow, decide_eq_true ht, Bool.true_and]; rfl
theorem lo_bit (x : BitVec 128) (t : Nat) (ht : t < 64) : (lo x).getLsbD t = x.getLsbD t := by
  unfold lo; rw [BitVec.getLsbD_extractLsb', decide_eq_true ht, Nat.zero_add, Bool.true_and]
theorem set_get (b : List UInt8) (p i : Nat) (y : UInt8) (hp : p < b.length) : (b.set p y)[i]! = if i = p then y else b[i]! := by
  rw [List.getElem!_eq_getElem?_getD, List.getElem!_eq_getElem?_getD, List.getElem?_set]
  by_cases h : p = i
  · subst h; rw [if_pos rfl, if_pos hp, if_pos rfl]; rfl
  · rw [if_neg h, if_neg (fun e => h e.symm)]
theorem lay1_s (N : Nat) (p0 c w rest : Nat) (v0 : Int) (v1 : BitVec 128) (b : List UInt8) (hc : 1 ≤ c) (hcw : w + c ≤ 8) (h0 : p0 < b.length) (hr : rest + c ≤ 128) :
    ∃ Y : UInt8, bits_lay_1_v1_m N (p0 : Int) (c : Int) (w : Int) (rest : Int) v0 v1 b = some (b.set p0 Y) ∧ ∀ t, t < 8 → Y.toNat.testBit t = if w ≤ t ∧ t < w + c then v1.getLsbD (rest + (t - w)) else (b[p0]!).toNat.testBit t := by
  unfold bits_lay_1_v1_m vec_Word_m
  rw [Option.bind_some, ck_pos _ (by omega), ck_pos _ (by omega), ck_pos _ (by omega), mask_s _ _ _ _ _ (by omega), Option.bind_some, Option.bind_some, ck_pos _ (by omega), Int.toNat_natCast, Int.toNat_natCast]
  refine ⟨_, rfl, fun t ht => ?_⟩
  rw [UInt8.toNat_or, Nat.testBit_or, UInt8.toNat_and, Nat.testBit_and, UInt8.toNat_and, Nat.testBit_and, not8_bit _ _ ht, maskY_bit c (by omega) w (by omega) t ht hc hcw, sl8_bit _ _ _ (by omega) ht]
  by_cases h : w ≤ t ∧ t < w + c
  · rw [decide_eq_true h, if_pos h, Bool.not_true, Bool.and_false, Bool.false_or, Bool.and_true, decide_eq_true h.1, Bool.true_and, byteU_bit _ _ (by omega), lo_bit _ _ (by omega), shiftd_bit]
  · rw [decide_eq_false h, if_neg h, Bool.not_false, Bool.and_true, Bool.and_false, Bool.or_false]
theorem lay_loop (N : Nat) (v0 : Int) (v1 : BitVec 128) : ∀ (f w a : Nat) (b : List UInt8), w < f → w ≤ 128 → a + w ≤ 8 * b.length → b.length ≤ 140737488355328 →
    ∃ r, bits_eachPart_v2_l4 N v0 v1 f (a : Int) (w : Int) b = some r ∧ r.length = b.length ∧ ∀ k, k < 8 * b.length → bitAt r k = if a ≤ k ∧ k < a + w then v1.getLsbD (a + w - 1 - k) else bitAt b k := by
  intro f
  induction f with
  | zero => intro w a b h; omega
  | succ f ih =>
    intro w a b hf hw ha hb
    rw [bits_eachPart_v2_l4]
    by_cases h0 : w = 0
    · subst h0
      rw [if_neg (by omega)]
      exact ⟨b, rfl, rfl, fun k _ => by rw [if_neg (by omega)]⟩
    · obtain ⟨c, hc⟩ : ∃ c : Nat, c = min (8 - a % 8) w := ⟨_, rfl⟩
      have e1 : (8 : Int) - (a : Int) % 8 = ((8 - a % 8 : Nat) : Int) := by omega
      have e2 : min ((8 : Int) - (a : Int) % 8) (w : Int) = (c : Int) := by rw [e1]; omega
      have e3 : (w : Int) - (c : Int) = ((w - c : Nat) : Int) := by omega
      have e4 : ((8 - a % 8 : Nat) : Int) - (c : Int) = ((8 - a % 8 - c : Nat) : Int) := by omega
      have e5 : (a : Int) / 8 = ((a / 8 : Nat) : Int) := by omega
      have e6 : (a : Int) + (c : Int) = ((a + c : Nat) : Int) := by omega
      rw [if_pos (by omega), ck_pos _ (by omega), ck_pos _ (by omega), e2, ck_pos _ (by omega), ck_pos _ (by omega), e1, ck_pos _ (by omega), e3, e4, e5, e6]
      obtain ⟨Y, hY, hYb⟩ := lay1_s N (a / 8) c (8 - a % 8 - c) (w - c) v0 v1 b (by omega) (by omega) (by omega) (by omega)
      rw [hY, Option.bind_some, ck_pos _ (by rw [List.length_set]), ck_pos _ (by omega)]
      obtain ⟨r, hr, hl, hrb⟩ := ih (w - c) (a + c) (b.set (a / 8) Y) (by omega) (by omega) (by rw [List.length_set]; omega) (by rw [List.length_set]; exact hb)
      refine ⟨r, hr, by rw [hl, List.length_set], fun k hk => ?_⟩
      rw [hrb k (by rw [List.length_set]; exact hk)]
      have hbs : bitAt (b.set (a / 8) Y) k = if k / 8 = a / 8 then Y.toNat.testBit (7 - k % 8) else bitAt b k := by
        unfold bitAt
        rw [set_get _ _ _ _ (by omega)]
        by_cases h : k / 8 = a / 8
        · rw [if_pos h, if_pos h]
        · rw [if_neg h, if_neg h]
      by_cases h1 : a + c ≤ k ∧ k < a + c + (w - c)
      · rw [if_pos h1, if_pos (by omega)]; congr 1; omega
      · rw [if_neg h1, hbs]
        by_cases h2 : a ≤ k ∧ k < a + w
        · have q1 : k / 8 = a / 8 := by omega
          rw [if_pos h2, if_pos q1, hYb _ (by omega), if_pos (by omega)]
          congr 1; omega
        · rw [if_neg h2]
          by_cases q1 : k / 8 = a / 8
          · rw [if_pos q1, hYb _ (by omega), if_neg (by omega)]
            unfold bitAt; rw [q1]
          · rw [if_neg q1]
/-! ### Bits put in -/
def putL (l : List Bool) (a : Nat) (xs : List Bool) : List Bool := l.take a ++ (xs ++ l.drop (a + xs.length))
theorem putL_len (l : List Bool) (a : Nat) (xs : List Bool) (h : a + xs.length ≤ l.length) : (putL l a xs).length = l.length := by
  simp only [putL, List.length_append, List.length_take, List.length_drop]; omega
theorem putL_get? (l : List Bool) (a : Nat) (xs : List Bool) (h : a + xs.length ≤ l.length) (k : Nat) : (putL l a xs)[k]? = if a ≤ k ∧ k < a + xs.length then xs[k - a]? else l[k]? := by
  unfold putL
  by_cases h1 : k < a
  · rw [List.getElem?_append_left (by rw [List.length_take]; omega), List.getElem?_take, if_pos h1, if_neg (by omega)]
  · rw [List.getElem?_append_right (by rw [List.length_take]; omega), List.length_take, Nat.min_eq_left (by omega)]
    by_cases h2 : k < a + xs.length
    · rw [List.getElem?_append_left (by omega), if_pos (by omega)]
    · rw [List.getElem?_append_right (by omega), if_neg (by omega), List.getElem?_drop]
      congr 1; omega
theorem lay_s (N : Nat) (b : List UInt8) (a w : Int) (x : BitVec 128) (hN : 128 < N) (h0 : 0 ≤ a) (h1 : 0 ≤ w) (h2 : w ≤ 128) (h3 : a + w ≤ 8 * (b.length : Int)) (hb : b.length ≤ 140737488355328) :
    ∃ r, bits_lay_v1_m N b a w x = some r ∧ r.length = b.length ∧ ∀ k, k < 8 * b.length → bitAt r k = if a.toNat ≤ k ∧ k < a.toNat + w.toNat then x.getLsbD (a.toNat + w.toNat - 1 - k) else bitAt b k := by
  obtain ⟨r, hr, hl, hk⟩ := lay_loop N w x N w.toNat a.toNat b (by omega) (by omega) (by omega) hb
  rw [Int.toNat_of_nonneg h0, Int.toNat_of_nonneg h1] at hr
  refine ⟨r, ?_, hl, hk⟩
  unfold bits_lay_v1_m bits_eachPart_v2_m
  rw [hr, Option.bind_some, ck_pos _ hl]
theorem fresh_s (N : Nat) (b : List UInt8) (hb : b.length ≤ 140737488355328) : bits_fresh_m N b = some b := by
  unfold bits_fresh_m
  rw [ck_pos _ (by simpa using hb)]; rfl
def putB (b : List UInt8) (a w : Nat) (x : BitVec 128) : List UInt8 := bytesL (putL (bitsB b) a (highB w x))
theorem putB_len (b : List UInt8) (a w : Nat) (x : BitVec 128) (h : a + w ≤ 8 * b.length) : (putB b a w x).length = b.length := by
  unfold putB
  rw [bytesL_len, putL_len _ _ _ (by rw [highB_len, bitsB_len]; simpa using h), bitsB_len]; omega
theorem putB_bit (b : List UInt8) (a w : Nat) (x : BitVec 128) (h : a + w ≤ 8 * b.length) (k : Nat) (hk : k < 8 * b.length) : bitAt (putB b a w x) k = if a ≤ k ∧ k < a + w then x.getLsbD (a + w - 1 - k) else bitAt b k := by
  have hl := putB_len b a w x h
  have hle : a + (highB w x).length ≤ (bitsB b).length := by rw [highB_len, bitsB_len]; simpa using h
  unfold putB at *
  rw [bytesL_bit _ _ (by omega), List.getElem!_eq_getElem?_getD, putL_get? _ _ _ hle, highB_len]
  simp only [Int.toNat_natCast]
  by_cases h1 : a ≤ k ∧ k < a + w
  · rw [if_pos h1, if_pos h1, ← List.getElem!_eq_getElem?_getD, highB_get _ _ _ (by simp; omega), Int.toNat_natCast]
    congr 1; omega
  · rw [if_neg h1, if_neg h1, bitsB_get? _ _ hk]; rfl
theorem put_s (N : Nat) (hN : 128 < N) (b : List UInt8) (a w : Int) (x : BitVec 128) (hb : b.length ≤ 140737488355328) :
    bits_Put_m N b a w x = some (if mayB w x = true then (if 0 ≤ a ∧ a ≤ 8 * (b.length : Int) - w then (putB b a.toNat w.toNat x, 0) else ([], 7)) else ([], 1)) := by
  unfold bits_Put_m
  rw [vmay_s, Option.bind_some]
  by_cases h : mayB w x = true
  · obtain ⟨h1, h2, _⟩ := may_w h
    rw [if_pos h, if_pos h, has_s _ _ _ _ hb ⟨h1, h2⟩, Option.bind_some]
    by_cases h3 : 0 ≤ a ∧ a ≤ 8 * (b.length : Int) - w
    · obtain ⟨r, hr, hl, hk⟩ := lay_s N b a w x hN h3.1 (by omega) h2 (by omega) hb
      rw [decide_eq_true h3, if_pos rfl, if_pos h3, fresh_s _ _ hb, Option.bind_some, hr, Option.bind_some, ck_pos _ hl]
      have hle : a.toNat + w.toNat ≤ 8 * b.length := by omega
      have : r = putB b a.toNat w.toNat x := bytes_ext (by rw [hl, putB_len _ _ _ _ hle]) (fun k hk2 => by
        rw [hl] at hk2
        rw [hk k hk2, putB_bit _ _ _ _ hle k hk2])
      rw [this]
    · rw [decide_eq_false h3, if_neg (by decide), if_neg h3]
  · rw [if_neg h, if_neg h]
theorem putL_step (l : List Bool) (a i : Nat) (xs : List Bool) (h : a + xs.length ≤ l.length) (hi : i < xs.length) : (putL l a (xs.take i)).set (a + i) (xs[i]!) = putL l a (xs.take (i + 1)) := by
  apply List.ext_getElem?
  intro k
  have l1 : a + (xs.take i).length ≤ l.length := by rw [List.length_take]; omega
  have l2 : a + (xs.take (i + 1)).length ≤ l.length := by rw [List.length_take]; omega
  rw [List.getElem?_set, putL_len _ _ _ l1, putL_get? _ _ _ l1, putL_get? _ _ _ l2]
  simp only [List.length_take, Nat.min_eq_left (Nat.le_of_lt hi), Nat.min_eq_left (show i + 1 ≤ xs.length from hi), List.getElem?_take]
  by_cases h1 : a + i = k
  · subst h1
    rw [if_pos rfl, if_pos (by omega), if_pos (by omega), show a + i - a = i from by omega, if_pos (by omega), List.getElem?_eq_getElem hi, get!_of_lt _ _ hi]
  · rw [if_neg h1]
    by_cases h2 : a ≤ k ∧ k < a + i
    · rw [if_pos h2, if_pos (by omega), if_pos (by omega), if_pos (by omega)]
    · rw [if_neg h2]
      by_cases h3 : a ≤ k ∧ k < a + (i + 1)
      · omega
      · rw [if_neg h3]
theorem rput_loop (N : Nat) (hN : 8 < N) (l xs : List Bool) (a : Nat) (h : a + xs.length ≤ l.length) (hl : l.length ≤ 140737488355000) (hN2 : (l.length + 7) / 8 < N) : ∀ (k f i : Nat), i + k = xs.length → k < f →
    shunterref03_Put_l4 N (a : Int) xs f (putL l a (xs.take i)) (i : Int) = some (bytesL (putL l a xs), 0) := by
  intro k
  induction k with
  | zero =>
    intro f i hi hf
    obtain ⟨f, rfl⟩ : ∃ k, f = k + 1 := ⟨f - 1, by omega⟩
    rw [shunterref03_Put_l4, if_neg (by omega), List.take_of_length_le (by omega), rbytes_s N _ hN (by rw [putL_len _ _ _ h]; exact hN2) (by rw [putL_len _ _ _ h]; exact hl)]; rfl
  | succ k ih =>
    intro f i hi hf
    obtain ⟨f, rfl⟩ : ∃ k, f = k + 1 := ⟨f - 1, by omega⟩
    have l1 : a + (xs.take i).length ≤ l.length := by rw [List.length_take]; omega
    rw [shunterref03_Put_l4, if_pos (by omega), ck_pos _ (by omega), ck_pos _ (by omega), ck_pos _ (by rw [putL_len _ _ _ l1]; omega), ck_pos _ (by omega), Int.toNat_natCast, show ((a : Int) + (i : Int)).toNat = a + i from by omega, putL_step _ _ _ _ h (by omega)]
    exact ih f (i + 1) (by omega) (by omega)
theorem rput_s (N : Nat) (hN : 128 < N) (b : List UInt8) (a w : Int) (x : BitVec 128) (hb : 8 * b.length ≤ 140737488355000) (hN2 : b.length < N) :
    shunterref03_Put_m N b a w x = some (if mayB w x = true then (if 0 ≤ a ∧ a ≤ 8 * (b.length : Int) - w then (putB b a.toNat w.toNat x, 0) else ([], 7)) else ([], 1)) := by
  unfold shunterref03_Put_m
  rw [rmay_s, Option.bind_some]
  by_cases h : mayB w x = true
  · obtain ⟨h1, h2, _⟩ := may_w h
    rw [if_pos h, if_pos h, rbits_s N b (by omega) hN2 (by omega), Option.bind_some, bitsB_len]
    by_cases h3 : a < 0
    · rw [if_pos h3, if_neg (by omega)]
    · rw [if_neg h3]
      by_cases h4 : a > ((8 * b.length : Nat) : Int)
      · rw [if_pos h4, if_neg (by omega)]
      · rw [if_neg h4, ck_pos _ (by omega)]
        by_cases h5 : w > ((8 * b.length : Nat) : Int) - a
        · rw [if_pos h5, if_neg (by omega)]
        · rw [if_neg h5, if_pos (by omega)]
          unfold shunterref03_Put_k1
          rw [rof_s N hN w x (by omega) h2, Option.bind_some]
          have := rput_loop N (by omega) (bitsB b) (highB w x) a.toNat (by rw [highB_len, bitsB_len]; omega) (by rw [bitsB_len]; exact hb) (by rw [bitsB_len]; omega) (highB w x).length N 0 (by omega) (by rw [highB_len]; omega)
          rw [Int.toNat_of_nonneg (by omega)] at this
          have e0 : putL (bitsB b) a.toNat ((highB w x).take 0) = bitsB b := by simp [putL]
          rw [e0] at this
          rw [show (0 : Int) = ((0 : Nat) : Int) from rfl, this]
          unfold putB
          rw [Int.toNat_of_nonneg (by omega)]; rfl
  · rw [if_neg h, if_neg h]
/-- What was put in is got. -/
theorem put_cut {w : Int} {x : BitVec 128} (h : mayB w x = true) (b : List UInt8) (a : Nat) (hle : a + w.toNat ≤ 8 * b.length) : cutB (putB b a w.toNat x) a w.toNat = x := by
  obtain ⟨h1, h2, _⟩ := may_w h
  have hl := putB_len b a w.toNat x hle
  apply BitVec.eq_of_getLsbD_eq
  intro j hj
  rw [cut_bit _ _ _ _ (by omega) (by omega)]
  by_cases hw : j < w.toNat
  · rw [decide_eq_true hw, Bool.true_and, putB_bit _ _ _ _ hle _ (by omega), if_pos (by omega)]
    congr 1; omega
  · rw [decide_eq_false hw, Bool.false_and, may_bit h j (by omega)]

/-! ### A row that grows -/
theorem bytesOf_s (N c : Nat) (hc : c ≤ 140737488355328) : bits_bytesOf_m N (c : Int) = some (((c + 7) / 8 : Nat) : Int) := by
  unfold bits_bytesOf_m
  rw [ck_pos _ (by omega), ck_pos _ (by omega), ck_pos _ (by omega)]
  congr 1; omega
theorem app_bit (a c : List UInt8) (k : Nat) (hk : k < 8 * (a ++ c).length) : bitAt (a ++ c) k = if k < 8 * a.length then bitAt a k else bitAt c (k - 8 * a.length) := by
  have h1 := bitsB_get? (a ++ c) k hk
  rw [bitsB_app] at h1
  by_cases h : k < 8 * a.length
  · rw [if_pos h]
    rw [List.getElem?_append_left (by rw [bitsB_len]; exact h), bitsB_get? _ _ h] at h1
    exact (Option.some.inj h1).symm
  · rw [if_neg h]
    rw [List.getElem?_append_right (by rw [bitsB_len]; omega), bitsB_len, bitsB_get? _ _ (by rw [List.length_append] at hk; omega)] at h1
    exact (Option.some.inj h1).symm
theorem zero_bit (n k : Nat) : bitAt (List.replicate n (0 : UInt8)) k = false := by
  unfold bitAt
  rw [List.getElem!_eq_getElem?_getD, List.getElem?_replicate]
  split
  · simp
  · show (0 : UInt8).toNat.testBit _ = false
    simp
theorem app_get (l m : List Bool) (k : Nat) : (l ++ m)[k]! = if k < l.length then l[k]! else m[k - l.length]! := by
  rw [List.getElem!_eq_getElem?_getD, List.getElem!_eq_getElem?_getD, List.getElem!_eq_getElem?_getD]
  by_cases h : k < l.length
  · rw [if_pos h, List.getElem?_append_left h]
  · rw [if_neg h, List.getElem?_append_right (by omega)]
theorem add_s (N : Nat) (hN : 128 < N) (l : List Bool) (w : Int) (x : BitVec 128) (hl : l.length ≤ 73728) :
    bits_Row_Add_v1_m N (bytesL l) (l.length : Int) w x = some (if mayB w x = true then (if w > 73728 - (l.length : Int) then (2, bytesL l, (l.length : Int)) else (0, bytesL (l ++ highB w x), ((l ++ highB w x).length : Int))) else (1, bytesL l, (l.length : Int))) := by
  unfold bits_Row_Add_v1_m
  rw [vmay_s, Option.bind_some]
  by_cases h : mayB w x = true
  · obtain ⟨h1, h2, _⟩ := may_w h
    rw [if_pos h, if_pos h]
    unfold bits_Row_Add_v1_k1
    rw [ck_pos _ (by omega)]
    by_cases h3 : w > 73728 - (l.length : Int)
    · rw [if_pos h3, if_pos h3]
    · have e1 : (l.length : Int) + w = ((l.length + w.toNat : Nat) : Int) := by omega
      have hbl := bytesL_len l
      rw [if_neg h3, if_neg h3, ck_pos _ (by omega), e1, bytesOf_s _ _ (by omega), Option.bind_some, hbl, ck_pos _ (by omega), ck_pos _ (by omega)]
      have e2 : ((((l.length + w.toNat + 7) / 8 : Nat) : Int) - (((l.length + 7) / 8 : Nat) : Int)).toNat = (l.length + w.toNat + 7) / 8 - (l.length + 7) / 8 := by omega
      rw [e2]
      generalize hz : (l.length + w.toNat + 7) / 8 - (l.length + 7) / 8 = z
      have hlen : (bytesL l ++ List.replicate z (0 : UInt8)).length = (l.length + w.toNat + 7) / 8 := by rw [List.length_append, List.length_replicate, hbl]; omega
      obtain ⟨r, hr, hrl, hrk⟩ := lay_s N (bytesL l ++ List.replicate z (0 : UInt8)) (l.length : Int) w x hN (by omega) (by omega) h2 (by rw [hlen]; omega) (by rw [hlen]; omega)
      rw [hr, Option.bind_some, ck_pos _ hrl]
      have hl2 : (l ++ highB w x).length = l.length + w.toNat := by rw [List.length_append, highB_len]
      have : r = bytesL (l ++ highB w x) := bytes_ext (by rw [hrl, hlen, bytesL_len, hl2]) (fun k hk => by
        rw [hrl] at hk
        have hk' : k < 8 * (bytesL (l ++ highB w x)).length := by rw [bytesL_len, hl2, ← hlen]; exact hk
        rw [hrk k hk, bytesL_bit _ _ hk', app_get, Int.toNat_natCast]
        by_cases q1 : k < l.length
        · rw [if_neg (by omega), if_pos q1, app_bit _ _ _ hk, if_pos (by rw [hbl]; omega), bytesL_bit _ _ (by rw [hbl]; omega)]
        · rw [if_neg q1]
          by_cases q2 : k < l.length + w.toNat
          · rw [if_pos (by omega), highB_get _ _ _ (by omega)]; congr 1; omega
          · rw [if_neg (by omega), get!_ge (l := highB w x) (by rw [highB_len]; omega), app_bit _ _ _ hk]
            by_cases q3 : k < 8 * (bytesL l).length
            · rw [if_pos q3, bytesL_bit _ _ q3, get!_ge (by omega)]
            · rw [if_neg q3, zero_bit])
      rw [this, hl2]
  · rw [if_neg h, if_neg h]
theorem addb_s (N : Nat) (l : List Bool) (b : List UInt8) (hl : l.length ≤ 73728) (hb : b.length ≤ 100000) :
    bits_Row_Bytes_v1_m N (bytesL l) (l.length : Int) b = some (if l.length % 8 ≠ 0 then (13, bytesL l, (l.length : Int)) else if 8 * b.length + l.length > 73728 then (2, bytesL l, (l.length : Int)) else (0, bytesL (l ++ bitsB b), ((l ++ bitsB b).length : Int))) := by
  unfold bits_Row_Bytes_v1_m
  have hbl := bytesL_len l
  rw [ck_pos _ (by omega)]
  by_cases h : l.length % 8 ≠ 0
  · rw [if_pos (by omega), if_pos h]
  · rw [if_neg (by omega), if_neg h, ck_pos _ (by rw [hbl]; omega)]
    by_cases h2 : 8 * b.length + l.length > 73728
    · rw [if_pos (by rw [hbl]; omega), if_pos h2]
    · have hl2 : (l ++ bitsB b).length = l.length + 8 * b.length := by rw [List.length_append, bitsB_len]
      rw [if_neg (by rw [hbl]; omega), if_neg h2, ck_pos _ (by rw [hbl]; omega), ck_pos _ (by omega), ck_pos _ (by omega)]
      have : bytesL l ++ b = bytesL (l ++ bitsB b) := bytes_ext (by rw [List.length_append, bytesL_len, bytesL_len, hl2]; omega) (fun k hk => by
        have hk' : k < 8 * (bytesL (l ++ bitsB b)).length := by rw [bytesL_len, hl2]; rw [List.length_append, hbl] at hk; omega
        rw [app_bit _ _ _ hk, bytesL_bit _ _ hk', app_get]
        rw [List.length_append, hbl] at hk
        by_cases q : k < l.length
        · rw [if_pos (by rw [hbl]; omega), if_pos q, bytesL_bit _ _ (by rw [hbl]; omega)]
        · rw [if_neg (by rw [hbl]; omega), if_neg q, bitsB_get _ _ (by omega), hbl]
          congr 1; omega)
      rw [this, hl2]
      congr 3
theorem all_s (N : Nat) (b : List UInt8) (c : Int) (hb : b.length ≤ 140737488355328) : bits_Row_All_v1_m N b c = some b := by
  unfold bits_Row_All_v1_m; rw [fresh_s _ _ hb]; rfl

/-! ### Takers -/
theorem left_s (N : Nat) (b : List UInt8) (a : Int) (hb : b.length ≤ 140737488355328) (h0 : 0 ≤ a) (h1 : a ≤ 8 * (b.length : Int)) : bits_stock_left_v1_m N b a = some (8 * (b.length : Int) - a) := by
  unfold bits_stock_left_v1_m
  rw [ck_pos _ (by omega), ck_pos _ (by omega)]
theorem tbytes_s (N : Nat) (b : List UInt8) (a n : Int) (hb : b.length ≤ 140737488355328) (h0 : 0 ≤ a) (h1 : a ≤ 8 * (b.length : Int)) :
    bits_Taker_Bytes_v1_m N b a n = some (if a % 8 ≠ 0 then ([], 13, b, a) else if n < 0 then ([], 7, b, a) else if n > (8 * (b.length : Int) - a) / 8 then ([], 3, b, a) else ((b.take (a / 8 + n).toNat).drop (a / 8).toNat, 0, b, a + 8 * n)) := by
  unfold bits_Taker_Bytes_v1_m
  rw [ck_pos _ (by omega)]
  by_cases h2 : a % 8 ≠ 0
  · rw [if_pos h2, if_pos h2]
  · rw [if_neg h2, if_neg h2]
    by_cases h3 : n < 0
    · rw [if_pos h3, if_pos h3]
    · rw [if_neg h3, if_neg h3, left_s _ _ _ hb h0 h1, Option.bind_some, ck_pos _ (by omega)]
      by_cases h4 : n > (8 * (b.length : Int) - a) / 8
      · rw [if_pos h4, if_pos h4]
      · rw [if_neg h4, if_neg h4, ck_pos _ (by omega), ck_pos _ (by omega), ck_pos _ (by omega), ck_pos _ (by omega), ck_pos _ (by omega), fresh_s _ _ (by simp; omega)]; rfl
theorem look_s (N : Nat) (hN : 128 < N) (b : List UInt8) (a o w : Int) (hb : b.length ≤ 140737488355328) (h0 : 0 ≤ a) (h1 : a ≤ 8 * (b.length : Int)) :
    bits_Taker_Look_v1_m N b a o w = some (if 1 ≤ w ∧ w ≤ 128 then (if o < 0 then (0, 0#128, 7) else if o > 8 * (b.length : Int) - a - w then (0, 0#128, 3) else (w, cutB b (a + o).toNat w.toNat, 0)) else (0, 0#128, 9)) := by
  unfold bits_Taker_Look_v1_m
  rw [width3_s, Option.bind_some]
  by_cases h : 1 ≤ w ∧ w ≤ 128
  · rw [decide_eq_true h, if_pos rfl, if_pos h]
    by_cases h2 : o < 0
    · rw [if_pos h2, if_pos h2]; rfl
    · rw [if_neg h2, if_neg h2, left_s _ _ _ hb h0 h1, Option.bind_some, ck_pos _ (by omega)]
      by_cases h3 : o > 8 * (b.length : Int) - a - w
      · rw [if_pos h3, if_pos h3]; rfl
      · rw [if_neg h3, if_neg h3, ck_pos _ (by omega), get_s N hN _ _ _ hb, if_pos h, if_pos (by omega)]; rfl
  · rw [decide_eq_false h, if_neg (by decide), if_neg h]; rfl
theorem tvec_s (N : Nat) (hN : 128 < N) (b : List UInt8) (a w : Int) (hb : b.length ≤ 140737488355328) (h0 : 0 ≤ a) (h1 : a ≤ 8 * (b.length : Int)) :
    bits_Taker_Vec_v1_m N b a w = some (if 1 ≤ w ∧ w ≤ 128 then (if w > 8 * (b.length : Int) - a then (0, 0#128, 3, b, a) else (w, cutB b a.toNat w.toNat, 0, b, a + w)) else (0, 0#128, 9, b, a)) := by
  unfold bits_Taker_Vec_v1_m
  rw [look_s N hN _ _ _ _ hb h0 h1, Option.bind_some]
  by_cases h : 1 ≤ w ∧ w ≤ 128
  · rw [if_pos h, if_pos h, if_neg (show ¬ (0 : Int) < 0 by decide)]
    by_cases h3 : w > 8 * (b.length : Int) - a
    · rw [if_pos (show (0 : Int) > 8 * (b.length : Int) - a - w by omega), if_pos h3, if_pos (by decide)]; rfl
    · rw [if_neg (show ¬ (0 : Int) > 8 * (b.length : Int) - a - w by omega), if_neg h3, if_neg (fun hne => hne rfl), ck_pos _ (by omega), Int.add_zero]
  · rw [if_neg h, if_neg h, if_pos (by decide)]; rfl
end Go.Proofs.Ytmiabhodfcidcaa
