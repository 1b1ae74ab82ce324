/- Layer 6: the program's scan is the definition's. Conditions: none but those written. Program: Tryd. -/
import Derived.Test.YtmdjifehblijkaaDoorPa
namespace Go.Proofs.YtmdjifehblijkaaDoor
open Go Go.RowKit Go.Eng
/-- a token and its place, as data -/
def flat6 (d : TokD × Int) : Int × List UInt8 × Int × Int × BitVec 128 × Int := (d.1.1, d.1.2.1, d.1.2.2.1, d.1.2.2.2.1, d.1.2.2.2.2, d.2)
/-- what a scan answers that has read some tokens -/
def out6 (l1 : List (Int × List UInt8 × Int × Int × BitVec 128 × Int)) (r : List (TokD × Int) × Int × Int) : List (Int × List UInt8 × Int × Int × BitVec 128 × Int) × Int × Int :=
  if r.2.2 ≠ 0 then ([], r.2.1, r.2.2) else (l1 ++ r.1.map flat6, 0, 0)
def scanG (n : Nat) (t : List UInt8) : List (TokD × Int) × Int × Int := scanF numS6 n (t.length + 1) t
theorem scanG_bad {n : Nat} {t : List UInt8} (ht : t ≠ []) (h : (tokL numS6 t).2.1 ≠ 0) : scanG n t = ([], (n : Int) - (t.length : Int), (tokL numS6 t).2.1) := by
  unfold scanG; rw [scanF, if_neg ht, if_pos h]
theorem scanG_good {n : Nat} {t : List UInt8} (ht : t ≠ []) (h : (tokL numS6 t).2.1 = 0) (l1 : List (Int × List UInt8 × Int × Int × BitVec 128 × Int)) :
    out6 l1 (scanG n t) = out6 (l1 ++ [flat6 ((tokL numS6 t).1, (n : Int) - (t.length : Int))]) (scanG n (skipR false (t.drop (tokL numS6 t).2.2))) := by
  have hw := tokL_w ht h
  have hl := skipR_len false (t.drop (tokL numS6 t).2.2)
  rw [List.length_drop] at hl
  have e : scanF numS6 n t.length (skipR false (t.drop (tokL numS6 t).2.2)) = scanG n (skipR false (t.drop (tokL numS6 t).2.2)) := by
    unfold scanG; exact scanF_ge n _ _ _ (by omega) (by omega)
  have e2 : scanG n t = if (scanG n (skipR false (t.drop (tokL numS6 t).2.2))).2.2 ≠ 0 then ([], (scanG n (skipR false (t.drop (tokL numS6 t).2.2))).2.1, (scanG n (skipR false (t.drop (tokL numS6 t).2.2))).2.2)
      else (((tokL numS6 t).1, (n : Int) - (t.length : Int)) :: (scanG n (skipR false (t.drop (tokL numS6 t).2.2))).1, 0, 0) := by
    rw [← e]
    conv => lhs; unfold scanG; rw [scanF, if_neg ht, if_neg (by rw [h]; simp)]
  rw [e2]
  by_cases hq : (scanG n (skipR false (t.drop (tokL numS6 t).2.2))).2.2 ≠ 0
  · rw [if_pos hq]
    unfold out6
    rw [if_pos hq, if_pos hq]
  · rw [if_neg hq]
    unfold out6
    rw [if_neg hq, if_neg (by simp), List.map_cons, List.append_assoc]; rfl
theorem skip_bytes : ∀ (k : Nat) (s : List UInt8), k ≤ s.length → (∀ i, i < k → s.getD i 0 ≠ 10) → skipR true s = skipR true (s.drop k)
  | 0, s, _, _ => by rw [List.drop_zero]
  | k + 1, [], h, _ => absurd h (by simp)
  | k + 1, c :: r, h, hb => by
    have h0 : c ≠ 10 := hb 0 (by omega)
    rw [skipR, if_neg h0, List.drop_succ_cons]
    exact skip_bytes k r (by simpa using h) (fun i hi => hb (i + 1) (by omega))
theorem dec_no10 {s : List UInt8} (h : (dec s).1 ≠ 10) : ∀ i, i < (dec s).2 → s.getD i 0 ≠ 10 := by
  intro i hi e
  have e2 : (s.getD i 0).toNat = 10 := by rw [e]; rfl
  unfold dec decN at h hi
  split at hi
  · rename_i g; rw [if_pos g] at h
    have : i < 1 := hi
    obtain rfl : i = 0 := by omega
    exact h e2
  · rename_i g
    split at hi
    · rename_i g2; unfold cont at g2
      have : i < 2 := hi
      have h3 : i = 0 ∨ i = 1 := by omega
      rcases h3 with rfl | rfl <;> omega
    · split at hi
      · rename_i g2; unfold cont at g2
        have : i < 3 := hi
        have h3 : i = 0 ∨ i = 1 ∨ i = 2 := by omega
        rcases h3 with rfl | rfl | rfl <;> omega
      · split at hi
        · rename_i g2; unfold cont at g2
          have : i < 4 := hi
          have h3 : i = 0 ∨ i = 1 ∨ i = 2 ∨ i = 3 := by omega
          rcases h3 with rfl | rfl | rfl | rfl <;> omega
        · have : i < 1 := hi
          obtain rfl : i = 0 := by omega
          omega
theorem first_low {t : List UInt8} (ht : t ≠ []) (h : (dec t).1 < 128) : ∃ b r, t = b :: r ∧ b.toNat < 128 ∧ dec t = (b.toNat, 1) := by
  cases t with
  | nil => exact absurd rfl ht
  | cons b r => have hb := dec_byte h; exact ⟨b, r, rfl, hb, dec_ascii b hb r⟩
theorem rem_span : ∀ t : List UInt8, skipR true t = skipR false (t.drop (spanL nlR t)) := by
  apply runes_ind
  · rfl
  · intro s hs ih
    have hw := dec_w s hs
    rw [spanL_cons nlR hs]
    by_cases h : (dec s).1 = 10
    · obtain ⟨b, r, rfl, hb, hd⟩ := first_low hs (by omega)
      rw [hd] at h
      have hb10 : b = 10 := u8_of_nat h (by decide)
      subst hb10
      rw [if_neg (by rw [hd]; decide), List.drop_zero]; rfl
    · rw [if_pos (show nlR ((dec s).1 : Int) = true by unfold nlR; rw [bne_iff_ne]; omega), ← List.drop_drop, ← ih]
      exact skip_bytes _ _ hw.2.1 (dec_no10 h)
theorem mark_low {c : Nat} (h : markR (c : Int) = true) : c < 128 := by unfold markR at h; have := of_decide_eq_true h; omega
/-- how many bytes the first token has, in the program's words -/
def tokN (t : List UInt8) : Nat := if markR ((dec t).1 : Int) = true then 1 else if letR ((dec t).1 : Int) = true then spanL inR t else if digR ((dec t).1 : Int) = true then spanL numR t else 0
theorem tokN_end {t : List UInt8} (ht : t ≠ []) (hz : (tokL numS6 t).2.1 = 0) : (tokL numS6 t).2.2 = tokN t ∧ (tokN t = (dec t).2 ∨ ∃ q : Int → Bool, tokN t = spanL q t ∧ q ((dec t).1 : Int) = true) := by
  unfold tokL at hz ⊢
  unfold tokN
  by_cases hm : markR ((dec t).1 : Int) = true
  · obtain ⟨b, r, rfl, hb, hd⟩ := first_low ht (mark_low hm)
    rw [if_pos hm, if_pos hm]; exact ⟨rfl, .inl (by rw [hd])⟩
  rw [if_neg hm] at hz ⊢
  rw [if_neg hm]
  by_cases hl : letR ((dec t).1 : Int) = true
  · rw [if_pos hl] at hz ⊢
    rw [if_pos hl]
    by_cases hy : mayL (runesL (t.take (spanL inR t))) = true
    · rw [if_pos hy]; exact ⟨rfl, .inr ⟨inR, rfl, by unfold inR; rw [hl]; rfl⟩⟩
    · rw [if_neg hy] at hz; cases hz
  rw [if_neg hl] at hz ⊢
  rw [if_neg hl]
  by_cases hd : digR ((dec t).1 : Int) = true
  · rw [if_pos hd] at hz ⊢
    rw [if_pos hd]
    by_cases hy : (numS6 (t.take (spanL numR t))).2 = 0
    · rw [if_pos hy]; exact ⟨rfl, .inr ⟨numR, rfl, by unfold numR; rw [hd]; cases letR ((dec t).1 : Int) <;> rfl⟩⟩
    · rw [if_neg hy] at hz; exact absurd hz hy
  · rw [if_neg hd] at hz; cases hz
def TokE (t : List UInt8) : Prop := tokN t = (dec t).2 ∨ ∃ q : Int → Bool, tokN t = spanL q t ∧ q ((dec t).1 : Int) = true
theorem tokN_end' {t : List UInt8} (ht : t ≠ []) (hz : (tokL numS6 t).2.1 = 0) : (tokL numS6 t).2.2 = tokN t ∧ TokE t := tokN_end ht hz
theorem pfirst_s (N : Nat) (t : List UInt8) (ht : t ≠ []) (hs : t.length ≤ 100000) (hN : t.length + 20 < N) : lex_first_m N ((dec t).1 : Int) t =
    some ((tokL numS6 t).1.1, (tokL numS6 t).1.2.1, (tokL numS6 t).1.2.2.1, (tokL numS6 t).1.2.2.2.1, (tokL numS6 t).1.2.2.2.2, 0, (tokN t : Int), (tokL numS6 t).2.1) := by
  unfold lex_first_m tokL tokN
  rw [show ([123, 125, 40, 41, 91, 93, 59, 58, 44, 61, 47, 38] : List UInt8) = marksL from rfl, contains_s N (by omega) _ (dec_ok t), Option.bind_some, app_zero]
  by_cases hm : markR ((dec t).1 : Int) = true
  · simp only [if_pos hm]
    obtain ⟨b, r, rfl, hb, hd⟩ := first_low ht (mark_low hm)
    have e : runeB ((dec (b :: r)).1 : Int) = [b] := by
      rw [hd, runeB_of (by unfold okR; omega), if_pos hb]
      congr 1; exact (u8_of_nat rfl (by omega)).symm
    rw [e]; rfl
  rw [if_neg hm, letter_s, Option.bind_some]
  simp only [if_neg hm]
  by_cases hl : letR ((dec t).1 : Int) = true
  · have hsp := spanL_le inR t
    simp only [if_pos hl]
    rw [run2_s N t (by omega), Option.bind_some, ck_pos _ (by omega), Int.toNat_natCast, wordof_s N _ (by rw [List.length_take]; omega) (by rw [List.length_take]; omega), Option.bind_some]
    by_cases hy : mayL (runesL (t.take (spanL inR t))) = true
    · simp only [if_pos hy]
    · simp only [if_neg hy]; rfl
  rw [if_neg hl, ndigit_s, Option.bind_some]
  simp only [if_neg hl]
  have eD : decide (48 ≤ ((dec t).1 : Int) ∧ ((dec t).1 : Int) ≤ 57) = digR ((dec t).1 : Int) := rfl
  rw [eD]
  by_cases hd : digR ((dec t).1 : Int) = true
  · have hsp := spanL_le numR t
    simp only [if_pos hd]
    rw [run3_s N t (by omega), Option.bind_some, ck_pos _ (by omega), Int.toNat_natCast, numberof_s N _ (by rw [List.length_take]; omega), Option.bind_some]
    by_cases hy : (numS6 (t.take (spanL numR t))).2 = 0
    · simp only [if_pos hy]
    · simp only [if_neg hy]; rfl
  · simp only [if_neg hd]; rfl
/-- the program's answer -/
def toS (o : List (Int × List UInt8 × Int × Int × BitVec 128 × Int) × Int × Int) : List (Int × List UInt8 × Int × Int × BitVec 128 × Int) × Sum25 := (o.1, if o.2.2 = 0 then .nil else .t31 o.2.2 o.2.1)
/-- The place e is behind p, or at the end of a run from there. -/
def Ends (s : List UInt8) (p e : Nat) : Prop := e ≤ p ∨ ∃ q : Int → Bool, e = p + spanL q (s.drop p)
section
variable (N : Nat) (s : List UInt8) (hs : s.length ≤ 100000) (hN : s.length + 20 < N)
include hs hN
theorem pscan_loop : ∀ (k f p : Nat) (l1 : List (Int × List UInt8 × Int × Int × BitVec 128 × Int)) (e : Nat), s.length ≤ p + k → k < f → p ≤ s.length → e ≤ s.length → l1.length ≤ max p e →
    Ends s p e → lex_Scan_l4 N s f l1 (e : Int) p = some (toS (out6 l1 (scanG s.length (skipR false (s.drop (max p e)))))) := by
  intro k
  induction k using Nat.strongRecOn with
  | _ k ih =>
  intro f p l1 e hk hf hp he hl1 hq
  obtain ⟨f, rfl⟩ : ∃ n, f = n + 1 := ⟨f - 1, by omega⟩
  rw [lex_Scan_l4]
  by_cases h : p < s.length
  · obtain ⟨n1, n2⟩ := next_lt h
    have hne := drop_ne h
    have hat := at_dec h
    have hw := dec_w _ hne
    have hld := List.length_drop (i := p) (l := s)
    have next : ∀ (q : Int → Bool), q ((dec (s.drop p)).1 : Int) = true → p + spanL q (s.drop p) = nextP s p + spanL q (s.drop (nextP s p)) := fun q hq1 => by
      rw [spanL_cons q hne, if_pos hq1, hat.2, List.drop_drop]; omega
    rw [if_pos h, ck_pos _ h, ck_pos _ h]
    by_cases hpe : p < e
    · rw [if_pos (by omega)]
      obtain ⟨q, hq⟩ : ∃ q : Int → Bool, e = p + spanL q (s.drop p) := hq.resolve_left (by omega)
      have hq1 : q ((dec (s.drop p)).1 : Int) = true := by
        by_cases hh : q ((dec (s.drop p)).1 : Int) = true
        · exact hh
        · rw [spanL_cons q hne, if_neg hh] at hq; omega
      have en := hq.trans (next q hq1)
      rw [ih (k - 1) (by omega) f (nextP s p) l1 e (by omega) (by omega) n2 he (by omega) (.inr ⟨q, en⟩), Nat.max_eq_right (by omega), Nat.max_eq_right (by omega)]
    rw [if_neg (by omega), blank_s, Option.bind_some, Nat.max_eq_left (by omega), hat.1]
    by_cases hb : ((dec (s.drop p)).1 : Int) = 32 ∨ ((dec (s.drop p)).1 : Int) = 9 ∨ ((dec (s.drop p)).1 : Int) = 10 ∨ ((dec (s.drop p)).1 : Int) = 13
    · rw [if_pos (decide_eq_true hb)]
      obtain ⟨b, r, hbr, hb1, hd⟩ := first_low hne (by omega)
      have hn : nextP s p = p + 1 := by rw [hat.2, hd]
      have hr : s.drop (p + 1) = r := by rw [← List.drop_drop, hbr]; rfl
      rw [ih (k - 1) (by omega) f (nextP s p) l1 e (by omega) (by omega) n2 he (by omega) (.inl (by omega)), Nat.max_eq_left (by omega), hn, hr, hbr]
      rw [hd] at hb
      have key : ∀ n : Nat, n < 128 → ((n : Int) = 32 ∨ (n : Int) = 9 ∨ (n : Int) = 10 ∨ (n : Int) = 13) → UInt8.ofNat n ≠ 35 ∧ blankB (UInt8.ofNat n) = true := by decide +kernel
      obtain ⟨k1, k2⟩ := key b.toNat hb1 hb
      rw [← u8_of_nat (c := b) rfl (by omega)] at k1 k2
      conv => rhs; rw [skipR, if_neg k1, if_pos k2]
    rw [if_neg (by rw [decide_eq_false hb]; decide)]
    unfold lex_Scan_k5
    rw [hat.1]
    by_cases h35 : ((dec (s.drop p)).1 : Int) = 35
    · obtain ⟨b, r, hbr, hb1, hd⟩ := first_low hne (by omega)
      have hb35 : b = 35 := u8_of_nat (c := b) (n := 35) (by rw [hd] at h35; have : ((b.toNat : Nat) : Int) = 35 := h35; omega) (by decide)
      have hsp := spanL_le nlR (s.drop p)
      have hnx := next nlR (by rw [h35]; decide)
      rw [if_pos h35, ck_pos _ (by omega), Int.toNat_natCast, run1_s N _ (by omega), Option.bind_some, ck_pos _ (by omega), show (p : Int) + ((spanL nlR (s.drop p) : Nat) : Int) = ((p + spanL nlR (s.drop p) : Nat) : Int) by omega]
      rw [ih (k - 1) (by omega) f (nextP s p) l1 _ (by omega) (by omega) n2 (by omega) (by omega) (.inr ⟨nlR, hnx⟩), Nat.max_eq_right (by omega), ← List.drop_drop, ← rem_span, hbr]
      subst hb35
      rfl
    rw [if_neg h35, ck_pos _ (by omega), Int.toNat_natCast, pfirst_s N _ hne (by omega) (by omega), Option.bind_some]
    have hsk : skipR false (s.drop p) = s.drop p := by
      cases hbr : s.drop p with
      | nil => exact absurd hbr hne
      | cons b r =>
        rw [hbr] at hb h35
        have nn : b ≠ 35 ∧ blankB b = false := by
          by_cases hlow : b.toNat < 128
          · rw [dec_ascii b hlow r] at hb h35
            have key : ∀ n : Nat, n < 128 → ¬ ((n : Int) = 32 ∨ (n : Int) = 9 ∨ (n : Int) = 10 ∨ (n : Int) = 13) → ¬ (n : Int) = 35 → UInt8.ofNat n ≠ 35 ∧ blankB (UInt8.ofNat n) = false := by decide +kernel
            have := key b.toNat hlow hb h35
            rwa [← u8_of_nat (c := b) rfl (by omega)] at this
          · have key : ∀ n : Nat, n < 256 → ¬ n < 128 → UInt8.ofNat n ≠ 35 ∧ blankB (UInt8.ofNat n) = false := by decide +kernel
            have := key b.toNat b.toNat_lt hlow
            rwa [← u8_of_nat (c := b) rfl b.toNat_lt] at this
        rw [skipR, if_neg nn.1, if_neg (by rw [nn.2]; decide)]
    have hpl : (s.length : Int) - ((s.drop p).length : Int) = (p : Int) := by omega
    rw [hsk]
    by_cases hz : (tokL numS6 (s.drop p)).2.1 = 0
    · obtain ⟨t1, t2⟩ := tokN_end' hne hz
      have tw := tokL_w hne hz
      dsimp only
      rw [t1] at tw
      rw [if_neg (fun hh => hh hz), ck_pos _ (by simp only [List.length_singleton]; omega), ck_pos _ (by omega), show (p : Int) + ((tokN (s.drop p) : Nat) : Int) = ((p + tokN (s.drop p) : Nat) : Int) by omega]
      have hr : Ends s (nextP s p) (p + tokN (s.drop p)) ∧ nextP s p ≤ p + tokN (s.drop p) := by
        rcases t2 with t2 | ⟨q, t2, t3⟩
        · rw [hat.2, t2]; exact ⟨.inl (Nat.le_refl _), Nat.le_refl _⟩
        · have := next q t3
          rw [t2]; exact ⟨.inr ⟨q, this⟩, by omega⟩
      rw [ih (k - 1) (by omega) f (nextP s p) _ _ (by omega) (by omega) n2 (by omega) (by rw [List.length_append, List.length_singleton]; omega) hr.1, Nat.max_eq_right hr.2, scanG_good hne hz l1, hpl, t1, List.drop_drop]
      rfl
    · rw [if_pos hz, scanG_bad hne hz, hpl]
      unfold out6 toS
      rw [if_pos hz, if_neg hz]
  · rw [if_neg h, List.drop_of_length_le (by omega)]
    show some (l1, .nil) = some (toS (out6 l1 ([], 0, 0)))
    unfold out6 toS; rw [if_neg (by simp), List.map_nil, List.append_nil]; rfl
theorem pscan_s : lex_Scan_m N s = some (toS (out6 [] (scanL numS6 s))) := by
  unfold lex_Scan_m scanL
  by_cases h : s.length > 16384
  · rw [if_pos (by omega), if_pos h]; rfl
  · have hl := skipR_len false s
    have := pscan_loop N s hs hN s.length N 0 [] 0 (by omega) (by omega) (Nat.zero_le _) (Nat.zero_le _) (Nat.zero_le _) (.inl (Nat.le_refl _))
    rw [Nat.max_self, List.drop_zero] at this
    rw [if_neg (by omega), if_neg h]
    refine this.trans ?_
    unfold scanG
    rw [scanF_ge s.length _ (s.length + 1) _ (by omega) (by omega)]
end
end Go.Proofs.YtmdjifehblijkaaDoor
