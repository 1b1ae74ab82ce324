/- The reference of layer 6: its models' answers are the definitions'. Conditions: none. -/
import Derived.Test.YtmdjifehblijkaaLy
import Derived.Test.YtmdjifehblijkaaLxR
namespace Go.Proofs.Ytmdjifehblijkaa
open Go Go.RowKit Go.Eng
theorem ref_loop (s : List UInt8) (hs : s.length ≤ 4611686018427387904) : ∀ (f i : Nat), i ≤ s.length → s.length - i < f → shunterref02_Parse_l8 s f (i : Int) = shunterref02_Parse_k2 s ((i + apos (s.drop i) : Nat) : Int) := by
  intro f
  induction f with
  | zero => intro i _ h; omega
  | succ f ih =>
    intro i hi hf
    rw [shunterref02_Parse_l8]
    by_cases hlt : i < s.length
    · have e : s.drop i = s[i] :: s.drop (i + 1) := List.drop_eq_getElem_cons hlt
      rw [if_pos (by omega), ck_pos _ (by omega), byteAt_get hlt, e]
      unfold apos
      by_cases h : s[i] = 39
      · rw [if_neg (by rw [h]; decide), if_pos h]; rfl
      · have h' : ¬ ((s[i].toNat : Nat) : Int) = 39 := fun hh => h (UInt8.toNat_inj.1 (by show s[i].toNat = 39; omega))
        rw [if_pos h', if_neg h, ck_pos _ (by omega)]
        have := ih (i + 1) (by omega) (by omega)
        rw [show (((i + 1 : Nat)) : Int) = (i : Int) + 1 from by omega] at this
        rw [this]
        congr 2
        omega
    · have : s.drop i = [] := List.drop_eq_nil_of_le (by omega)
      rw [if_neg (by omega), this]
      rfl
theorem rparsev_s (N : Nat) (s : List UInt8) (hs : s.length < 4294967281) (hN : s.length < N) : shunterref02_Parse_m N s = some (parseV s) := by
  unfold shunterref02_Parse_m
  have := ref_loop s (by omega) N 0 (by omega) (by omega)
  simp only [List.drop_zero, Nat.zero_add] at this
  refine this.trans ?_
  have hle := apos_le s
  unfold shunterref02_Parse_k2
  by_cases hf : apos s < s.length
  · rw [if_neg (by omega)]
    by_cases h1 : apos s < 1
    · rw [if_pos (by omega)]; rw [parseV_bad (by omega)]; rfl
    · rw [if_neg (by omega)]
      by_cases h3 : apos s > 3
      · rw [if_pos (by omega)]; rw [parseV_bad (by omega)]; rfl
      · rw [if_neg (by omega)]
        unfold shunterref02_Parse_k3
        have et : ((apos s : Nat) : Int).toNat = apos s := Int.toNat_natCast _
        have et1 : (((apos s : Nat) : Int) + 1).toNat = apos s + 1 := by omega
        rw [et, et1, ck_pos _ (by omega), ck_pos _ (by rw [List.length_take]; omega), ck_pos _ (by omega), ck_pos _ (by omega), ck_pos _ (by rw [List.length_drop]; omega)]
        by_cases h10 : (parseR (s.take (apos s)) 10).2 = 0
        · rw [if_neg (by simpa using h10)]
          by_cases e4 : (parseR (s.drop (apos s + 1)) 16).2 = 4
          · rw [if_pos e4]; rw [parseV_bad (fun h => h.2.2.2.2.2 e4)]; rfl
          · rw [if_neg e4]
            by_cases e3 : (parseR (s.drop (apos s + 1)) 16).2 = 3
            · rw [if_pos e3]; rw [parseV_bad (fun h => h.2.2.2.2.1 e3)]; rfl
            · rw [if_neg e3]
              have hsm := parseR_small (s := s.take (apos s)) (by rw [List.length_take]; omega)
              have hlo := lo_small hsm
              unfold shunterref02_Parse_k4 shunterref02_Parse_k5 shunterref02_Parse_k6
              rw [et, et1, hlo, parseV_good ⟨hf, by omega, by omega, h10, e3, e4⟩]
              have c1 : (lo (parseR (s.take (apos s)) 10).1 < 1#64) ↔ (parseR (s.take (apos s)) 10).1.toNat < 1 := by rw [BitVec.lt_def, hlo]; rfl
              have c2 : (128#64 < lo (parseR (s.take (apos s)) 10).1) ↔ 128 < (parseR (s.take (apos s)) 10).1.toNat := by rw [BitVec.lt_def, hlo]; rfl
              generalize hW : (parseR (s.take (apos s)) 10).1.toNat = W at *
              by_cases d1 : W < 1
              · rw [if_pos (c1.2 d1), if_neg (by omega)]; rfl
              · rw [if_neg (fun h => d1 (c1.1 h))]
                by_cases d2 : 128 < W
                · rw [if_pos (c2.2 d2), if_neg (by omega)]; rfl
                · rw [if_neg (fun h => d2 (c2.1 h)), if_pos (show 1 ≤ (W : Int) ∧ (W : Int) ≤ 128 by omega)]
                  by_cases h0 : (parseR (s.drop (apos s + 1)) 16).2 = 0
                  · rw [if_neg (by simpa using h0), ck_pos _ (by omega)]
                    by_cases hm : ((len128 (parseR (s.drop (apos s + 1)) 16).1 : Nat) : Int) > (W : Int)
                    · rw [if_pos hm, if_neg (fun h => by have := (may_w h.2).2.2; omega)]; rfl
                    · rw [if_neg hm, ck_pos _ (by omega), if_pos ⟨h0, by simp only [mayB, Bool.and_eq_true, decide_eq_true_eq]; omega⟩]
                  · rw [if_pos h0, if_neg (fun h => h0 h.1)]; rfl
        · rw [if_pos h10]
          rw [parseV_bad (fun h => h10 h.2.2.2.1)]; rfl
  · rw [if_pos (by omega)]
    rw [parseV_bad (fun h => hf h.1)]; rfl
theorem int_tail (a' : Int) (t : List UInt8) (b : Int) (h : t.length ≤ 100000) : shunterref06_Number_k5 a' t b = some ((intS t b).1.1, (intS t b).1.2.1, (intS t b).1.2.2.1, (intS t b).1.2.2.2.1, (intS t b).1.2.2.2.2, a', (intS t b).2) := by
  unfold shunterref06_Number_k5 intS
  rw [ck_pos _ (by omega)]
  by_cases h4 : (parseR t b).2 = 4
  · rw [if_pos h4, if_pos (.inl h4)]; rfl
  rw [if_neg h4]
  by_cases h3 : (parseR t b).2 = 3
  · rw [if_pos h3, if_pos (.inr h3)]; rfl
  rw [if_neg h3, if_neg (fun hh => hh.elim h4 h3)]
  unfold shunterref06_Number_k6
  by_cases h0 : (parseR t b).2 ≠ 0
  · rw [if_pos h0, if_pos (.inl h0)]; rfl
  rw [if_neg h0]
  by_cases hl : ((len128 (parseR t b).1 : Nat) : Int) > 63
  · rw [if_pos hl, if_pos (.inr hl)]; rfl
  rw [if_neg hl, if_neg (fun hh => hh.elim h0 hl)]
  have h63 := len63 hl
  have hlo : (lo (parseR t b).1).toNat = (parseR t b).1.toNat := by rw [lo_toNat, Nat.mod_eq_of_lt (Nat.lt_trans h63 (by decide))]
  unfold shunterref06_Number_k7
  rw [hlo, ck_pos _ (by omega)]; rfl
theorem refnum_loop (N : Nat) (s : List UInt8) (a' : Int) (hs : s.length ≤ 100000) (hN : s.length < N) : ∀ (f i : Nat), i ≤ s.length → s.length - i < f → apos s = i + apos (s.drop i) →
    shunterref06_Number_l2 N s a' f (i : Int) = some ((numS6 s).1.1, (numS6 s).1.2.1, (numS6 s).1.2.2.1, (numS6 s).1.2.2.2.1, (numS6 s).1.2.2.2.2, a', (numS6 s).2) := by
  intro f
  induction f with
  | zero => intro i _ h; omega
  | succ f ih =>
    intro i hi hf ha
    rw [shunterref06_Number_l2]
    by_cases hlt : i < s.length
    · have e : s.drop i = s[i] :: s.drop (i + 1) := List.drop_eq_getElem_cons hlt
      rw [e, apos] at ha
      rw [if_pos (by omega), ck_pos _ (by omega), byteAt_get hlt]
      by_cases h : s[i] = 39
      · rw [if_pos ((b_eq (n := 39) rfl).mpr h)]
        rw [if_pos h] at ha
        rw [rparsev_s N s (by omega) hN, Option.bind_some]
        unfold numS6
        rw [if_pos (by omega)]
      · rw [if_neg (fun hh => h ((b_eq (n := 39) rfl).mp hh)), ck_pos _ (by omega), show (i : Int) + 1 = ((i + 1 : Nat) : Int) by omega]
        rw [if_neg h] at ha
        exact ih (i + 1) (by omega) (by omega) (by omega)
    · have e : s.drop i = [] := List.drop_eq_nil_of_le (by omega)
      rw [e, apos] at ha
      rw [if_neg (by omega)]
      have hn : ¬ apos s < s.length := by omega
      have t2 : ((2 : Int)).toNat = 2 := rfl
      have dec10 : shunterref06_Number_k5 a' s 10 = some ((intS s 10).1.1, (intS s 10).1.2.1, (intS s 10).1.2.2.1, (intS s 10).1.2.2.2.1, (intS s 10).1.2.2.2.2, a', (intS s 10).2) := int_tail a' s 10 hs
      by_cases h2 : ((s.length : Nat) : Int) ≥ 2
      · rw [if_pos h2, ck_pos _ (by omega), t2]
        by_cases h0x : s.take 2 = [48, 120]
        · rw [if_pos h0x, ck_pos _ (by omega), int_tail a' (s.drop 2) 16 (by rw [List.length_drop]; omega)]
          unfold numS6
          rw [if_neg hn, if_pos ⟨by omega, h0x⟩]
        · rw [if_neg h0x, dec10]
          unfold numS6
          rw [if_neg hn, if_neg (fun hh => h0x hh.2)]
      · rw [if_neg h2, dec10]
        unfold numS6
        rw [if_neg hn, if_neg (fun hh => h2 (by omega))]
theorem refnum_s (N : Nat) (s : List UInt8) (a' : Int) (hs : s.length ≤ 100000) (hN : s.length < N) : shunterref06_Number_m N s a' = some ((numS6 s).1.1, (numS6 s).1.2.1, (numS6 s).1.2.2.1, (numS6 s).1.2.2.2.1, (numS6 s).1.2.2.2.2, a', (numS6 s).2) :=
  refnum_loop N s a' hs hN N 0 (by omega) (by omega) (by rw [List.drop_zero, Nat.zero_add])
theorem refdigit_s (N : Nat) (c : Int) : shunterref06_digit_m N c = some (digR c) := by
  unfold shunterref06_digit_m digR
  by_cases h : c ≥ 48
  · rw [if_pos h]; congr 1; exact decide_eq_decide.2 ⟨fun hh => ⟨h, hh⟩, fun hh => hh.2⟩
  · rw [if_neg h]; congr 1; exact (decide_eq_false (fun hh => h hh.1)).symm
def runP (w : Bool) : Int → Bool := if w = true then inR else numR
theorem scan_inner (N : Nat) (s : List UInt8) (hs : s.length ≤ 100000) (l1 : List (Int × List UInt8 × Int × Int × BitVec 128 × Int)) (a' : Int) (rec' : List (Int × List UInt8 × Int × Int × BitVec 128 × Int) → Int → Option ((List (Int × List UInt8 × Int × Int × BitVec 128 × Int)) × Int × Int)) (w : Bool) :
    ∀ (k f p : Nat), s.length - p ≤ k → k < f → p ≤ s.length → shunterref06_Scan_l10 N s l1 a' rec' w f (p : Int) = shunterref06_Scan_k8 N s l1 a' rec' w ((p + spanL (runP w) (s.drop p) : Nat) : Int) := by
  intro k
  induction k with
  | zero =>
    intro f p hk hf hp
    obtain ⟨f, rfl⟩ : ∃ j, f = j + 1 := ⟨f - 1, by omega⟩
    rw [shunterref06_Scan_l10, if_neg (by omega), List.drop_of_length_le (by omega), spanL_nil]; rfl
  | succ k ih =>
    intro f p hk hf hp
    obtain ⟨f, rfl⟩ : ∃ j, f = j + 1 := ⟨f - 1, by omega⟩
    by_cases h : p < s.length
    · have hne : s.drop p ≠ [] := fun e => by have := congrArg List.length e; rw [List.length_drop, List.length_nil] at this; omega
      have hw := dec_w _ hne
      have hld := List.length_drop (i := p) (l := s)
      rw [shunterref06_Scan_l10, if_pos (by omega), ck_pos _ (by omega), Int.toNat_natCast, first_s N _ hne, Option.bind_some, refletter_s, Option.bind_some]
      have go : runP w ((dec (s.drop p)).1 : Int) = true → ck ((-9223372036854775808 ≤ ((p : Int) + ((dec (s.drop p)).2 : Int)) ∧ ((p : Int) + ((dec (s.drop p)).2 : Int)) ≤ 9223372036854775807)) ((shunterref06_Scan_l10 N s l1 a' rec' w f) ((p : Int) + ((dec (s.drop p)).2 : Int))) = shunterref06_Scan_k8 N s l1 a' rec' w ((p + spanL (runP w) (s.drop p) : Nat) : Int) := fun hq => by
        rw [ck_pos _ (by omega), show (p : Int) + ((dec (s.drop p)).2 : Int) = ((p + (dec (s.drop p)).2 : Nat) : Int) by omega, ih f _ (by omega) (by omega) (by omega), spanL_cons _ hne, if_pos hq, List.drop_drop]
        congr 2; omega
      have stop : runP w ((dec (s.drop p)).1 : Int) = false → shunterref06_Scan_k8 N s l1 a' rec' w (p : Int) = shunterref06_Scan_k8 N s l1 a' rec' w ((p + spanL (runP w) (s.drop p) : Nat) : Int) := fun hq => by
        rw [spanL_cons _ hne, if_neg (by rw [hq]; decide)]; rfl
      revert go stop
      show _ → _ → (if letR ((dec (s.drop p)).1 : Int) = true then _ else _) = _
      generalize ((dec (s.drop p)).1 : Int) = c
      intro go stop
      by_cases hl : letR c = true
      · rw [if_pos hl]; exact go (by cases w <;> (unfold runP inR numR; simp [hl]))
      rw [if_neg hl, refdigit_s, Option.bind_some]
      have hl' : letR c = false := by simpa using hl
      by_cases hd : digR c = true
      · rw [if_pos hd]
        have hd' : 48 ≤ c ∧ c ≤ 57 := by unfold digR at hd; exact of_decide_eq_true hd
        exact go (by cases w <;> (unfold runP inR numR; simp [hd, hd']))
      rw [if_neg hd]
      have hd' : ¬ (48 ≤ c ∧ c ≤ 57) := by unfold digR at hd; simpa using hd
      have hd2 : digR c = false := by simpa using hd
      cases w with
      | true =>
        rw [if_pos rfl]
        by_cases h1 : c = 45
        · rw [if_pos h1]; exact go (by unfold runP inR; rw [if_pos rfl, decide_eq_true (show (48 ≤ c ∧ c ≤ 57) ∨ c = 45 ∨ c = 46 from .inr (.inl h1)), Bool.or_true])
        rw [if_neg h1]
        by_cases h2 : c = 46
        · rw [if_pos h2]; exact go (by unfold runP inR; rw [if_pos rfl, decide_eq_true (show (48 ≤ c ∧ c ≤ 57) ∨ c = 45 ∨ c = 46 from .inr (.inr h2)), Bool.or_true])
        rw [if_neg h2]
        exact stop (by unfold runP inR; rw [if_pos rfl, hl', decide_eq_false (show ¬ ((48 ≤ c ∧ c ≤ 57) ∨ c = 45 ∨ c = 46) by omega)]; rfl)
      | false =>
        rw [if_neg (by decide)]
        by_cases h1 : c = 39
        · rw [if_pos h1]; exact go (by unfold runP numR; rw [if_neg (by decide), decide_eq_true h1, Bool.or_true])
        rw [if_neg h1]
        exact stop (by unfold runP numR; rw [if_neg (by decide), hl', hd2, decide_eq_false h1]; rfl)
    · rw [shunterref06_Scan_l10, if_neg (by omega), List.drop_of_length_le (by omega), spanL_nil]; rfl
theorem mark_chain {α : Type} (c : Int) (F : Bool → α) : (if c = 123 then F true else if c = 125 then F true else if c = 40 then F true else if c = 41 then F true else if c = 91 then F true else if c = 93 then F true else if c = 59 then F true else if c = 58 then F true else if c = 44 then F true else if c = 61 then F true else if c = 47 then F true else F (c == 38)) = F (markR c) := by
  by_cases h123 : c = 123
  · rw [if_pos h123]; subst h123; rfl
  rw [if_neg h123]
  by_cases h125 : c = 125
  · rw [if_pos h125]; subst h125; rfl
  rw [if_neg h125]
  by_cases h40 : c = 40
  · rw [if_pos h40]; subst h40; rfl
  rw [if_neg h40]
  by_cases h41 : c = 41
  · rw [if_pos h41]; subst h41; rfl
  rw [if_neg h41]
  by_cases h91 : c = 91
  · rw [if_pos h91]; subst h91; rfl
  rw [if_neg h91]
  by_cases h93 : c = 93
  · rw [if_pos h93]; subst h93; rfl
  rw [if_neg h93]
  by_cases h59 : c = 59
  · rw [if_pos h59]; subst h59; rfl
  rw [if_neg h59]
  by_cases h58 : c = 58
  · rw [if_pos h58]; subst h58; rfl
  rw [if_neg h58]
  by_cases h44 : c = 44
  · rw [if_pos h44]; subst h44; rfl
  rw [if_neg h44]
  by_cases h61 : c = 61
  · rw [if_pos h61]; subst h61; rfl
  rw [if_neg h61]
  by_cases h47 : c = 47
  · rw [if_pos h47]; subst h47; rfl
  rw [if_neg h47]
  by_cases h38 : c = 38
  · subst h38; rfl
  · rw [show (c == 38) = false from beq_eq_false_iff_ne.mpr h38]
    unfold markR; rw [decide_eq_false (by omega)]
end Go.Proofs.Ytmdjifehblijkaa
