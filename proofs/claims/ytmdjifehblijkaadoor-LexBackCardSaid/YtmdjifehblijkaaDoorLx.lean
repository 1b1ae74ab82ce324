/- Tokens of texts, by definition; what is joined is scanned again; remarks make no difference. Conditions: none but those written. -/
import Derived.Test.YtmdjifehblijkaaDoorRp
namespace Go.Proofs.YtmdjifehblijkaaDoor
open Go Go.RowKit Go.Eng
theorem dec_same {s t : List UInt8} (h : ∀ i, i < (dec s).2 → t.getD i 0 = s.getD i 0) (hl : (dec s).2 ≤ t.length) (hs : s ≠ []) (hc : (dec s).1 ≠ 65533) : dec t = dec s := by
  have hw := dec_w s hs
  have h0 : t.getD 0 0 = s.getD 0 0 := h 0 (by omega)
  unfold dec at h hl hc hw ⊢
  rw [h0]
  generalize (s.getD 0 0).toNat = b0 at *
  unfold decN at h hl hc hw ⊢
  by_cases g0 : b0 < 128
  · rw [if_pos g0, if_pos g0]
  rw [if_neg g0] at h hl hc hw
  rw [if_neg g0, if_neg g0]
  by_cases g1 : 194 ≤ b0 ∧ b0 < 224 ∧ 2 ≤ s.length ∧ cont (s.getD 1 0).toNat
  · rw [if_pos g1] at h hl hc hw
    have h1 : t.getD 1 0 = s.getD 1 0 := h 1 (by show 1 < 2; omega)
    have hl' : 2 ≤ t.length := hl
    rw [if_pos g1, h1, if_pos ⟨g1.1, g1.2.1, hl', g1.2.2.2⟩]
  rw [if_neg g1] at h hl hc hw
  rw [if_neg g1]
  have n1 : ∀ x : Nat, 224 ≤ b0 → ¬ (194 ≤ b0 ∧ b0 < 224 ∧ 2 ≤ t.length ∧ cont x) := fun x hb hh => by omega
  split at h
  · rename_i g2
    rw [if_pos g2] at hl hc hw
    have h1 : t.getD 1 0 = s.getD 1 0 := h 1 (by show 1 < 3; omega)
    have h2 : t.getD 2 0 = s.getD 2 0 := h 2 (by show 2 < 3; omega)
    have hl' : 3 ≤ t.length := hl
    rw [if_pos g2, if_neg (n1 _ g2.1), h1, h2, if_pos ⟨g2.1, g2.2.1, hl', g2.2.2.2⟩]
  rename_i g2
  rw [if_neg g2] at hl hc hw
  rw [if_neg g2]
  split at h
  · rename_i g3
    rw [if_pos g3] at hl hc hw
    have h1 : t.getD 1 0 = s.getD 1 0 := h 1 (by show 1 < 4; omega)
    have h2 : t.getD 2 0 = s.getD 2 0 := h 2 (by show 2 < 4; omega)
    have h3 : t.getD 3 0 = s.getD 3 0 := h 3 (by show 3 < 4; omega)
    have hl' : 4 ≤ t.length := hl
    rw [if_pos g3, if_neg (n1 _ (by omega)), if_neg (fun hh => by omega), h1, h2, h3, if_pos ⟨g3.1, g3.2.1, hl', g3.2.2.2⟩]
  · rename_i g3
    rw [if_neg g3] at hc
    exact absurd rfl hc
theorem getD_take_app (s r : List UInt8) (k i : Nat) (h : i < k) (hk : k ≤ s.length) : (s.take k ++ r).getD i 0 = s.getD i 0 := by
  rw [List.getD_eq_getElem?_getD, List.getD_eq_getElem?_getD, List.getElem?_append_left (by rw [List.length_take]; omega), List.getElem?_take, if_pos h]
theorem dec_take {s : List UInt8} (hs : s ≠ []) (hc : (dec s).1 ≠ 65533) (k : Nat) (hk : (dec s).2 ≤ k) (hl : k ≤ s.length) (r : List UInt8) : dec (s.take k ++ r) = dec s :=
  dec_same (fun i hi => getD_take_app s r k i (by omega) hl) (by rw [List.length_append, List.length_take]; omega) hs hc
theorem dec_ascii (b : UInt8) (hb : b.toNat < 128) (r : List UInt8) : dec (b :: r) = (b.toNat, 1) := by
  unfold dec decN
  rw [List.getD_cons_zero, if_pos hb]
def spanF (p : Int → Bool) : Nat → List UInt8 → Nat
  | 0, _ => 0
  | f + 1, s => if s = [] then 0 else if p ((dec s).1 : Int) = true then (dec s).2 + spanF p f (s.drop (dec s).2) else 0
def spanL (p : Int → Bool) (s : List UInt8) : Nat := spanF p s.length s
theorem spanF_ge (p : Int → Bool) : ∀ (f g : Nat) (s : List UInt8), s.length ≤ f → s.length ≤ g → spanF p f s = spanF p g s
  | 0, 0, _, _, _ => rfl
  | 0, g + 1, s, h, _ => by
    have : s = [] := List.eq_nil_of_length_eq_zero (by omega)
    subst this; rw [spanF, spanF, if_pos rfl]
  | f + 1, 0, s, _, h => by
    have : s = [] := List.eq_nil_of_length_eq_zero (by omega)
    subst this; rw [spanF, spanF, if_pos rfl]
  | f + 1, g + 1, s, h1, h2 => by
    rw [spanF, spanF]
    by_cases hs : s = []
    · rw [if_pos hs, if_pos hs]
    · have hw := dec_w s hs
      rw [if_neg hs, if_neg hs, spanF_ge p f g _ (by rw [List.length_drop]; omega) (by rw [List.length_drop]; omega)]
theorem spanL_nil (p : Int → Bool) : spanL p [] = 0 := rfl
theorem spanL_cons (p : Int → Bool) {s : List UInt8} (hs : s ≠ []) : spanL p s = if p ((dec s).1 : Int) = true then (dec s).2 + spanL p (s.drop (dec s).2) else 0 := by
  have hw := dec_w s hs
  have hl : s.length = (s.length - 1) + 1 := by omega
  unfold spanL
  rw [hl, spanF, if_neg hs, spanF_ge p (s.length - 1) (s.drop (dec s).2).length _ (by rw [List.length_drop]; omega) (Nat.le_refl _)]
theorem spanL_le (p : Int → Bool) : ∀ s : List UInt8, spanL p s ≤ s.length := by
  apply runes_ind
  · exact Nat.le_refl _
  · intro s hs ih
    have hw := dec_w s hs
    rw [spanL_cons p hs]
    rw [List.length_drop] at ih
    split <;> omega
/-- A run is the same where it is cut off, and something is behind that isn't of it. -/
theorem spanL_cut (p : Int → Bool) (hp : p 65533 = false) (r : List UInt8) (hr : spanL p r = 0) : ∀ s : List UInt8, spanL p (s.take (spanL p s) ++ r) = spanL p s := by
  apply runes_ind
  · rw [spanL_nil, List.take_zero, List.nil_append]; exact hr
  · intro s hs ih
    have hw := dec_w s hs
    rw [spanL_cons p hs]
    by_cases h : p ((dec s).1 : Int) = true
    · rw [if_pos h]
      have hc : (dec s).1 ≠ 65533 := fun e => by rw [e] at h; rw [show ((65533 : Nat) : Int) = 65533 from rfl, hp] at h; cases h
      have hle := spanL_le p (s.drop (dec s).2)
      rw [List.length_drop] at hle
      have hd := dec_take hs hc ((dec s).2 + spanL p (s.drop (dec s).2)) (by omega) (by omega) r
      have hne : s.take ((dec s).2 + spanL p (s.drop (dec s).2)) ++ r ≠ [] := fun e => by
        have := congrArg List.length e
        rw [List.length_append, List.length_take, List.length_nil] at this; omega
      have hdrop : (s.take ((dec s).2 + spanL p (s.drop (dec s).2)) ++ r).drop (dec s).2 = (s.drop (dec s).2).take (spanL p (s.drop (dec s).2)) ++ r := by
        rw [List.drop_append_of_le_length (by rw [List.length_take]; omega), List.drop_take]
        congr 2; omega
      rw [spanL_cons p hne, hd, if_pos h, hdrop, ih]
    · rw [if_neg h, List.take_zero, List.nil_append]; exact hr
theorem spanL_low (p : Int → Bool) (b : UInt8) (hb : b.toNat < 128) (hp : p (b.toNat : Int) = false) (x : List UInt8) : spanL p (b :: x) = 0 := by
  rw [spanL_cons p (by simp), dec_ascii b hb, if_neg (by rw [hp]; decide)]
def blankB (c : UInt8) : Bool := c == 32 || c == 9 || c == 10 || c == 13
def skipR : Bool → List UInt8 → List UInt8
  | _, [] => []
  | true, c :: r => if c = 10 then skipR false r else skipR true r
  | false, c :: r => if c = 35 then skipR true r else if blankB c = true then skipR false r else c :: r
theorem skipR_len : ∀ (b : Bool) (s : List UInt8), (skipR b s).length ≤ s.length
  | b, [] => by cases b <;> exact Nat.le_refl _
  | true, c :: r => by
    rw [skipR]
    have h1 := skipR_len false r; have h2 := skipR_len true r
    rw [List.length_cons]
    split <;> omega
  | false, c :: r => by
    rw [skipR]
    have h1 := skipR_len false r; have h2 := skipR_len true r
    rw [List.length_cons]
    split
    · omega
    · split
      · omega
      · rw [List.length_cons]; omega
abbrev TokD := Int × List UInt8 × Int × Int × BitVec 128
def digR (c : Int) : Bool := decide (48 ≤ c ∧ c ≤ 57)
def markR (c : Int) : Bool := decide (c = 123 ∨ c = 125 ∨ c = 40 ∨ c = 41 ∨ c = 91 ∨ c = 93 ∨ c = 59 ∨ c = 58 ∨ c = 44 ∨ c = 61 ∨ c = 47 ∨ c = 38)
def numR (c : Int) : Bool := letR c || digR c || decide (c = 39)
def tok0 : TokD := (0, [], 0, 0, 0#128)
section
variable (numS : List UInt8 → TokD × Int)
/-- the token at the beginning: what it is, what is wrong, and how many bytes it has -/
def tokL (s : List UInt8) : TokD × Int × Nat :=
  if markR ((dec s).1 : Int) = true then ((0, s.take 1, 0, 0, 0#128), 0, 1)
  else if letR ((dec s).1 : Int) = true then
    if mayL (runesL (s.take (spanL inR s))) = true then ((1, s.take (spanL inR s), 0, 0, 0#128), 0, spanL inR s) else (tok0, 2, 0)
  else if digR ((dec s).1 : Int) = true then
    if (numS (s.take (spanL numR s))).2 = 0 then ((numS (s.take (spanL numR s))).1, 0, spanL numR s) else (tok0, (numS (s.take (spanL numR s))).2, 0)
  else (tok0, 4, 0)
/-- the tokens, with their places; or where, and what is wrong -/
def scanF (n : Nat) : Nat → List UInt8 → List (TokD × Int) × Int × Int
  | 0, _ => ([], 0, 99)
  | f + 1, s => if s = [] then ([], 0, 0)
    else if (tokL numS s).2.1 ≠ 0 then ([], (n : Int) - (s.length : Int), (tokL numS s).2.1)
    else if (scanF n f (skipR false (s.drop (tokL numS s).2.2))).2.2 ≠ 0 then ([], (scanF n f (skipR false (s.drop (tokL numS s).2.2))).2.1, (scanF n f (skipR false (s.drop (tokL numS s).2.2))).2.2)
    else (((tokL numS s).1, (n : Int) - (s.length : Int)) :: (scanF n f (skipR false (s.drop (tokL numS s).2.2))).1, 0, 0)
def scanL (s : List UInt8) : List (TokD × Int) × Int × Int := if s.length > 16384 then ([], 0, 2) else scanF numS s.length (s.length + 1) (skipR false s)
variable {numS}
theorem tokL_w {s : List UInt8} (hs : s ≠ []) (h : (tokL numS s).2.1 = 0) : 1 ≤ (tokL numS s).2.2 ∧ (tokL numS s).2.2 ≤ s.length := by
  have hw := dec_w s hs
  have sp : ∀ p : Int → Bool, p ((dec s).1 : Int) = true → 1 ≤ spanL p s ∧ spanL p s ≤ s.length := fun p hp => by
    have := spanL_le p s
    rw [spanL_cons p hs, if_pos hp] at this ⊢
    omega
  unfold tokL at h ⊢
  split at h
  · rename_i g1; rw [if_pos g1]; exact ⟨Nat.le_refl _, by show 1 ≤ s.length; omega⟩
  rename_i g1; rw [if_neg g1]
  split at h
  · rename_i g2; rw [if_pos g2]
    split at h
    · rename_i g3; rw [if_pos g3]; exact sp inR (by unfold inR; rw [g2]; rfl)
    · cases h
  rename_i g2; rw [if_neg g2]
  split at h
  · rename_i g3; rw [if_pos g3]
    split at h
    · rename_i g4; rw [if_pos g4]; exact sp numR (by unfold numR; rw [g3]; cases letR ((dec s).1 : Int) <;> rfl)
    · rename_i g4; exact absurd h g4
  · cases h
theorem scanF_ge (n : Nat) : ∀ (f g : Nat) (s : List UInt8), s.length < f → s.length < g → scanF numS n f s = scanF numS n g s
  | 0, _, _, h, _ => by omega
  | _ + 1, 0, _, _, h => by omega
  | f + 1, g + 1, s, h1, h2 => by
    rw [scanF, scanF]
    by_cases hs : s = []
    · rw [if_pos hs, if_pos hs]
    rw [if_neg hs, if_neg hs]
    by_cases ht : (tokL numS s).2.1 ≠ 0
    · rw [if_pos ht, if_pos ht]
    · have hw := tokL_w hs (by simpa using ht)
      have hl := skipR_len false (s.drop (tokL numS s).2.2)
      rw [List.length_drop] at hl
      rw [if_neg ht, if_neg ht, scanF_ge n f g _ (by omega) (by omega)]
variable {txt : TokD → List UInt8}
/-- What numbers and rows of bits must be for it. -/
structure NumOk (numS : List UInt8 → TokD × Int) (txt : TokD → List UInt8) : Prop where
  low : ∀ d : TokD, d.1 = 0 ∨ d.1 = 1 → txt d = d.2.1
  num : ∀ x, (numS x).2 = 0 → ∃ (b : UInt8) (r : List UInt8), txt (numS x).1 = b :: r ∧ digR (b.toNat : Int) = true ∧ (∀ c ∈ b :: r, c.toNat < 128 ∧ numR (c.toNat : Int) = true) ∧ numS (b :: r) = ((numS x).1, 0)
def Brk (r : List UInt8) : Prop := r = [] ∨ ∃ (b : UInt8) (r' : List UInt8), r = b :: r' ∧ (b = 32 ∨ b = 10)
theorem brk_span {r : List UInt8} (h : Brk r) : spanL inR r = 0 ∧ spanL numR r = 0 := by
  rcases h with rfl | ⟨b, r', rfl, h⟩
  · exact ⟨rfl, rfl⟩
  · rcases h with rfl | rfl <;> exact ⟨spanL_low _ _ (by decide) (by decide) _, spanL_low _ _ (by decide) (by decide) _⟩
/-- What a token's text is scanned as, whatever stands behind a blank. -/
def Good (numS : List UInt8 → TokD × Int) (txt : TokD → List UInt8) (d : TokD) : Prop :=
  ∀ r, Brk r → txt d ≠ [] ∧ skipR false (txt d ++ r) = txt d ++ r ∧ tokL numS (txt d ++ r) = (d, 0, (txt d).length)
theorem span_all (p : Int → Bool) {r : List UInt8} (hr : spanL p r = 0) : ∀ t : List UInt8, (∀ c ∈ t, c.toNat < 128 ∧ p (c.toNat : Int) = true) → spanL p (t ++ r) = t.length
  | [], _ => hr
  | c :: t, h => by
    obtain ⟨h1, h2⟩ := h c (by simp)
    rw [List.cons_append, spanL_cons p (by simp), dec_ascii c h1, if_pos h2]
    show 1 + spanL p (t ++ r) = _
    rw [span_all p hr t (fun c hc => h c (by simp [hc])), List.length_cons]; omega
theorem skip_of {s : List UInt8} {c : UInt8} {r : List UInt8} (h : s = c :: r) (h1 : c ≠ 35) (h2 : blankB c = false) : skipR false s = s := by
  subst h; rw [skipR, if_neg h1, if_neg (by rw [h2]; decide)]
theorem u8_of_nat {c : UInt8} {n : Nat} (h : c.toNat = n) (hn : n < 256) : c = UInt8.ofNat n := UInt8.toNat_inj.mp (by rw [h, UInt8.toNat_ofNat']; omega)
/-- A byte below 128 that begins a text is its first rune; if the first rune is below 128, it is the first byte. -/
theorem dec_byte {c : UInt8} {r : List UInt8} (h : (dec (c :: r)).1 < 128) : c.toNat < 128 := by
  refine Nat.lt_of_not_le fun hc => ?_
  unfold dec decN at h
  rw [List.getD_cons_zero, if_neg (by omega)] at h
  split at h
  · rename_i g; have : 64 * (c.toNat - 192) + ((List.getD (c :: r) 1 0).toNat - 128) < 128 := h; unfold cont at g; omega
  split at h
  · rename_i g; have : 4096 * (c.toNat - 224) + 64 * ((List.getD (c :: r) 1 0).toNat - 128) + ((List.getD (c :: r) 2 0).toNat - 128) < 128 := h; omega
  split at h
  · rename_i g; have : 262144 * (c.toNat - 240) + 4096 * ((List.getD (c :: r) 1 0).toNat - 128) + 64 * ((List.getD (c :: r) 2 0).toNat - 128) + ((List.getD (c :: r) 3 0).toNat - 128) < 128 := h; omega
  · exact absurd h (by decide)
theorem no_skip {c : UInt8} {r : List UInt8} (h : letR ((dec (c :: r)).1 : Int) = true ∨ markR ((dec (c :: r)).1 : Int) = true ∨ digR ((dec (c :: r)).1 : Int) = true) : c ≠ 35 ∧ blankB c = false := by
  by_cases hc : c.toNat < 128
  · rw [dec_ascii c hc] at h
    have key : ∀ n : Nat, n < 128 → (letR (n : Int) = true ∨ markR (n : Int) = true ∨ digR (n : Int) = true) → n ≠ 35 ∧ n ≠ 32 ∧ n ≠ 9 ∧ n ≠ 10 ∧ n ≠ 13 := by decide +kernel
    obtain ⟨h1, h2, h3, h4, h5⟩ := key c.toNat hc h
    have ne : ∀ (n : Nat) (x : UInt8), x.toNat = n → c.toNat ≠ n → c ≠ x := fun n x hx hn e => hn (by rw [e, hx])
    refine ⟨ne 35 35 rfl h1, ?_⟩
    unfold blankB
    simp only [Bool.or_eq_false_iff, beq_eq_false_iff_ne]
    exact ⟨⟨⟨ne 32 32 rfl h2, ne 9 9 rfl h3⟩, ne 10 10 rfl h4⟩, ne 13 13 rfl h5⟩
  · have ne : ∀ (n : Nat) (x : UInt8), x.toNat = n → n < 128 → c ≠ x := fun n x hx hn e => by rw [e, hx] at hc; omega
    refine ⟨ne 35 35 rfl (by decide), ?_⟩
    unfold blankB
    simp only [Bool.or_eq_false_iff, beq_eq_false_iff_ne]
    exact ⟨⟨⟨ne 32 32 rfl (by decide), ne 9 9 rfl (by decide)⟩, ne 10 10 rfl (by decide)⟩, ne 13 13 rfl (by decide)⟩
theorem letR_ne : letR 65533 = false := by decide
theorem inR_ne : inR 65533 = false := by decide
/-- Each token of a text is good. -/
theorem tok_good (hk : NumOk numS txt) {s : List UInt8} (hs : s ≠ []) (h : (tokL numS s).2.1 = 0) : Good numS txt (tokL numS s).1 := by
  intro r hr
  obtain ⟨hb1, hb2⟩ := brk_span hr
  obtain ⟨c, s', rfl⟩ : ∃ c s', s = c :: s' := List.exists_cons_of_ne_nil hs
  unfold tokL at h ⊢
  split at h
  · rename_i g1
    rw [if_pos g1]
    have ht : txt (0, (c :: s').take 1, 0, 0, 0#128) = [c] := hk.low _ (.inl rfl)
    have hlt : (dec (c :: s')).1 < 128 := by
      unfold markR at g1; have := of_decide_eq_true g1; omega
    have hc := dec_byte hlt
    have e := dec_ascii c hc s'
    rw [e] at g1
    obtain ⟨q1, q2⟩ := no_skip (c := c) (r := s') (.inr (.inl (by rw [e]; exact g1)))
    show txt _ ≠ [] ∧ _
    rw [ht]
    refine ⟨by simp, skip_of rfl q1 q2, ?_⟩
    rw [List.singleton_append, dec_ascii c hc, if_pos g1]; rfl
  rename_i g1
  rw [if_neg g1]
  split at h
  · rename_i g2
    rw [if_pos g2]
    split at h
    · rename_i g3
      rw [if_pos g3]
      have ht : txt (1, (c :: s').take (spanL inR (c :: s')), 0, 0, 0#128) = (c :: s').take (spanL inR (c :: s')) := hk.low _ (.inr rfl)
      have hw := dec_w _ hs
      have hin : inR ((dec (c :: s')).1 : Int) = true := by unfold inR; rw [g2]; rfl
      have hsp : (dec (c :: s')).2 ≤ spanL inR (c :: s') := by rw [spanL_cons inR hs, if_pos hin]; omega
      have hle := spanL_le inR (c :: s')
      have hc : (dec (c :: s')).1 ≠ 65533 := fun e => by rw [e] at g2; rw [show ((65533 : Nat) : Int) = 65533 from rfl, letR_ne] at g2; cases g2
      have hd := dec_take hs hc _ hsp hle r
      obtain ⟨q1, q2⟩ := no_skip (c := c) (r := s') (.inl g2)
      obtain ⟨k, hk'⟩ : ∃ k, spanL inR (c :: s') = k + 1 := ⟨spanL inR (c :: s') - 1, by omega⟩
      have hcut := spanL_cut inR inR_ne r hb1 (c :: s')
      show txt _ ≠ [] ∧ _
      rw [ht]
      refine ⟨by rw [hk']; simp, skip_of (c := c) (r := s'.take k ++ r) (by rw [hk']; rfl) q1 q2, ?_⟩
      have htk : ((c :: s').take (spanL inR (c :: s')) ++ r).take (spanL inR (c :: s')) = (c :: s').take (spanL inR (c :: s')) := by
        rw [List.take_append_of_le_length (by rw [List.length_take]; omega), List.take_take, Nat.min_self]
      rw [hd, if_neg g1, if_pos g2, hcut, htk, if_pos g3, List.length_take, Nat.min_eq_left hle]
    · cases h
  rename_i g2
  rw [if_neg g2]
  split at h
  · rename_i g3
    rw [if_pos g3]
    split at h
    · rename_i g4
      rw [if_pos g4]
      obtain ⟨b, r', ht, hb, hall, hagain⟩ := hk.num _ g4
      have hblt := (hall b (by simp)).1
      have hspan := span_all numR hb2 (b :: r') hall
      have hm : markR (b.toNat : Int) = false := by
        unfold digR at hb; have := of_decide_eq_true hb
        unfold markR; exact decide_eq_false (by omega)
      have hlb : letR (b.toNat : Int) = false := by
        unfold digR at hb; have := of_decide_eq_true hb
        unfold letR; exact decide_eq_false (by omega)
      obtain ⟨q1, q2⟩ := no_skip (c := b) (r := r') (.inr (.inr (by rw [dec_ascii b hblt]; exact hb)))
      show txt (numS _).1 ≠ [] ∧ _
      rw [ht]
      refine ⟨by simp, skip_of rfl q1 q2, ?_⟩
      have hd : dec (b :: r' ++ r) = (b.toNat, 1) := dec_ascii b hblt _
      rw [hd]
      rw [if_neg (by rw [hm]; decide), if_neg (by rw [hlb]; decide), if_pos hb, hspan, List.take_left, hagain, if_pos rfl]
    · rename_i g4; exact absurd h g4
  · cases h
def joinL (txt : TokD → List UInt8) : List TokD → List UInt8
  | [] => []
  | [d] => txt d
  | d :: e :: l => txt d ++ 32 :: joinL txt (e :: l)
theorem scan_toks (hk : NumOk numS txt) (n : Nat) : ∀ (f : Nat) (s : List UInt8), (scanF numS n f s).2.2 = 0 → ∀ d ∈ (scanF numS n f s).1, Good numS txt d.1
  | 0, _, h => by cases h
  | f + 1, s, h => by
    rw [scanF] at h ⊢
    by_cases hs : s = []
    · rw [if_pos hs]; intro d hd; cases hd
    rw [if_neg hs] at h ⊢
    by_cases ht : (tokL numS s).2.1 ≠ 0
    · rw [if_pos ht] at h; exact absurd h ht
    rw [if_neg ht] at h ⊢
    by_cases hq : (scanF numS n f (skipR false (s.drop (tokL numS s).2.2))).2.2 ≠ 0
    · rw [if_pos hq] at h; exact absurd h hq
    rw [if_neg hq]
    intro d hd
    rcases List.mem_cons.1 hd with rfl | hd
    · exact tok_good hk hs (by simpa using ht)
    · exact scan_toks hk n f _ (by simpa using hq) d hd
theorem join_scan (n : Nat) : ∀ (l : List TokD), (∀ d ∈ l, Good numS txt d) → ∀ f, (joinL txt l).length < f →
    skipR false (joinL txt l) = joinL txt l ∧ (scanF numS n f (joinL txt l)).2 = (0, 0) ∧ (scanF numS n f (joinL txt l)).1.map (·.1) = l
  | [], _, f, hf => by
    obtain ⟨f, rfl⟩ : ∃ k, f = k + 1 := ⟨f - 1, by omega⟩
    exact ⟨rfl, by rw [joinL, scanF, if_pos rfl], by rw [joinL, scanF, if_pos rfl]; rfl⟩
  | [d], h, f, hf => by
    obtain ⟨f, rfl⟩ : ∃ k, f = k + 1 := ⟨f - 1, by omega⟩
    obtain ⟨h1, h2, h3⟩ := h d (by simp) [] (.inl rfl)
    rw [List.append_nil] at h2 h3
    have hlen : 0 < (txt d).length := List.length_pos_iff.mpr h1
    obtain ⟨f, rfl⟩ : ∃ k, f = k + 1 := ⟨f - 1, by rw [joinL] at hf; omega⟩
    have e : scanF numS n (f + 1 + 1) (txt d) = ([(d, (n : Int) - ((txt d).length : Int))], 0, 0) := by
      rw [scanF, if_neg h1, h3, if_neg (by simp), List.drop_length]
      show (if (scanF numS n (f + 1) (skipR false [])).2.2 ≠ 0 then _ else _) = _
      have : scanF numS n (f + 1) (skipR false []) = ([], 0, 0) := by rw [skipR, scanF, if_pos rfl]
      rw [this, if_neg (by simp)]
    rw [joinL, e]
    exact ⟨h2, rfl, rfl⟩
  | d :: e :: l, h, f, hf => by
    obtain ⟨f, rfl⟩ : ∃ k, f = k + 1 := ⟨f - 1, by omega⟩
    obtain ⟨h1, h2, h3⟩ := h d (by simp) (32 :: joinL txt (e :: l)) (.inr ⟨32, _, rfl, .inl rfl⟩)
    have hlen : 0 < (txt d).length := List.length_pos_iff.mpr h1
    rw [joinL] at hf ⊢
    rw [List.length_append, List.length_cons] at hf
    obtain ⟨i1, i2, i3⟩ := join_scan n (e :: l) (fun x hx => h x (by simp [hx])) f (by omega)
    have hne : txt d ++ 32 :: joinL txt (e :: l) ≠ [] := by simp
    have hsk : skipR false (32 :: joinL txt (e :: l)) = joinL txt (e :: l) := by rw [skipR, if_neg (by decide), if_pos (by decide), i1]
    have e2 : (scanF numS n f (joinL txt (e :: l))).2.2 = 0 := by rw [i2]
    refine ⟨h2, ?_, ?_⟩
    · rw [scanF, if_neg hne, h3, if_neg (by simp)]
      show ((if (scanF numS n f (skipR false ((txt d ++ 32 :: joinL txt (e :: l)).drop (txt d).length))).2.2 ≠ 0 then _ else _ : List (TokD × Int) × Int × Int)).2 = _
      rw [List.drop_left, hsk, if_neg (by rw [e2]; simp)]
    · rw [scanF, if_neg hne, h3, if_neg (by simp)]
      show (((if (scanF numS n f (skipR false ((txt d ++ 32 :: joinL txt (e :: l)).drop (txt d).length))).2.2 ≠ 0 then _ else _ : List (TokD × Int) × Int × Int)).1).map (·.1) = _
      rw [List.drop_left, hsk, if_neg (by rw [e2]; simp), List.map_cons, i3]
/-- What is joined of a text's tokens is scanned as the same ones. -/
theorem scan_back (hk : NumOk numS txt) (s : List UInt8) (h : (scanL numS s).2.2 = 0) (ht : (joinL txt ((scanL numS s).1.map (·.1))).length ≤ 16384) :
    (scanL numS (joinL txt ((scanL numS s).1.map (·.1)))).2 = (0, 0) ∧ (scanL numS (joinL txt ((scanL numS s).1.map (·.1)))).1.map (·.1) = (scanL numS s).1.map (·.1) := by
  have hg : ∀ d ∈ (scanL numS s).1.map (·.1), Good numS txt d := fun d hd => by
    obtain ⟨x, hx, rfl⟩ := List.mem_map.1 hd
    unfold scanL at h hx
    split at h
    · cases h
    · rename_i g
      rw [if_neg g] at hx
      exact scan_toks hk _ _ _ h x hx
  generalize (scanL numS s).1.map (·.1) = l at *
  obtain ⟨h1, h2, h3⟩ := join_scan (numS := numS) (txt := txt) (joinL txt l).length l hg ((joinL txt l).length + 1) (by omega)
  unfold scanL
  rw [if_neg (by omega), h1]
  exact ⟨h2, h3⟩
end
end Go.Proofs.YtmdjifehblijkaaDoor
