/- Tokens of texts, by definition; what is joined is scanned again; remarks make no difference. Conditions: none but those written. -/
import Derived.Test.YtmdjifehblijkaaRp
namespace Go.Proofs.Ytmdjifehblijkaa
open Go Go.RowKit Go.Eng
/-- The bytes behind a byte below 128 don't tell. -/
theorem dec_low {s : List UInt8} (hs : s ≠ []) (b : UInt8) (hb : b.toNat < 128) (x y : List UInt8) : dec (s ++ b :: x) = dec (s ++ b :: y) := by
  have hnc : ¬ cont b.toNat := fun h => by unfold cont at h; omega
  have key : ∀ i, (s ++ b :: x).getD i 0 = (s ++ b :: y).getD i 0 ∨ s.length < i := fun i => by
    by_cases h : i < s.length
    · left; rw [List.getD_eq_getElem?_getD, List.getD_eq_getElem?_getD, List.getElem?_append_left h, List.getElem?_append_left h]
    · by_cases h2 : i = s.length
      · left; subst h2
        rw [List.getD_eq_getElem?_getD, List.getD_eq_getElem?_getD, List.getElem?_append_right (Nat.le_refl _), List.getElem?_append_right (Nat.le_refl _)]; simp
      · right; omega
  have at' : ∀ z : List UInt8, (s ++ b :: z).getD s.length 0 = b := fun z => by
    rw [List.getD_eq_getElem?_getD, List.getElem?_append_right (Nat.le_refl _)]; simp
  have h0 := key 0
  have hlen : 0 < s.length := List.length_pos_iff.mpr hs
  have e0 := h0.resolve_right (by omega)
  have len : ∀ z : List UInt8, (s ++ b :: z).length = s.length + 1 + z.length := fun z => by rw [List.length_append, List.length_cons]; omega
  unfold dec
  rw [e0]
  have lx := len x; have ly := len y
  by_cases s1 : s.length = 1
  · have a1 := at' x; have a2 := at' y
    rw [s1] at a1 a2
    unfold decN
    rw [a1, a2]
    have n1 : ∀ (P Q R : Prop), ¬ (P ∧ Q ∧ R ∧ cont b.toNat) := fun _ _ _ h => hnc h.2.2.2
    have n2 : ∀ (P Q R S : Prop), ¬ (P ∧ Q ∧ R ∧ cont b.toNat ∧ S) := fun _ _ _ _ h => hnc h.2.2.2.1
    rw [if_neg (n1 _ _ _), if_neg (n2 _ _ _ _), if_neg (n2 _ _ _ _), if_neg (n1 _ _ _), if_neg (n2 _ _ _ _), if_neg (n2 _ _ _ _)]
  have e1 := (key 1).resolve_right (by omega)
  rw [e1]
  by_cases s2 : s.length = 2
  · have a1 := at' x; have a2 := at' y
    rw [s2] at a1 a2
    unfold decN
    rw [a1, a2]
    have n2 : ∀ (P Q R S T : Prop), ¬ (P ∧ Q ∧ R ∧ S ∧ cont b.toNat ∧ T) := fun _ _ _ _ _ h => hnc h.2.2.2.2.1
    have l1 : 2 ≤ (s ++ b :: x).length ↔ 2 ≤ (s ++ b :: y).length := by omega
    simp only [l1, if_neg (n2 _ _ _ _ _)]
  have e2 := (key 2).resolve_right (by omega)
  rw [e2]
  by_cases s3 : s.length = 3
  · have a1 := at' x; have a2 := at' y
    rw [s3] at a1 a2
    unfold decN
    rw [a1, a2]
    have n2 : ∀ (P Q R S T U : Prop), ¬ (P ∧ Q ∧ R ∧ S ∧ T ∧ cont b.toNat ∧ U) := fun _ _ _ _ _ _ h => hnc h.2.2.2.2.2.1
    have l1 : 2 ≤ (s ++ b :: x).length ↔ 2 ≤ (s ++ b :: y).length := by omega
    have l2 : 3 ≤ (s ++ b :: x).length ↔ 3 ≤ (s ++ b :: y).length := by omega
    simp only [l1, l2, if_neg (n2 _ _ _ _ _ _)]
  have e3 := (key 3).resolve_right (by omega)
  rw [e3]
  unfold decN
  have l1 : 2 ≤ (s ++ b :: x).length ↔ 2 ≤ (s ++ b :: y).length := by omega
  have l2 : 3 ≤ (s ++ b :: x).length ↔ 3 ≤ (s ++ b :: y).length := by omega
  have l3 : 4 ≤ (s ++ b :: x).length ↔ 4 ≤ (s ++ b :: y).length := by omega
  simp only [l1, l2, l3]
theorem dec_ascii (b : UInt8) (hb : b.toNat < 128) (r : List UInt8) : dec (b :: r) = (b.toNat, 1) := by
  unfold dec decN
  rw [List.getD_cons_zero, if_pos hb]
def spanF (p : Int → Bool) : Nat → List UInt8 → Nat
  | 0, _ => 0
  | f + 1, s => if s = [] then 0 else if p ((dec s).1 : Int) = true then (dec s).2 + spanF p f (s.drop (dec s).2) else 0
def spanL (p : Int → Bool) (s : List UInt8) : Nat := spanF p s.length s
theorem spanF_ge (p : Int → Bool) : ∀ (f g : Nat) (s : List UInt8), s.length ≤ f → s.length ≤ g → spanF p f s = spanF p g s
  | 0, 0, _, _, _ => rfl
  | 0, g + 1, s, h, _ => by
    have : s = [] := List.eq_nil_of_length_eq_zero (by omega)
    subst this; rw [spanF, spanF, if_pos rfl]
  | f + 1, 0, s, _, h => by
    have : s = [] := List.eq_nil_of_length_eq_zero (by omega)
    subst this; rw [spanF, spanF, if_pos rfl]
  | f + 1, g + 1, s, h1, h2 => by
    rw [spanF, spanF]
    by_cases hs : s = []
    · rw [if_pos hs, if_pos hs]
    · have hw := dec_w s hs
      rw [if_neg hs, if_neg hs, spanF_ge p f g _ (by rw [List.length_drop]; omega) (by rw [List.length_drop]; omega)]
theorem spanL_nil (p : Int → Bool) : spanL p [] = 0 := rfl
theorem spanL_cons (p : Int → Bool) {s : List UInt8} (hs : s ≠ []) : spanL p s = if p ((dec s).1 : Int) = true then (dec s).2 + spanL p (s.drop (dec s).2) else 0 := by
  have hw := dec_w s hs
  have hl : s.length = (s.length - 1) + 1 := by omega
  unfold spanL
  rw [hl, spanF, if_neg hs, spanF_ge p (s.length - 1) (s.drop (dec s).2).length _ (by rw [List.length_drop]; omega) (Nat.le_refl _)]
theorem spanL_le (p : Int → Bool) : ∀ s : List UInt8, spanL p s ≤ s.length := by
  apply runes_ind
  · exact Nat.le_refl _
  · intro s hs ih
    have hw := dec_w s hs
    rw [spanL_cons p hs]
    rw [List.length_drop] at ih
    split <;> omega
theorem spanL_low (p : Int → Bool) (b : UInt8) (hb : b.toNat < 128) (hp : p (b.toNat : Int) = false) (x : List UInt8) : spanL p (b :: x) = 0 := by
  rw [spanL_cons p (by simp), dec_ascii b hb, if_neg (by rw [hp]; decide)]
/-- A run ends ahead of a byte that isn't of it. -/
theorem spanL_stop (p : Int → Bool) (b : UInt8) (hb : b.toNat < 128) (hp : p (b.toNat : Int) = false) (x y : List UInt8) : ∀ s : List UInt8, spanL p (s ++ b :: x) = spanL p (s ++ b :: y) ∧ spanL p (s ++ b :: x) ≤ s.length := by
  have key : ∀ (n : Nat) (s : List UInt8), s.length ≤ n → spanL p (s ++ b :: x) = spanL p (s ++ b :: y) ∧ spanL p (s ++ b :: x) ≤ s.length := by
    intro n
    induction n with
    | zero =>
      intro s h
      have : s = [] := List.eq_nil_of_length_eq_zero (by omega)
      subst this
      rw [List.nil_append, List.nil_append, spanL_low p b hb hp, spanL_low p b hb hp]
      exact ⟨rfl, Nat.le_refl _⟩
    | succ n ih =>
      intro s h
      by_cases hs : s = []
      · subst hs
        rw [List.nil_append, List.nil_append, spanL_low p b hb hp, spanL_low p b hb hp]
        exact ⟨rfl, Nat.le_refl _⟩
      · have hne : ∀ z, s ++ b :: z ≠ [] := fun z => by simp
        have hd := dec_low hs b hb x y
        have hw := dec_w _ (hne x)
        rw [spanL_cons p (hne x), spanL_cons p (hne y), ← hd]
        by_cases hq : p ((dec (s ++ b :: x)).1 : Int) = true
        · rw [if_pos hq, if_pos hq]
          have hle : (dec (s ++ b :: x)).2 ≤ s.length := by
            -- the bytes of a rune that is of the run lie ahead of b
            refine Nat.le_of_not_lt fun hlt => ?_
            have hz : dec (s ++ b :: x) = dec (s ++ b :: []) := dec_low hs b hb x []
            have hw2 := dec_w _ (hne [])
            rw [← hz, List.length_append, List.length_singleton] at hw2
            have heq : (dec (s ++ b :: x)).2 = s.length + 1 := by omega
            -- a rune of more than one byte ends in a byte from 128 on
            have hlast : ∀ t : List UInt8, t ≠ [] → 1 < (dec t).2 → cont (t.getD ((dec t).2 - 1) 0).toNat := fun t ht h1 => by
              unfold dec at h1 ⊢
              unfold decN at h1 ⊢
              split at h1
              · simp at h1
              rename_i g0
              rw [if_neg g0]
              split at h1
              · rename_i g1; rw [if_pos g1]; exact g1.2.2.2
              rename_i g1
              rw [if_neg g1]
              split at h1
              · rename_i g2; rw [if_pos g2]; exact g2.2.2.2.2.1
              rename_i g2
              rw [if_neg g2]
              split at h1
              · rename_i g3; rw [if_pos g3]; exact g3.2.2.2.2.2.1
              · simp at h1
            have hlen : 0 < s.length := List.length_pos_iff.mpr hs
            have hc := hlast _ (hne x) (by omega)
            rw [heq, Nat.add_sub_cancel, List.getD_eq_getElem?_getD, List.getElem?_append_right (Nat.le_refl _)] at hc
            simp at hc
            unfold cont at hc; omega
          have hdx : ∀ z, (s ++ b :: z).drop (dec (s ++ b :: x)).2 = s.drop (dec (s ++ b :: x)).2 ++ b :: z := fun z => List.drop_append_of_le_length hle
          obtain ⟨i1, i2⟩ := ih (s.drop (dec (s ++ b :: x)).2) (by rw [List.length_drop]; omega)
          rw [hdx, hdx, i1]
          rw [i1, List.length_drop] at i2
          exact ⟨rfl, by omega⟩
        · rw [if_neg hq, if_neg hq]; exact ⟨rfl, Nat.zero_le _⟩
  exact fun s => key s.length s (Nat.le_refl _)
def blankB (c : UInt8) : Bool := c == 32 || c == 9 || c == 10 || c == 13
def skipR : Bool → List UInt8 → List UInt8
  | _, [] => []
  | true, c :: r => if c = 10 then skipR false r else skipR true r
  | false, c :: r => if c = 35 then skipR true r else if blankB c = true then skipR false r else c :: r
theorem skipR_len : ∀ (b : Bool) (s : List UInt8), (skipR b s).length ≤ s.length
  | b, [] => by cases b <;> exact Nat.le_refl _
  | true, c :: r => by
    rw [skipR]
    have h1 := skipR_len false r; have h2 := skipR_len true r
    rw [List.length_cons]
    split <;> omega
  | false, c :: r => by
    rw [skipR]
    have h1 := skipR_len false r; have h2 := skipR_len true r
    rw [List.length_cons]
    split
    · omega
    · split
      · omega
      · rw [List.length_cons]; omega
abbrev TokD := Int × List UInt8 × Int × Int × BitVec 128
def digR (c : Int) : Bool := decide (48 ≤ c ∧ c ≤ 57)
def markR (c : Int) : Bool := decide (c = 123 ∨ c = 125 ∨ c = 40 ∨ c = 41 ∨ c = 91 ∨ c = 93 ∨ c = 59 ∨ c = 58 ∨ c = 44 ∨ c = 61 ∨ c = 47 ∨ c = 38)
def numR (c : Int) : Bool := letR c || digR c || decide (c = 39)
def tok0 : TokD := (0, [], 0, 0, 0#128)
section
variable (numS : List UInt8 → TokD × Int)
/-- the token at the beginning: what it is, what is wrong, and how many bytes it has -/
def tokL (s : List UInt8) : TokD × Int × Nat :=
  if markR ((dec s).1 : Int) = true then ((0, s.take 1, 0, 0, 0#128), 0, 1)
  else if letR ((dec s).1 : Int) = true then
    if mayL (runesL (s.take (spanL inR s))) = true then ((1, s.take (spanL inR s), 0, 0, 0#128), 0, spanL inR s) else (tok0, 2, 0)
  else if digR ((dec s).1 : Int) = true then
    if (numS (s.take (spanL numR s))).2 = 0 then ((numS (s.take (spanL numR s))).1, 0, spanL numR s) else (tok0, (numS (s.take (spanL numR s))).2, 0)
  else (tok0, 4, 0)
/-- the tokens, with their places; or where, and what is wrong -/
def scanF (n : Nat) : Nat → List UInt8 → List (TokD × Int) × Int × Int
  | 0, _ => ([], 0, 99)
  | f + 1, s => if s = [] then ([], 0, 0)
    else if (tokL numS s).2.1 ≠ 0 then ([], (n : Int) - (s.length : Int), (tokL numS s).2.1)
    else if (scanF n f (skipR false (s.drop (tokL numS s).2.2))).2.2 ≠ 0 then ([], (scanF n f (skipR false (s.drop (tokL numS s).2.2))).2.1, (scanF n f (skipR false (s.drop (tokL numS s).2.2))).2.2)
    else (((tokL numS s).1, (n : Int) - (s.length : Int)) :: (scanF n f (skipR false (s.drop (tokL numS s).2.2))).1, 0, 0)
def scanL (s : List UInt8) : List (TokD × Int) × Int × Int := if s.length > 16384 then ([], 0, 2) else scanF numS s.length (s.length + 1) (skipR false s)
variable {numS}
theorem tokL_w {s : List UInt8} (hs : s ≠ []) (h : (tokL numS s).2.1 = 0) : 1 ≤ (tokL numS s).2.2 ∧ (tokL numS s).2.2 ≤ s.length := by
  have hw := dec_w s hs
  have sp : ∀ p : Int → Bool, p ((dec s).1 : Int) = true → 1 ≤ spanL p s ∧ spanL p s ≤ s.length := fun p hp => by
    have := spanL_le p s
    rw [spanL_cons p hs, if_pos hp] at this ⊢
    omega
  unfold tokL at h ⊢
  split at h
  · rename_i g1; rw [if_pos g1]; exact ⟨Nat.le_refl _, by show 1 ≤ s.length; omega⟩
  rename_i g1; rw [if_neg g1]
  split at h
  · rename_i g2; rw [if_pos g2]
    split at h
    · rename_i g3; rw [if_pos g3]; exact sp inR (by unfold inR; rw [g2]; rfl)
    · cases h
  rename_i g2; rw [if_neg g2]
  split at h
  · rename_i g3; rw [if_pos g3]
    split at h
    · rename_i g4; rw [if_pos g4]; exact sp numR (by unfold numR; rw [g3]; cases letR ((dec s).1 : Int) <;> rfl)
    · rename_i g4; exact absurd h g4
  · cases h
theorem scanF_ge (n : Nat) : ∀ (f g : Nat) (s : List UInt8), s.length < f → s.length < g → scanF numS n f s = scanF numS n g s
  | 0, _, _, h, _ => by omega
  | _ + 1, 0, _, _, h => by omega
  | f + 1, g + 1, s, h1, h2 => by
    rw [scanF, scanF]
    by_cases hs : s = []
    · rw [if_pos hs, if_pos hs]
    rw [if_neg hs, if_neg hs]
    by_cases ht : (tokL numS s).2.1 ≠ 0
    · rw [if_pos ht, if_pos ht]
    · have hw := tokL_w hs (by simpa using ht)
      have hl := skipR_len false (s.drop (tokL numS s).2.2)
      rw [List.length_drop] at hl
      rw [if_neg ht, if_neg ht, scanF_ge n f g _ (by omega) (by omega)]
variable {txt : TokD → List UInt8}
/-- What numbers and rows of bits must be for it. -/
structure NumOk (numS : List UInt8 → TokD × Int) (txt : TokD → List UInt8) : Prop where
  low : ∀ d : TokD, d.1 = 0 ∨ d.1 = 1 → txt d = d.2.1
  num : ∀ x, (numS x).2 = 0 → ∃ (b : UInt8) (r : List UInt8), txt (numS x).1 = b :: r ∧ digR (b.toNat : Int) = true ∧ (∀ c ∈ b :: r, c.toNat < 128 ∧ numR (c.toNat : Int) = true) ∧ numS (b :: r) = ((numS x).1, 0)
theorem u8_of_nat {c : UInt8} {n : Nat} (h : c.toNat = n) (hn : n < 256) : c = UInt8.ofNat n := UInt8.toNat_inj.mp (by rw [h, UInt8.toNat_ofNat']; omega)
/-- A byte below 128 that begins a text is its first rune; if the first rune is below 128, it is the first byte. -/
theorem dec_byte {c : UInt8} {r : List UInt8} (h : (dec (c :: r)).1 < 128) : c.toNat < 128 := by
  refine Nat.lt_of_not_le fun hc => ?_
  unfold dec decN at h
  rw [List.getD_cons_zero, if_neg (by omega)] at h
  split at h
  · rename_i g; have : 64 * (c.toNat - 192) + ((List.getD (c :: r) 1 0).toNat - 128) < 128 := h; unfold cont at g; omega
  split at h
  · rename_i g; have : 4096 * (c.toNat - 224) + 64 * ((List.getD (c :: r) 1 0).toNat - 128) + ((List.getD (c :: r) 2 0).toNat - 128) < 128 := h; omega
  split at h
  · rename_i g; have : 262144 * (c.toNat - 240) + 4096 * ((List.getD (c :: r) 1 0).toNat - 128) + 64 * ((List.getD (c :: r) 2 0).toNat - 128) + ((List.getD (c :: r) 3 0).toNat - 128) < 128 := h; omega
  · exact absurd h (by decide)
theorem scanF_n (n n' : Nat) : ∀ (f : Nat) (s : List UInt8), (scanF numS n f s).2.2 = (scanF numS n' f s).2.2 ∧ (scanF numS n f s).1.map (·.1) = (scanF numS n' f s).1.map (·.1)
  | 0, _ => ⟨rfl, rfl⟩
  | f + 1, s => by
    rw [scanF, scanF]
    by_cases hs : s = []
    · rw [if_pos hs, if_pos hs]; exact ⟨rfl, rfl⟩
    rw [if_neg hs, if_neg hs]
    by_cases ht : (tokL numS s).2.1 ≠ 0
    · rw [if_pos ht, if_pos ht]; exact ⟨rfl, rfl⟩
    obtain ⟨h1, h2⟩ := scanF_n n n' f (skipR false (s.drop (tokL numS s).2.2))
    rw [if_neg ht, if_neg ht]
    by_cases hq : (scanF numS n f (skipR false (s.drop (tokL numS s).2.2))).2.2 ≠ 0
    · rw [if_pos hq, if_pos (by rw [← h1]; exact hq)]; exact ⟨h1, rfl⟩
    · rw [if_neg hq, if_neg (by rw [← h1]; exact hq)]
      exact ⟨rfl, by rw [List.map_cons, List.map_cons, h2]⟩
theorem skip_nl : ∀ (b : Bool) (s : List UInt8), (∃ s', s' ≠ [] ∧ s'.length ≤ s.length ∧ ∀ y, skipR b (s ++ 10 :: y) = s' ++ 10 :: y) ∨ ∀ y, skipR b (s ++ 10 :: y) = skipR false y
  | true, [] => .inr fun y => by rw [List.nil_append, skipR, if_pos rfl]
  | false, [] => .inr fun y => by rw [List.nil_append, skipR, if_neg (by decide), if_pos (by decide)]
  | true, c :: s => by
    have e : ∀ y, skipR true (c :: s ++ 10 :: y) = if c = 10 then skipR false (s ++ 10 :: y) else skipR true (s ++ 10 :: y) := fun y => by rw [List.cons_append, skipR]
    by_cases hc : c = 10
    · simp only [e, if_pos hc]
      rcases skip_nl false s with ⟨s', h1, h2, h3⟩ | h
      · exact .inl ⟨s', h1, by rw [List.length_cons]; omega, h3⟩
      · exact .inr h
    · simp only [e, if_neg hc]
      rcases skip_nl true s with ⟨s', h1, h2, h3⟩ | h
      · exact .inl ⟨s', h1, by rw [List.length_cons]; omega, h3⟩
      · exact .inr h
  | false, c :: s => by
    have e : ∀ y, skipR false (c :: s ++ 10 :: y) = if c = 35 then skipR true (s ++ 10 :: y) else if blankB c = true then skipR false (s ++ 10 :: y) else c :: (s ++ 10 :: y) := fun y => by rw [List.cons_append, skipR]
    by_cases hc : c = 35
    · simp only [e, if_pos hc]
      rcases skip_nl true s with ⟨s', h1, h2, h3⟩ | h
      · exact .inl ⟨s', h1, by rw [List.length_cons]; omega, h3⟩
      · exact .inr h
    · by_cases hb : blankB c = true
      · simp only [e, if_neg hc, if_pos hb]
        rcases skip_nl false s with ⟨s', h1, h2, h3⟩ | h
        · exact .inl ⟨s', h1, by rw [List.length_cons]; omega, h3⟩
        · exact .inr h
      · simp only [e, if_neg hc, if_neg hb]
        exact .inl ⟨c :: s, by simp, Nat.le_refl _, fun y => rfl⟩
theorem tok_nl {s : List UInt8} (hs : s ≠ []) (x y : List UInt8) : tokL numS (s ++ 10 :: x) = tokL numS (s ++ 10 :: y) ∧ ((tokL numS (s ++ 10 :: x)).2.1 = 0 → (tokL numS (s ++ 10 :: x)).2.2 ≤ s.length) := by
  have hd := dec_low hs 10 (by decide) x y
  have h1 := spanL_stop inR 10 (by decide) (by decide) x y s
  have h2 := spanL_stop numR 10 (by decide) (by decide) x y s
  have hlen : 0 < s.length := List.length_pos_iff.mpr hs
  have tk : ∀ (k : Nat) (z : List UInt8), k ≤ s.length → (s ++ 10 :: z).take k = s.take k := fun k z hk => List.take_append_of_le_length hk
  have hone : ∀ z : List UInt8, (s ++ 10 :: z).take 1 = s.take 1 := fun z => tk 1 z hlen
  constructor
  · unfold tokL
    rw [hd, ← h1.1, ← h2.1, hone, hone, tk _ x h1.2, tk _ y h1.2, tk _ x h2.2, tk _ y h2.2]
  · unfold tokL
    intro h
    split
    · exact hlen
    split
    · split
      · exact h1.2
      · exact Nat.zero_le _
    split
    · split
      · exact h2.2
      · exact Nat.zero_le _
    · exact Nat.zero_le _
theorem scan_nl (n : Nat) (y : List UInt8) : ∀ (k : Nat) (b : Bool) (s : List UInt8) (f g h : Nat), s.length ≤ k → s.length + 1 < f → s.length + 1 + y.length < g → y.length < h → (scanF numS n f (skipR b (s ++ [10]))).2.2 = 0 →
    (scanF numS (n + y.length) g (skipR b (s ++ 10 :: y))).2 = (scanF numS (n + y.length) h (skipR false y)).2 ∧
    ((scanF numS (n + y.length) h (skipR false y)).2.2 = 0 → (scanF numS (n + y.length) g (skipR b (s ++ 10 :: y))).1 = (scanF numS n f (skipR b (s ++ [10]))).1 ++ (scanF numS (n + y.length) h (skipR false y)).1) := by
  intro k
  induction k with
  | zero =>
    intro b s f g h hk hf hg hh he
    have hs : s = [] := List.eq_nil_of_length_eq_zero (by omega)
    subst hs
    have e : ∀ z, skipR b ([] ++ 10 :: z) = skipR false z := fun z => by
      cases b
      · rw [List.nil_append, skipR, if_neg (by decide), if_pos (by decide)]
      · rw [List.nil_append, skipR, if_pos rfl]
    obtain ⟨f, rfl⟩ : ∃ j, f = j + 1 := ⟨f - 1, by omega⟩
    have e0 : scanF numS n (f + 1) (skipR b ([] ++ [10])) = ([], 0, 0) := by rw [e, skipR, scanF, if_pos rfl]
    have hl := skipR_len false y
    rw [e0, e, scanF_ge _ g h _ (by omega) (by omega)]
    exact ⟨rfl, fun _ => rfl⟩
  | succ k ih =>
    intro b s f g h hk hf hg hh he
    have hl := skipR_len false y
    rcases skip_nl b s with ⟨s', h1, h2, h3⟩ | h3
    · rw [h3] at he ⊢
      rw [h3]
      obtain ⟨f, rfl⟩ : ∃ j, f = j + 1 := ⟨f - 1, by omega⟩
      obtain ⟨g, rfl⟩ : ∃ j, g = j + 1 := ⟨g - 1, by omega⟩
      have hne : ∀ z : List UInt8, s' ++ 10 :: z ≠ [] := fun z => by simp
      obtain ⟨t1, t2⟩ := tok_nl (numS := numS) h1 y []
      rw [scanF, if_neg (hne _)] at he
      by_cases ht : (tokL numS (s' ++ [10])).2.1 ≠ 0
      · rw [if_pos ht] at he; exact absurd he ht
      rw [if_neg ht] at he
      have ht0 : (tokL numS (s' ++ [10])).2.1 = 0 := by simpa using ht
      have hw := tokL_w (hne []) ht0
      have hwl : (tokL numS (s' ++ [10])).2.2 ≤ s'.length := by rw [← t1]; exact t2 (by rw [t1]; exact ht0)
      have hdz : ∀ z, (s' ++ 10 :: z).drop (tokL numS (s' ++ [10])).2.2 = s'.drop (tokL numS (s' ++ [10])).2.2 ++ 10 :: z := fun z => List.drop_append_of_le_length hwl
      by_cases hq : (scanF numS n f (skipR false ((s' ++ [10]).drop (tokL numS (s' ++ [10])).2.2))).2.2 ≠ 0
      · rw [if_pos hq] at he; exact absurd he hq
      have hq0 : (scanF numS n f (skipR false ((s' ++ [10]).drop (tokL numS (s' ++ [10])).2.2))).2.2 = 0 := by simpa using hq
      rw [hdz] at hq0
      obtain ⟨i1, i2⟩ := ih false (s'.drop (tokL numS (s' ++ [10])).2.2) f g h (by rw [List.length_drop]; omega) (by rw [List.length_drop]; omega) (by rw [List.length_drop]; omega) hh hq0
      have hat : ((n + y.length : Nat) : Int) - ((s' ++ 10 :: y).length : Int) = (n : Int) - ((s' ++ [10]).length : Int) := by
        rw [List.length_append, List.length_append, List.length_cons, List.length_singleton]; omega
      have lhs : scanF numS (n + y.length) (g + 1) (s' ++ 10 :: y) = if (scanF numS (n + y.length) g (skipR false (s'.drop (tokL numS (s' ++ [10])).2.2 ++ 10 :: y))).2.2 ≠ 0
          then ([], (scanF numS (n + y.length) g (skipR false (s'.drop (tokL numS (s' ++ [10])).2.2 ++ 10 :: y))).2.1, (scanF numS (n + y.length) g (skipR false (s'.drop (tokL numS (s' ++ [10])).2.2 ++ 10 :: y))).2.2)
          else (((tokL numS (s' ++ [10])).1, (n : Int) - ((s' ++ [10]).length : Int)) :: (scanF numS (n + y.length) g (skipR false (s'.drop (tokL numS (s' ++ [10])).2.2 ++ 10 :: y))).1, 0, 0) := by
        rw [scanF, if_neg (hne _), t1, if_neg ht, hdz, hat]
      have rhs : scanF numS n (f + 1) (s' ++ [10]) = (((tokL numS (s' ++ [10])).1, (n : Int) - ((s' ++ [10]).length : Int)) :: (scanF numS n f (skipR false (s'.drop (tokL numS (s' ++ [10])).2.2 ++ [10]))).1, 0, 0) := by
        rw [scanF, if_neg (hne _), if_neg ht, hdz, if_neg (by rw [hq0]; simp)]
      rw [lhs, rhs, i1]
      by_cases hr : (scanF numS (n + y.length) h (skipR false y)).2.2 ≠ 0
      · rw [if_pos hr]
        exact ⟨rfl, fun h0 => absurd h0 hr⟩
      · have hr0 : (scanF numS (n + y.length) h (skipR false y)).2.2 = 0 := by simpa using hr
        rw [if_neg hr, i2 hr0]
        refine ⟨?_, fun _ => rfl⟩
        have : (scanF numS (n + y.length) h (skipR false y)).2.1 = 0 := by
          obtain ⟨h, rfl⟩ : ∃ j, h = j + 1 := ⟨h - 1, by omega⟩
          rw [scanF] at hr0 ⊢
          split
          · rfl
          · rename_i q1
            rw [if_neg q1] at hr0
            split
            · rename_i q2; rw [if_pos q2] at hr0; exact absurd hr0 q2
            · rename_i q2
              rw [if_neg q2] at hr0
              split
              · rename_i q3; rw [if_pos q3] at hr0; exact absurd hr0 q3
              · rfl
        exact Prod.ext this.symm hr0.symm
    · rw [h3, h3 []] at *
      obtain ⟨f, rfl⟩ : ∃ j, f = j + 1 := ⟨f - 1, by omega⟩
      have e0 : scanF numS n (f + 1) (skipR false []) = ([], 0, 0) := by rw [skipR, scanF, if_pos rfl]
      rw [e0, scanF_ge _ g h _ (by omega) (by omega)]
      exact ⟨rfl, fun _ => rfl⟩
theorem skip_rem : ∀ (m : List UInt8) (z : List UInt8), (∀ c ∈ m, c ≠ 10) → skipR true (m ++ 10 :: z) = skipR false z
  | [], z, _ => by rw [List.nil_append, skipR, if_pos rfl]
  | c :: m, z, h => by
    rw [List.cons_append, skipR, if_neg (h c (by simp)), skip_rem m z (fun c hc => h c (by simp [hc]))]
/-- Remarks and blanks between two texts: both's tokens are there. -/
theorem scan_between (a b m : List UInt8) (hm : ∀ c ∈ m, c ≠ 10) (hlen : a.length + b.length + m.length ≤ 16000) (ha : (scanL numS (a ++ [10])).2.2 = 0) (hb : (scanL numS b).2.2 = 0) :
    (scanL numS (a ++ (10 :: 32 :: 9 :: 35 :: (m ++ 10 :: 13 :: b)))).2.2 = 0 ∧
    ∃ l2 : List (TokD × Int), (scanL numS (a ++ (10 :: 32 :: 9 :: 35 :: (m ++ 10 :: 13 :: b)))).1 = (scanL numS (a ++ [10])).1 ++ l2 ∧ l2.map (·.1) = (scanL numS b).1.map (·.1) := by
  have hy : (32 :: 9 :: 35 :: (m ++ 10 :: 13 :: b)).length = 5 + m.length + b.length := by simp; omega
  have hsk : skipR false (32 :: 9 :: 35 :: (m ++ 10 :: 13 :: b)) = skipR false b := by
    rw [skipR, if_neg (by decide), if_pos (by decide), skipR, if_neg (by decide), if_pos (by decide), skipR, if_pos rfl, skip_rem m _ hm, skipR, if_neg (by decide), if_pos (by decide)]
  have hla : (a ++ [10]).length = a.length + 1 := by simp
  have hall : (a ++ (10 :: 32 :: 9 :: 35 :: (m ++ 10 :: 13 :: b))).length = a.length + 1 + (32 :: 9 :: 35 :: (m ++ 10 :: 13 :: b)).length := by simp; omega
  unfold scanL at ha hb ⊢
  rw [if_neg (by omega)] at ha
  rw [if_neg (by omega)] at hb
  rw [if_neg (by omega), if_neg (by omega), if_neg (by omega)]
  rw [hla] at ha ⊢
  rw [hall]
  obtain ⟨r1, r2⟩ := scan_nl (numS := numS) (a.length + 1) (32 :: 9 :: 35 :: (m ++ 10 :: 13 :: b)) a.length false a (a.length + 1 + 1) (a.length + 1 + (32 :: 9 :: 35 :: (m ++ 10 :: 13 :: b)).length + 1) ((32 :: 9 :: 35 :: (m ++ 10 :: 13 :: b)).length + 1) (Nat.le_refl _) (by omega) (by omega) (by omega) ha
  rw [hsk] at r1 r2
  have hlb := skipR_len false b
  obtain ⟨s1, s2⟩ := scanF_n (numS := numS) (a.length + 1 + (32 :: 9 :: 35 :: (m ++ 10 :: 13 :: b)).length) b.length ((32 :: 9 :: 35 :: (m ++ 10 :: 13 :: b)).length + 1) (skipR false b)
  rw [scanF_ge b.length _ (b.length + 1) _ (by omega) (by omega)] at s1 s2
  rw [hb] at s1
  refine ⟨by rw [r1, s1], _, r2 s1, s2⟩
end
end Go.Proofs.Ytmdjifehblijkaa
