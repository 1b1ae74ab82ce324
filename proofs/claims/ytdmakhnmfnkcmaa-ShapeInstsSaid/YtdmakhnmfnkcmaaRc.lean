/- The runes of texts, as a row; and back. Conditions: none. -/
import Derived.Test.YtdmakhnmfnkcmaaRa
namespace Go.Proofs.Ytdmakhnmfnkcmaa
open Go Go.RowKit Go.Eng
theorem decN_w (b0 b1 b2 b3 n : Nat) (h : 1 ≤ n) : 1 ≤ (decN b0 b1 b2 b3 n).2 ∧ (decN b0 b1 b2 b3 n).2 ≤ n ∧ (decN b0 b1 b2 b3 n).2 ≤ 4 := by
  unfold decN
  split
  · show 1 ≤ 1 ∧ 1 ≤ n ∧ 1 ≤ 4; omega
  · split
    · show 1 ≤ 2 ∧ 2 ≤ n ∧ 2 ≤ 4; omega
    · split
      · show 1 ≤ 3 ∧ 3 ≤ n ∧ 3 ≤ 4; omega
      · split
        · show 1 ≤ 4 ∧ 4 ≤ n ∧ 4 ≤ 4; omega
        · show 1 ≤ 1 ∧ 1 ≤ n ∧ 1 ≤ 4; omega
/-- may a number be a rune? -/
def okR (n : Int) : Prop := (0 ≤ n ∧ n < 55296) ∨ (57344 ≤ n ∧ n ≤ 1114111)
theorem decN_ok (b0 b1 b2 b3 n : Nat) : okR ((decN b0 b1 b2 b3 n).1 : Int) := by
  unfold decN okR cont
  split
  · left; show (0 : Int) ≤ (b0 : Int) ∧ (b0 : Int) < 55296; omega
  · split
    · rename_i h1; left; show (0 : Int) ≤ ((64 * (b0 - 192) + (b1 - 128) : Nat) : Int) ∧ ((64 * (b0 - 192) + (b1 - 128) : Nat) : Int) < 55296; omega
    · split
      · rename_i h1
        show ((0 : Int) ≤ ((4096 * (b0 - 224) + 64 * (b1 - 128) + (b2 - 128) : Nat) : Int) ∧ ((4096 * (b0 - 224) + 64 * (b1 - 128) + (b2 - 128) : Nat) : Int) < 55296) ∨ (57344 ≤ ((4096 * (b0 - 224) + 64 * (b1 - 128) + (b2 - 128) : Nat) : Int) ∧ ((4096 * (b0 - 224) + 64 * (b1 - 128) + (b2 - 128) : Nat) : Int) ≤ 1114111)
        omega
      · split
        · rename_i h1; right
          show (57344 : Int) ≤ ((262144 * (b0 - 240) + 4096 * (b1 - 128) + 64 * (b2 - 128) + (b3 - 128) : Nat) : Int) ∧ ((262144 * (b0 - 240) + 4096 * (b1 - 128) + 64 * (b2 - 128) + (b3 - 128) : Nat) : Int) ≤ 1114111
          omega
        · right; exact ⟨by decide, by decide⟩
theorem dec_w (s : List UInt8) (h : s ≠ []) : 1 ≤ (dec s).2 ∧ (dec s).2 ≤ s.length ∧ (dec s).2 ≤ 4 := decN_w _ _ _ _ _ (List.length_pos_iff.mpr h)
theorem dec_ok (s : List UInt8) : okR ((dec s).1 : Int) := decN_ok _ _ _ _ _
def runesF : Nat → List UInt8 → List Int
  | 0, _ => []
  | f + 1, s => if s = [] then [] else ((dec s).1 : Int) :: runesF f (s.drop (dec s).2)
theorem runesF_ge : ∀ (f g : Nat) (s : List UInt8), s.length ≤ f → s.length ≤ g → runesF f s = runesF g s
  | 0, 0, _, _, _ => rfl
  | 0, g + 1, s, h, _ => by
    have : s = [] := List.eq_nil_of_length_eq_zero (by omega)
    rw [runesF, runesF, if_pos this]
  | f + 1, 0, s, _, h => by
    have : s = [] := List.eq_nil_of_length_eq_zero (by omega)
    rw [runesF, runesF, if_pos this]
  | f + 1, g + 1, s, h, h' => by
    rw [runesF, runesF]
    by_cases hs : s = []
    · rw [if_pos hs, if_pos hs]
    · have := dec_w s hs
      rw [if_neg hs, if_neg hs, runesF_ge f g _ (by rw [List.length_drop]; omega) (by rw [List.length_drop]; omega)]
/-- The runes of a text. -/
def runesL (s : List UInt8) : List Int := runesF s.length s
theorem runesL_nil : runesL [] = [] := rfl
theorem runesL_cons {s : List UInt8} (h : s ≠ []) : runesL s = ((dec s).1 : Int) :: runesL (s.drop (dec s).2) := by
  have hw := dec_w s h
  unfold runesL
  obtain ⟨k, hk⟩ : ∃ k, s.length = k + 1 := ⟨s.length - 1, by omega⟩
  rw [hk, runesF, if_neg h, runesF_ge k _ _ (by rw [List.length_drop]; omega) (Nat.le_refl _)]
theorem runes_ind {p : List UInt8 → Prop} (h0 : p []) (h1 : ∀ s, s ≠ [] → p (s.drop (dec s).2) → p s) : ∀ s, p s := by
  have : ∀ n s, s.length ≤ n → p s := by
    intro n
    induction n with
    | zero => intro s h; rw [List.eq_nil_of_length_eq_zero (by omega : s.length = 0)]; exact h0
    | succ n ih =>
      intro s h
      by_cases hs : s = []
      · rw [hs]; exact h0
      · have := dec_w s hs
        exact h1 s hs (ih _ (by rw [List.length_drop]; omega))
  exact fun s => this s.length s (Nat.le_refl _)
theorem runesL_len (s : List UInt8) : (runesL s).length ≤ s.length := by
  refine runes_ind (p := fun s => (runesL s).length ≤ s.length) (Nat.le_refl _) (fun s hs ih => ?_) s
  have := dec_w s hs
  rw [runesL_cons hs, List.length_cons]; rw [List.length_drop] at ih; omega
theorem runesL_ok (s : List UInt8) : ∀ n ∈ runesL s, okR n := by
  refine runes_ind (p := fun s => ∀ n ∈ runesL s, okR n) (fun _ h => (nomatch h)) (fun s hs ih => ?_) s
  rw [runesL_cons hs]
  intro n hn
  rcases List.mem_cons.mp hn with rfl | hn
  · exact dec_ok s
  · exact ih n hn
/-! ### going through -/
theorem at_dec {s : List UInt8} {p : Nat} (h : p < s.length) : runeAt s p = (dec (s.drop p)).1 ∧ nextP s p = p + (dec (s.drop p)).2 := by
  unfold runeAt nextP runeW
  rw [if_pos h, decode_dec s p h]; exact ⟨rfl, rfl⟩
theorem drop_ne {s : List UInt8} {p : Nat} (h : p < s.length) : s.drop p ≠ [] := fun e => by
  have := congrArg List.length e
  rw [List.length_drop, List.length_nil] at this; omega
theorem next_lt {s : List UInt8} {p : Nat} (h : p < s.length) : p < nextP s p ∧ nextP s p ≤ s.length := by
  have := dec_w _ (drop_ne h)
  rw [List.length_drop] at this
  rw [(at_dec h).2]; omega
theorem runesL_at {s : List UInt8} {p : Nat} (h : p < s.length) : runesL (s.drop p) = (runeAt s p : Int) :: runesL (s.drop (nextP s p)) := by
  rw [runesL_cons (drop_ne h), (at_dec h).1, (at_dec h).2, List.drop_drop]
theorem runesL_end {s : List UInt8} {p : Nat} (h : ¬ p < s.length) : runesL (s.drop p) = [] := by
  rw [List.drop_of_length_le (by omega)]; rfl
/-! ### there and back -/
theorem valid_ok {n : Int} (h : okR n) : Utf8.valid n = true := by
  unfold okR at h; unfold Utf8.valid
  simp only [Bool.or_eq_true, Bool.and_eq_true, decide_eq_true_eq]; omega
theorem byteOf {n : Nat} (h : n < 256) : (UInt8.ofNat n).toNat = n := by rw [UInt8.toNat_ofNat']; omega
theorem ite_bytes {p : Prop} [Decidable p] (a b : ByteArray) (x y : List UInt8) (ha : a.data.toList = x) (hb : b.data.toList = y) : (if p then a else b).data.toList = if p then x else y := by
  split <;> assumption
theorem encode_c (n : Int) (c : Nat) (h : (if Utf8.valid n then n.toNat else Utf8.runeError) = c) : (Utf8.encode n).data.toList = if c < 128 then [UInt8.ofNat c] else if c < 2048 then [UInt8.ofNat (192 + c / 64), UInt8.ofNat (128 + c % 64)]
    else if c < 65536 then [UInt8.ofNat (224 + c / 4096), UInt8.ofNat (128 + c / 64 % 64), UInt8.ofNat (128 + c % 64)]
    else [UInt8.ofNat (240 + c / 262144), UInt8.ofNat (128 + c / 4096 % 64), UInt8.ofNat (128 + c / 64 % 64), UInt8.ofNat (128 + c % 64)] := by
  subst h
  exact ite_bytes _ _ _ _ rfl (ite_bytes _ _ _ _ rfl (ite_bytes _ _ _ _ rfl rfl))
theorem runeB_def (n : Int) : runeB n = (Utf8.encode n).data.toList := rfl
theorem run_c {c : Nat} (h : okR (c : Int)) : (if Utf8.valid (c : Int) = true then (c : Int).toNat else Utf8.runeError) = c := by
  have h1 := valid_ok h
  exact (if_pos h1).trans (Int.toNat_natCast c)
theorem runeB_of {c : Nat} (h : okR (c : Int)) : runeB (c : Int) = if c < 128 then [UInt8.ofNat c] else if c < 2048 then [UInt8.ofNat (192 + c / 64), UInt8.ofNat (128 + c % 64)]
    else if c < 65536 then [UInt8.ofNat (224 + c / 4096), UInt8.ofNat (128 + c / 64 % 64), UInt8.ofNat (128 + c % 64)]
    else [UInt8.ofNat (240 + c / 262144), UInt8.ofNat (128 + c / 4096 % 64), UInt8.ofNat (128 + c / 64 % 64), UInt8.ofNat (128 + c % 64)] := 
 (runeB_def _).trans (encode_c _ c (run_c h))
theorem dec_rune {c : Nat} (h : okR (c : Int)) (r : List UInt8) : dec (runeB (c : Int) ++ r) = (c, (runeB (c : Int)).length) := by
  rw [runeB_of h]
  unfold okR at h
  split
  · rename_i h1
    unfold dec
    simp only [List.cons_append, List.nil_append, List.getD_cons_zero, byteOf (show c < 256 by omega)]
    unfold decN; rw [if_pos h1]; rfl
  · split
    · rename_i h0 h1
      unfold dec
      simp only [List.cons_append, List.nil_append, List.getD_cons_zero, List.getD_cons_succ, byteOf (show 192 + c / 64 < 256 by omega), byteOf (show 128 + c % 64 < 256 by omega), List.length_cons]
      unfold decN cont
      rw [if_neg (by omega), if_pos (by omega)]
      exact Prod.ext (by show 64 * (192 + c / 64 - 192) + (128 + c % 64 - 128) = c; omega) rfl
    · split
      · rename_i h0 h1 h2
        have e : 4096 * (224 + c / 4096 - 224) + 64 * (128 + c / 64 % 64 - 128) + (128 + c % 64 - 128) = c := by omega
        unfold dec
        simp only [List.cons_append, List.nil_append, List.getD_cons_zero, List.getD_cons_succ, byteOf (show 224 + c / 4096 < 256 by omega), byteOf (show 128 + c / 64 % 64 < 256 by omega), byteOf (show 128 + c % 64 < 256 by omega), List.length_cons]
        unfold decN cont
        rw [if_neg (by omega), if_neg (by omega), e, if_pos (by omega)]; rfl
      · rename_i h0 h1 h2
        have e : 262144 * (240 + c / 262144 - 240) + 4096 * (128 + c / 4096 % 64 - 128) + 64 * (128 + c / 64 % 64 - 128) + (128 + c % 64 - 128) = c := by omega
        unfold dec
        simp only [List.cons_append, List.nil_append, List.getD_cons_zero, List.getD_cons_succ, byteOf (show 240 + c / 262144 < 256 by omega), byteOf (show 128 + c / 4096 % 64 < 256 by omega), byteOf (show 128 + c / 64 % 64 < 256 by omega), byteOf (show 128 + c % 64 < 256 by omega), List.length_cons]
        unfold decN cont
        rw [if_neg (by omega), if_neg (by omega), if_neg (by omega), e, if_pos (by omega)]; rfl
theorem runeB_ne {c : Nat} (h : okR (c : Int)) : runeB (c : Int) ≠ [] := by
  rw [runeB_of h]
  split
  · exact List.cons_ne_nil _ _
  · split
    · exact List.cons_ne_nil _ _
    · split <;> exact List.cons_ne_nil _ _
/-- The runes of what was written of runes are these. -/
theorem runes_rstr : ∀ (l : List Int), (∀ n ∈ l, okR n) → runesL (rstr l) = l
  | [], _ => rfl
  | n :: l, h => by
    have hn := h n (by simp)
    obtain ⟨c, rfl⟩ : ∃ c : Nat, n = (c : Int) := ⟨n.toNat, by unfold okR at hn; omega⟩
    have e := dec_rune hn (rstr l)
    have hne : runeB (c : Int) ++ rstr l ≠ [] := fun h' => runeB_ne hn (List.append_eq_nil_iff.mp h').1
    rw [rstr, runesL_cons hne, e]
    dsimp only
    rw [List.drop_left, runes_rstr l (fun n hn => h n (by simp [hn]))]
end Go.Proofs.Ytdmakhnmfnkcmaa
