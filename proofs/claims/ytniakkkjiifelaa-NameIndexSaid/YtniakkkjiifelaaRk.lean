/- Layer 5: what the program's functions answer: orders and places. Conditions: texts of at most 2000 bytes, fuel above 3000. -/
import Derived.Test.YtniakkkjiifelaaRj
namespace Go.Proofs.Ytniakkkjiifelaa
open Go Go.RowKit Go.Eng
/-! ### the bytes of runes are ordered as the runes -/
theorem bl_lt {x y : Nat} (h : x < y) (hy : y < 256) (a b : List UInt8) : Op.bytesLess (UInt8.ofNat x :: a) (UInt8.ofNat y :: b) = true := by
  rw [Op.bytesLess]
  have : UInt8.ofNat x < UInt8.ofNat y := by rw [UInt8.lt_iff_toNat_lt, byteOf (by omega), byteOf hy]; exact h
  simp [this]
theorem bl_eq (z : UInt8) (a b : List UInt8) : Op.bytesLess (z :: a) (z :: b) = Op.bytesLess a b := by
  rw [Op.bytesLess]
  have : ¬ z < z := by rw [UInt8.lt_iff_toNat_lt]; omega
  simp [this]
theorem bl_app : ∀ (x a b : List UInt8), Op.bytesLess (x ++ a) (x ++ b) = Op.bytesLess a b
  | [], _, _ => rfl
  | z :: x, a, b => by rw [List.cons_append, List.cons_append, bl_eq]; exact bl_app x a b
theorem bl_asym {a b : List UInt8} (h : Op.bytesLess a b = true) : Op.bytesLess b a = false := by
  rcases bl_cases a b with ⟨h1, _⟩ | ⟨_, h2, _⟩ | ⟨h1, _⟩
  · rw [h1] at h; cases h
  · exact h2
  · rw [h1] at h; cases h
theorem rune_lt {c d : Nat} (hc : okR (c : Int)) (hd : okR (d : Int)) (h : c < d) (A B : List UInt8) : Op.bytesLess (runeB (c : Int) ++ A) (runeB (d : Int) ++ B) = true := by
  rw [runeB_of hc, runeB_of hd]
  unfold okR at hc hd
  by_cases c1 : c < 128
  · rw [if_pos c1]
    by_cases d1 : d < 128
    · rw [if_pos d1]; exact bl_lt h (by omega) _ _
    rw [if_neg d1]
    by_cases d2 : d < 2048
    · rw [if_pos d2]; exact bl_lt (by omega) (by omega) _ _
    rw [if_neg d2]
    by_cases d3 : d < 65536
    · rw [if_pos d3]; exact bl_lt (by omega) (by omega) _ _
    · rw [if_neg d3]; exact bl_lt (by omega) (by omega) _ _
  rw [if_neg c1, if_neg (show ¬ d < 128 by omega)]
  by_cases c2 : c < 2048
  · rw [if_pos c2]
    by_cases d2 : d < 2048
    · rw [if_pos d2]
      by_cases e1 : c / 64 < d / 64
      · exact bl_lt (by omega) (by omega) _ _
      · rw [show d / 64 = c / 64 from by omega]
        simp only [List.cons_append]
        rw [bl_eq]; exact bl_lt (by omega) (by omega) _ _
    rw [if_neg d2]
    by_cases d3 : d < 65536
    · rw [if_pos d3]; exact bl_lt (by omega) (by omega) _ _
    · rw [if_neg d3]; exact bl_lt (by omega) (by omega) _ _
  rw [if_neg c2, if_neg (show ¬ d < 2048 by omega)]
  by_cases c3 : c < 65536
  · rw [if_pos c3]
    by_cases d3 : d < 65536
    · rw [if_pos d3]
      by_cases e1 : c / 4096 < d / 4096
      · exact bl_lt (by omega) (by omega) _ _
      · rw [show d / 4096 = c / 4096 from by omega]
        simp only [List.cons_append]
        rw [bl_eq]
        by_cases e2 : c / 64 % 64 < d / 64 % 64
        · exact bl_lt (by omega) (by omega) _ _
        · rw [show d / 64 % 64 = c / 64 % 64 from by omega, bl_eq]
          exact bl_lt (by omega) (by omega) _ _
    · rw [if_neg d3]; exact bl_lt (by omega) (by omega) _ _
  rw [if_neg c3, if_neg (show ¬ d < 65536 by omega)]
  by_cases e1 : c / 262144 < d / 262144
  · exact bl_lt (by omega) (by omega) _ _
  · rw [show d / 262144 = c / 262144 from by omega]
    simp only [List.cons_append]
    rw [bl_eq]
    by_cases e2 : c / 4096 % 64 < d / 4096 % 64
    · exact bl_lt (by omega) (by omega) _ _
    · rw [show d / 4096 % 64 = c / 4096 % 64 from by omega, bl_eq]
      by_cases e3 : c / 64 % 64 < d / 64 % 64
      · exact bl_lt (by omega) (by omega) _ _
      · rw [show d / 64 % 64 = c / 64 % 64 from by omega, bl_eq]
        exact bl_lt (by omega) (by omega) _ _
theorem ok_nat {c : Int} (h : okR c) : ∃ n : Nat, c = (n : Int) := ⟨c.toNat, by unfold okR at h; omega⟩
theorem rstr_ord : ∀ (l m : List Int), (∀ n ∈ l, okR n) → (∀ n ∈ m, okR n) → Op.bytesLess (rstr l) (rstr m) = decide (ordL l m < 0)
  | [], [], _, _ => rfl
  | [], y :: m, _, hm => by
    obtain ⟨n, rfl⟩ := ok_nat (hm y (by simp))
    rw [rstr, rstr]
    obtain ⟨z, r, e⟩ : ∃ z r, runeB (n : Int) = z :: r := List.exists_cons_of_ne_nil (runeB_ne (hm _ (by simp)))
    rw [e]; rfl
  | x :: l, [], hl, _ => by
    rw [rstr, rstr]
    obtain ⟨n, rfl⟩ := ok_nat (hl x (by simp))
    obtain ⟨z, r, e⟩ : ∃ z r, runeB (n : Int) = z :: r := List.exists_cons_of_ne_nil (runeB_ne (hl _ (by simp)))
    rw [e]; rfl
  | x :: l, y :: m, hl, hm => by
    have hx := hl x (by simp)
    have hy := hm y (by simp)
    obtain ⟨a, rfl⟩ := ok_nat hx
    obtain ⟨b, rfl⟩ := ok_nat hy
    rw [rstr, rstr, ordL]
    by_cases h1 : (a : Int) < (b : Int)
    · rw [if_pos h1, rune_lt hx hy (by omega)]; rfl
    · rw [if_neg h1]
      by_cases h2 : (a : Int) > (b : Int)
      · rw [if_pos h2, bl_asym (rune_lt hy hx (by omega) _ _)]; rfl
      · have e : a = b := by omega
        subst e
        rw [if_neg h2, bl_app]
        exact rstr_ord l m (fun n hn => hl n (by simp [hn])) (fun n hn => hm n (by simp [hn]))
theorem less_s (N : Nat) (a b : List UInt8) (ha : a.length ≤ 10000) (hb : b.length ≤ 10000) (hN : a.length < N) (hN' : b.length < N) : name_Less_m N a b = some (lessL a b) := by
  rw [name_Less_m, key_s N a ha hN, Option.bind_some, key_s N b hb hN', Option.bind_some]
  unfold lessL
  have ho : Op.bytesLess (keyB a) (keyB b) = decide (ordL (keysL a) (keysL b) < 0) := rstr_ord _ _ (keys_ok a) (keys_ok b)
  by_cases h : keyB a = keyB b
  · have h0 : ordL (keysL a) (keysL b) = 0 := by rw [key_inj.mp h, ordL_same]
    rw [if_neg (by simpa using h), h0]; rfl
  · rw [if_pos h, ho]
    rcases ordL_cases (keysL a) (keysL b) with ⟨_, h2⟩ | ⟨h1, _⟩ | ⟨h1, _⟩
    · exact absurd (key_inj.mpr h2) h
    · rw [h1]; rfl
    · rw [h1]; rfl
/-! ### places -/
theorem dec_nl (s : List UInt8) : ((dec s).1 = 10 ↔ (s.getD 0 0).toNat = 10) ∧ ((s.getD 0 0).toNat = 10 → (dec s).2 = 1) ∧ ∀ j, 1 ≤ j → j < (dec s).2 → (s.getD j 0).toNat ≠ 10 := by
  unfold dec decN
  generalize (s.getD 0 0).toNat = b0
  have hb : ∀ j, j = 1 ∨ j = 2 ∨ j = 3 → cont (s.getD j 0).toNat → (s.getD j 0).toNat ≠ 10 := fun j _ hc => by unfold cont at hc; omega
  split
  · exact ⟨Iff.rfl, fun _ => rfl, fun j h1 h2 => by simp only at h2; omega⟩
  split
  · rename_i h1 h2
    exact ⟨by simp only; unfold cont at h2; omega, fun h => by omega, fun j h3 h4 => by
      simp only at h4
      obtain rfl : j = 1 := by omega
      exact hb 1 (.inl rfl) h2.2.2.2⟩
  split
  · rename_i h1 h2 h3
    exact ⟨by simp only; omega, fun h => by omega, fun j h4 h5 => by
      simp only at h5
      rcases (by omega : j = 1 ∨ j = 2) with rfl | rfl
      · exact hb 1 (.inl rfl) h3.2.2.2.1
      · exact hb 2 (.inr (.inl rfl)) h3.2.2.2.2.1⟩
  split
  · rename_i h1 h2 h3 h4
    exact ⟨by simp only; omega, fun h => by omega, fun j h5 h6 => by
      simp only at h6
      rcases (by omega : j = 1 ∨ j = 2 ∨ j = 3) with rfl | rfl | rfl
      · exact hb 1 (.inl rfl) h4.2.2.2.1
      · exact hb 2 (.inr (.inl rfl)) h4.2.2.2.2.1
      · exact hb 3 (.inr (.inr rfl)) h4.2.2.2.2.2.1⟩
  · rename_i h1 h2 h3 h4
    exact ⟨by simp only; omega, fun h => rfl, fun j h5 h6 => by simp only at h6; omega⟩
theorem plF_skip (s : List UInt8) (p : Nat) : ∀ w, (∀ j, j < w → byteAt s ((p + j : Nat) : Int) ≠ 10) → plF s (p + w) = plF s p
  | 0, _ => rfl
  | w + 1, h => by
    rw [← Nat.add_assoc, plF, if_neg (h w (by omega))]
    exact plF_skip s p w (fun j hj => h j (by omega))
theorem byte_d (s : List UInt8) (p j : Nat) : byteAt s ((p + j : Nat) : Int) = ((((s.drop p).getD j 0).toNat : Nat) : Int) := by
  unfold byteAt
  rw [Int.toNat_natCast, getD_drop]
theorem place_loop (s t : List UInt8) (a' : Int) (ht : s.take (min (max a' 0) (s.length : Int)).toNat = t) (hs : t.length ≤ 10000) : ∀ (m f p : Nat), t.length ≤ p + m → m < f → p ≤ t.length → (runesL (t.drop p)).length ≤ (runesL (t.drop (plF t p).2)).length →
    name_Place_l4 s a' f ((plF t p).1 : Int) ((((runesL (t.drop (plF t p).2)).length - (runesL (t.drop p)).length + 1 : Nat)) : Int) p = some (((plF t t.length).1 : Int), ((runesL (t.drop (plF t t.length).2)).length : Int) + 1) := by
  intro m
  induction m using Nat.strongRecOn with
  | _ m ih =>
  intro f p hm hf hp hge
  obtain ⟨f, rfl⟩ : ∃ n, f = n + 1 := ⟨f - 1, by omega⟩
  have hpl := plF_le t p
  rw [name_Place_l4, ht]
  by_cases h : p < t.length
  · obtain ⟨n1, n2⟩ := next_lt h
    obtain ⟨a1, a2⟩ := at_dec h
    obtain ⟨q1, q2, q3⟩ := dec_nl (t.drop p)
    have hr := runesL_at h
    have hrl := congrArg List.length hr
    rw [List.length_cons] at hrl
    have hl1 := runesL_len (t.drop (plF t p).2)
    rw [List.length_drop] at hl1
    have hb0 : byteAt t (p : Int) = ((((t.drop p).getD 0 0).toNat : Nat) : Int) := by have := byte_d t p 0; simpa using this
    rw [if_pos h, ck_pos _ h, ck_pos _ (by omega)]
    by_cases hc : ((runeAt t p : Nat) : Int) = 10
    · have hb : ((t.drop p).getD 0 0).toNat = 10 := q1.mp (by rw [a1] at hc; omega)
      have hw : nextP t p = p + 1 := by rw [a2, q2 hb]
      have hf1 : plF t (p + 1) = ((plF t p).1 + 1, p + 1) := by rw [plF, if_pos (by rw [hb0, hb]; rfl)]
      have := ih (m - 1) (by omega) f (p + 1) (by omega) (by omega) (by omega) (by rw [hf1]; exact Nat.le_refl _)
      rw [hf1] at this
      simp only at this
      rw [Nat.sub_self] at this
      rw [if_pos hc, ck_pos _ (by omega), hw, show ((plF t p).1 : Int) + 1 = (((plF t p).1 + 1 : Nat) : Int) from by omega]
      exact this
    · have hb : ((t.drop p).getD 0 0).toNat ≠ 10 := fun e => hc (by rw [a1, q1.mpr e]; rfl)
      have hf1 : plF t (nextP t p) = plF t p := by
        rw [a2]
        refine plF_skip t p _ (fun j hj => ?_)
        rw [byte_d]
        rcases Nat.eq_zero_or_pos j with rfl | hj0
        · omega
        · have := q3 j hj0 hj; omega
      have := ih (m - 1) (by omega) f (nextP t p) (by omega) (by omega) n2 (by rw [hf1]; omega)
      rw [hf1] at this
      rw [if_neg hc]
      have e : (((runesL (t.drop (plF t p).2)).length - (runesL (t.drop p)).length + 1 : Nat) : Int) + 1 = (((runesL (t.drop (plF t p).2)).length - (runesL (t.drop (nextP t p))).length + 1 : Nat) : Int) := by omega
      rw [e]
      exact this
  · have e : p = t.length := by omega
    subst e
    rw [if_neg h, runesL_end h]
    simp
theorem plF_take (s : List UInt8) (a : Nat) : ∀ i, i ≤ a → plF (s.take a) i = plF s i
  | 0, _ => rfl
  | i + 1, h => by
    have e : byteAt (s.take a) (i : Int) = byteAt s (i : Int) := by
      unfold byteAt
      rw [Int.toNat_natCast, List.getD_eq_getElem?_getD, List.getD_eq_getElem?_getD, List.getElem?_take, if_pos (by omega)]
    rw [plF, plF, e, plF_take s a i (by omega)]
theorem place_s (N : Nat) (s : List UInt8) (hs : s.length ≤ 10000) (hN : s.length < N) (a' : Int) : name_Place_m N s a' = some (placeL s a') := by
  have hcl : (min (max a' 0) (s.length : Int)).toNat = clampL s a' := by unfold clampL; omega
  have hle : clampL s a' ≤ s.length := by rw [← hcl]; omega
  have hl : (s.take (clampL s a')).length = clampL s a' := by rw [List.length_take]; omega
  have := place_loop s (s.take (clampL s a')) a' (by rw [hcl]) (by omega) (clampL s a') N 0 (by omega) (by omega) (by omega) (Nat.le_refl _)
  rw [name_Place_m, ck_pos _ (by omega)]
  rw [hl, plF_take s _ _ (Nat.le_refl _)] at this
  have e0 : plF (s.take (clampL s a')) 0 = (1, 0) := rfl
  rw [e0] at this
  simp only [Nat.sub_self] at this
  exact this
theorem names (N : Nat) (hN : 3000 < N) : Names N where
  len := fun s h => len_s N s (by omega) (by omega)
  runes := fun s h => runes_s N s (by omega) (by omega)
  clip := fun s n h h1 h2 => clip_s N s (by omega) (by omega) n ⟨h1, h2⟩
  letter := fun c _ _ => letter_s N c
  digit := fun c _ _ => digit_s N c
  fold := fun c h1 h2 => fold_s N c h1 h2
  may := fun s h => may_s N s (by omega)
  key := fun s h => key_s N s (by omega) (by omega)
  alike := fun a b h h' => alike_s N a b (by omega) (by omega) (by omega) (by omega)
  less := fun a b h h' => less_s N a b (by omega) (by omega) (by omega) (by omega)
  place := fun s a h _ _ => place_s N s (by omega) (by omega) a
  index := fun l s h1 h2 h3 => index_s N l s hN h1 h2 h3
  lives := by
    unfold shunterlaw05_lives_m
    rw [may_s N _ (by simp only [List.length_cons, List.length_nil]; omega), Option.bind_some, if_pos (by decide), len_s N _ (by decide) (by simp only [List.length_cons, List.length_nil]; omega), Option.bind_some, if_pos (by decide), alike_s N _ _ (by decide) (by decide) (by simp only [List.length_cons, List.length_nil]; omega) (by simp only [List.length_cons, List.length_nil]; omega), Option.bind_some]
    congr 1
end Go.Proofs.Ytniakkkjiifelaa
