/- Package exact: what is dropped, and the reference's lists. Conditions: as in Oc. -/
import Derived.Test.YtnpbpllibmcokaaOc
namespace Go.Proofs.Ytnpbpllibmcokaa
open Go Go.RowKit Go.Eng
section
variable {L most : Nat} {s l : List It}
abbrev HI (L : Nat) (x : It) : Nat := homeN L x.1 x.2.1
theorem empty1_s {N : Nat} (hN : 3 ≤ N) {a g : Nat} (hL : s.length = L) (ha : a < L) (hg : g < L) (h2 : L ≤ 512) (u m : Int) :
    exact_Map_empty_1_v1_m N (a : Int) s u m (g : Int) = some (if occ s[a]! = true then (if roff L g a ≤ roff L (HI L s[a]!) a then (false, s.set g s[a]!, u, m, (a : Int)) else (false, s, u, m, (g : Int))) else (true, s, u, m, (g : Int))) := by
  have h1 : 0 < L := by omega
  unfold exact_Map_empty_1_v1_m
  rw [free_s (by omega), Option.bind_some]
  cases ho : occ s[a]! with
  | false => rw [if_pos (by simp), if_neg (by simp)]
  | true =>
    rw [if_neg (by simp), if_pos rfl, ck_pos _ ⟨by omega, by omega⟩, Int.toNat_natCast, home_s hN hL h1 h2, Option.bind_some, ahead_s hL (homeN_lt h1 _ _) ha h2, Option.bind_some, ahead_s hL hg ha h2, Option.bind_some]
    by_cases hc : roff L g a ≤ roff L (HI L s[a]!) a
    · rw [if_pos hc, if_pos (by show ((roff L g a : Nat) : Int) ≤ ((roff L (HI L s[a]!) a : Nat) : Int); omega), ck_pos _ ⟨by omega, by omega⟩, ck_pos _ ⟨by omega, by omega⟩, Int.toNat_natCast]
    · rw [if_neg hc, if_neg (by show ¬ ((roff L g a : Nat) : Int) ≤ ((roff L (HI L s[a]!) a : Nat) : Int); omega)]
theorem round2_s {N : Nat} (hN : 3 ≤ N) (h2 : L ≤ 512) {f : Nat} {T : List It} (u m : Int) :
    ∀ (fuel : Nat) (s : List It) (g a : Nat), Gap (HI L) L s g a f T → roff L a f < fuel → ∃ (s' : List It) (g' a' : Nat), exact_Map_round_v2_l5 N fuel (a : Int) s u m (g : Int) = some ((a' : Int), s', u, m, (g' : Int)) ∧ Gap (HI L) L s' g' a' f T ∧ occ s'[a']! = false := by
  intro fuel
  induction fuel with
  | zero => intro s g a _ h; omega
  | succ n ih =>
    intro s g a hG hfu
    have h1 : 0 < L := by have := hG.hg; omega
    rw [exact_Map_round_v2_l5, empty1_s hN hG.len hG.ha hG.hg h2, Option.bind_some]
    cases ho : occ s[a]! with
    | false =>
      rw [if_neg (by simp), ck_pos _ rfl, if_pos rfl]
      exact ⟨s, g, a, rfl, hG, ho⟩
    | true =>
      have hne : a ≠ f := by intro e; subst e; rw [hG.free] at ho; cases ho
      have hd : roff L (nxt L a) f < n := by
        have ha := hG.ha; have hf := hG.hf
        clear ih hG ho
        unfold roff nxt at *
        repeat' split at hfu
        all_goals repeat' split
        all_goals omega
      rw [if_pos rfl]
      by_cases hc : roff L g a ≤ roff L (HI L s[a]!) a
      · rw [if_pos hc]
        show ∃ s' g' a', ck ((s.set g s[a]!).length = s.length) (if false = true then _ else _) = _ ∧ _
        rw [ck_pos _ (by simp), if_neg (by simp), next_s (by rw [List.length_set]; exact hG.len) hG.ha h2, Option.bind_some]
        exact ih _ _ _ (hG.move (fun x => homeN_lt h1 _ _) ho hc) hd
      · rw [if_neg hc]
        show ∃ s' g' a', ck (s.length = s.length) (if false = true then _ else _) = _ ∧ _
        rw [ck_pos _ rfl, if_neg (by simp), next_s hG.len hG.ha h2, Option.bind_some]
        exact ih _ _ _ (hG.stay ho (by omega)) hd
theorem drop_s {N : Nat} (hN : 600 ≤ N) (hm : most ≤ 256) (h : Holds most s l) (k0 : Int) (k1 : BitVec 128) :
    ∃ s', exact_Map_Drop_v1_m N s (l.length : Int) (most : Int) k0 k1 = some ((dropL l k0 k1).1, s', (((dropL l k0 k1).2.length : Nat) : Int), (most : Int)) ∧ Holds most s' (dropL l k0 k1).2 := by
  unfold exact_Map_Drop_v1_m dropL
  have hle := h.le
  rcases there_s hN hm h (l.length : Int) (most : Int) k0 k1 with ⟨hk, ht⟩ | ⟨hk, hf, ht⟩ | ⟨q, i, hk, hf, hq, ho, hkq, hi, hli, ht⟩
  · rw [ht, Option.bind_some, hk]; exact ⟨s, by simp, h⟩
  · rw [ht, Option.bind_some, hk, hf]; exact ⟨s, by simp, h⟩
  · have h1 : 0 < 2 * most := by omega
    obtain ⟨f, hfl, hfr⟩ := h.free
    have hG := Gap.start (H := HI (2 * most)) h.len hq hfl ho hfr h.chain
    obtain ⟨s', g', a', hr, hG', ho'⟩ := round2_s (N := N) (by omega) (by omega) (l.length : Int) (most : Int) N s q _ hG (by have := roff_lt hG.ha hG.hf; omega)
    have hlen := h.len
    have hlen' := hG'.len
    have hgl := hG'.hg
    rw [ht, Option.bind_some, if_neg (by simp)]
    unfold exact_Map_empty_v1_m exact_Map_round_v2_m
    rw [next_s hlen hq (by omega), Option.bind_some, hr, Option.bind_some]
    show ∃ s'', (ck (s'.length = s.length) (ck (0 ≤ (g' : Int) ∧ (g' : Int) < (s'.length : Int)) (some (s'.set ((g' : Int)).toNat (0, (0#64) ++ (0#64), 0), (l.length : Int), (most : Int))))).bind _ = _ ∧ _
    rw [ck_pos _ (by omega), ck_pos _ ⟨by omega, by omega⟩, Option.bind_some, Int.toNat_natCast, ck_pos _ (by rw [List.length_set]; omega), ck_pos _ ⟨by show _ ≤ (l.length : Int) - 1; omega, by show (l.length : Int) - 1 ≤ _; omega⟩, hk, hf]
    refine ⟨s'.set g' it0, ?_, h.drop hq ho hi hli (by rw [List.length_set]; exact hlen') hG'.perm (hG'.ends (fun x => homeN_lt h1 _ _) ho')⟩
    have : ((l.length : Int) - 1) = ((l.take i ++ l.drop (i + 1)).length : Int) := by
      rw [List.length_append, List.length_take, List.length_drop]; omega
    rw [this]
    rfl
/-- A new map. -/
theorem new_s (N : Nat) (most : Int) : exact_New_m N most = some (if most < 1 ∨ most > 256 then .nil else .t53 (List.replicate (2 * most).toNat it0) 0 most) := by
  unfold exact_New_m exact_New_k1
  by_cases h1 : most < 1
  · rw [if_pos h1, if_pos rfl, if_pos (.inl h1)]
  · rw [if_neg h1]
    by_cases h2 : most > 256
    · rw [if_pos (by simpa using h2), if_pos (.inr h2)]
    · rw [if_neg (by simpa using h2), if_neg (by omega), ck_pos _ ⟨by omega, by omega⟩, ck_pos _ ⟨by omega, by omega⟩]; rfl
theorem holds_nil {most : Nat} (h : 1 ≤ most) : Holds most (List.replicate (2 * most) it0) [] := Ok.nil (by omega)
def fiI (l : List It) (k0 : Int) (k1 : BitVec 128) : Int := match fi l k0 k1 with | some i => (i : Int) | none => -1
theorem rfind_l (k0 : Int) (k1 : BitVec 128) (hl : l.length ≤ 1000) : ∀ (fuel i : Nat), i ≤ l.length → l.length - i < fuel → (∀ j, j < i → kb k0 k1 l[j]! = false) → shunterref19_Find_l2 l k0 k1 fuel (i : Int) = some (fiI l k0 k1) := by
  intro fuel
  induction fuel with
  | zero => intro i _ h; omega
  | succ n ih =>
    intro i hi hfu hb
    rw [shunterref19_Find_l2]
    by_cases hc : i < l.length
    · rw [if_pos (by omega), ck_pos _ ⟨by omega, by omega⟩, Int.toNat_natCast]
      show (if kb k0 k1 l[i]! = true then _ else _) = _
      cases hk : kb k0 k1 l[i]! with
      | true =>
        have : fi l k0 k1 = some i := by
          refine List.findIdx?_eq_some_iff_getElem.2 ⟨hc, by rw [← get_lt hc]; exact hk, fun j hj => ?_⟩
          have := hb j hj
          rw [get_lt (by omega)] at this
          rw [this]; simp
        rw [if_pos rfl, fiI, this]
      | false =>
        rw [if_neg (by simp), ck_pos _ ⟨by omega, by omega⟩]
        refine ih (i + 1) (by omega) (by omega) (fun j hj => ?_)
        by_cases e : j = i
        · subst e; exact hk
        · exact hb j (by omega)
    · rw [if_neg (by omega)]
      have : fi l k0 k1 = none := by
        refine List.findIdx?_eq_none_iff.2 fun x hx => ?_
        obtain ⟨j, hj, rfl⟩ := List.getElem_of_mem hx
        have := hb j (by omega)
        rwa [get_lt hj] at this
      rw [fiI, this]
theorem rfind_s {N : Nat} (hN : 600 ≤ N) (k0 : Int) (k1 : BitVec 128) (hl : l.length ≤ 256) : shunterref19_Find_m N l k0 k1 = some (fiI l k0 k1) := by
  unfold shunterref19_Find_m
  exact rfind_l k0 k1 (by omega) N 0 (by omega) (by omega) (fun j hj => by omega)
def newOr (p : Int × List It) : SumRow41 := if p.1 = 0 then .t0 p.2 else .nil
theorem rput_s {N : Nat} (hN : 600 ≤ N) (most k0 : Int) (k1 : BitVec 128) (n : Int) (hl : l.length ≤ 256) : shunterref19_Put_m N l most k0 k1 n = some (newOr (putL most l k0 k1 n), (putL most l k0 k1 n).1) := by
  unfold shunterref19_Put_m putL
  rw [rmay19_s, Option.bind_some]
  cases hk : mayI k0 k1 with
  | false => simp [newOr]
  | true =>
    rw [if_pos rfl, if_pos rfl, rfind_s hN k0 k1 hl, Option.bind_some]
    unfold fiI
    cases hf : fi l k0 k1 with
    | some i => simp only []; rw [if_pos (by omega)]; rfl
    | none =>
      simp only []
      rw [if_neg (by omega)]
      by_cases hc : most ≤ (l.length : Int)
      · rw [if_pos hc, if_pos hc]; rfl
      · rw [if_neg hc, if_neg hc, ck_pos _ (by simp; omega), ck_pos _ (by simp; omega)]; rfl
theorem rset_s {N : Nat} (hN : 600 ≤ N) (k0 : Int) (k1 : BitVec 128) (n : Int) (hl : l.length ≤ 256) : shunterref19_Set_m N l k0 k1 n = some (newOr (setL l k0 k1 n), (setL l k0 k1 n).1) := by
  unfold shunterref19_Set_m setL
  rw [rmay19_s, Option.bind_some]
  cases hk : mayI k0 k1 with
  | false => simp [newOr]
  | true =>
    rw [if_pos rfl, if_pos rfl, rfind_s hN k0 k1 hl, Option.bind_some]
    unfold fiI
    cases hf : fi l k0 k1 with
    | none => rfl
    | some i =>
      obtain ⟨hi, hki⟩ := fi_some hf
      simp only [keyI, Prod.mk.injEq] at hki
      simp only [List.nil_append]
      rw [if_neg (by omega), ck_pos _ (by simp; omega), ck_pos _ ⟨by omega, by omega⟩, Int.toNat_natCast, hki.1, hki.2]; rfl
theorem rdrop_s {N : Nat} (hN : 600 ≤ N) (k0 : Int) (k1 : BitVec 128) (hl : l.length ≤ 256) : shunterref19_Drop_m N l k0 k1 = some (newOr (dropL l k0 k1), (dropL l k0 k1).1) := by
  unfold shunterref19_Drop_m dropL
  rw [rmay19_s, Option.bind_some]
  cases hk : mayI k0 k1 with
  | false => simp [newOr]
  | true =>
    rw [if_pos rfl, if_pos rfl, rfind_s hN k0 k1 hl, Option.bind_some]
    unfold fiI
    cases hf : fi l k0 k1 with
    | none => rfl
    | some i =>
      obtain ⟨hi, hki⟩ := fi_some hf
      simp only [List.nil_append, Int.toNat_natCast, List.drop_zero, List.take_length]
      have e : ((i : Int) + 1).toNat = i + 1 := by omega
      rw [if_neg (by omega), ck_pos _ ⟨by omega, by omega⟩, ck_pos _ (by simp; omega), ck_pos _ ⟨by omega, by omega⟩, ck_pos _ ⟨by omega, by omega⟩, e, ck_pos _ (by simp; omega)]; rfl
end
end Go.Proofs.Ytnpbpllibmcokaa
