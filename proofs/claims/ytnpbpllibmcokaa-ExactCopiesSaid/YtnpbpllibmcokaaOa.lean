/- Things in slots that are gone over round by round (open addressing; what is dropped closes the row behind it): pure. Conditions: none. -/
import Derived.Test.YtnpbpllibmcokaaMd
namespace Go.Eng
open Go Go.RowKit
abbrev It := Int × BitVec 128 × Int
abbrev it0 : It := (0, 0, 0)
/-- Is the thing's row this one? -/
def kb (k0 : Int) (k1 : BitVec 128) (x : It) : Bool := x.1 == k0 && x.2.1 == k1
theorem kb_iff {k0 : Int} {k1 : BitVec 128} {x : It} : kb k0 k1 x = true ↔ x.1 = k0 ∧ x.2.1 = k1 := by simp [kb]
/-- Does a thing lie in the slot? -/
def occ (x : It) : Bool := !(kb 0 0 x)
/-- How many slots further on, and round. -/
def roff (L f t : Nat) : Nat := if f ≤ t then t - f else t + L - f
def nxt (L a : Nat) : Nat := if a + 1 = L then 0 else a + 1
theorem roff_lt {L f t : Nat} (hf : f < L) (ht : t < L) : roff L f t < L := by unfold roff; split <;> omega
theorem nxt_lt {L a : Nat} (h : a < L) : nxt L a < L := by unfold nxt; split <;> omega
theorem roff_self {L a : Nat} : roff L a a = 0 := by simp [roff]
theorem roff_inj {L f i j : Nat} (hf : f < L) (hi : i < L) (hj : j < L) (h : roff L f i = roff L f j) : i = j := by
  unfold roff at h; split at h <;> split at h <;> omega
/-- The first one of a kind, from a place on and round. -/
theorem roff_first {L a : Nat} {P : Nat → Prop} : ∀ {d p : Nat}, roff L a p = d → p < L → P p → ∃ q, q < L ∧ P q ∧ ∀ j, j < L → roff L a j < roff L a q → ¬ P j := by
  intro d
  induction d using Nat.strongRecOn with
  | ind d ih =>
    intro p hd hp hP
    by_cases h : ∃ j, j < L ∧ roff L a j < roff L a p ∧ P j
    · obtain ⟨j, h1, h2, h3⟩ := h
      exact ih _ (hd ▸ h2) rfl h1 h3
    · exact ⟨p, hp, hP, fun j h1 h2 h3 => h ⟨j, h1, h2, h3⟩⟩
theorem roff_nxt {L a p f : Nat} (ha : a < L) (hp : p < L) (hf : f < L) (h : roff L a p < roff L a f) : roff L a (nxt L p) = roff L a p + 1 := by
  unfold roff nxt at *; repeat' split at h
  all_goals repeat' split
  all_goals omega
theorem get_set {s : List It} {i j : Nat} {x : It} (h : i < s.length) : (s.set i x)[j]! = if i = j then x else s[j]! := by
  simp only [List.getElem!_eq_getElem?_getD, List.getElem?_set]
  split <;> simp
theorem get_lt {s : List It} {i : Nat} (h : i < s.length) : s[i]! = s[i] := by
  simp [List.getElem?_eq_getElem h]
theorem set_perm {s : List It} {i : Nat} {x : It} (h : i < s.length) : (s[i]! :: s.set i x).Perm (x :: s) := by
  rw [List.set_eq_take_append_cons_drop, if_pos h, get_lt h]
  have h1 : s.Perm (s[i] :: (s.take i ++ s.drop (i + 1))) := by
    conv => lhs; rw [← List.take_append_drop i s, ← List.getElem_cons_drop h]
    exact List.perm_middle
  have h2 : (s.take i ++ x :: s.drop (i + 1)).Perm (x :: (s.take i ++ s.drop (i + 1))) := List.perm_middle
  exact ((List.Perm.cons _ h2).trans (List.Perm.swap _ _ _)).trans (List.Perm.cons _ h1.symm)
section
variable {H : It → Nat} {L : Nat}
/-- From the slot from which on a thing is searched for up to its own none is free. -/
def Chain (H : It → Nat) (L : Nat) (s : List It) : Prop := ∀ i, i < L → occ s[i]! = true → ∀ j, j < L → roff L (H s[i]!) j < roff L (H s[i]!) i → occ s[j]! = true
theorem Chain.put {s : List It} {q : Nat} {x : It} (hL : s.length = L) (hc : Chain H L s) (hq : q < L) (hx : occ x = true) (hr : ∀ j, j < L → roff L (H x) j < roff L (H x) q → occ s[j]! = true) : Chain H L (s.set q x) := by
  intro i hi ho j hj hl
  rw [get_set (by omega)] at *
  by_cases hqj : q = j
  · rw [if_pos hqj]; exact hx
  rw [if_neg hqj]
  by_cases hqi : q = i
  · subst hqi; rw [if_pos rfl] at hl; exact hr j hj hl
  · rw [if_neg hqi] at ho hl; exact hc i hi ho j hj hl
theorem Chain.set {s : List It} {q : Nat} {x : It} (hL : s.length = L) (hc : Chain H L s) (hq : q < L) (ho : occ s[q]! = true) (hx : occ x = true) (hH : H x = H s[q]!) : Chain H L (s.set q x) :=
  hc.put hL hq hx (fun j hj hl => hc q hq ho j hj (hH ▸ hl))
/-- What holds while the row behind a gap is closed. -/
structure Gap (H : It → Nat) (L : Nat) (s : List It) (gap at' f : Nat) (T : List It) : Prop where
  len : s.length = L
  hg : gap < L
  ha : at' < L
  hf : f < L
  free : occ s[f]! = false
  og : occ s[gap]! = true
  chain : Chain H L s
  lo : 1 ≤ roff L gap at'
  up : roff L gap at' ≤ roff L gap f
  reg : ∀ i, i < L → 0 < roff L gap i → roff L gap i < roff L gap at' → occ s[i]! = true ∧ roff L (H s[i]!) i < roff L gap i
  perm : (s.set gap it0).Perm T
theorem Gap.ne {s : List It} {g a f : Nat} {T : List It} (h : Gap H L s g a f T) : g ≠ a := by
  intro e; have := h.lo; rw [e, roff_self] at this; omega
theorem Gap.ends (hH : ∀ x, H x < L) {s : List It} {g a f : Nat} {T : List It} (h : Gap H L s g a f T) (ho : occ s[a]! = false) : Chain H L (s.set g it0) := by
  have hl := h.len
  intro i hi hoi j hj hlt
  have hgi : ¬ g = i := by
    intro e; subst e; rw [get_set (hl ▸ h.hg), if_pos rfl] at hoi; simp [occ, kb] at hoi
  rw [get_set (hl ▸ h.hg), if_neg hgi] at hoi hlt
  have hjo := h.chain i hi hoi j hj hlt
  rw [get_set (hl ▸ h.hg)]
  by_cases hgj : g = j
  · exfalso
    subst hgj
    have hg := h.hg; have ha := h.ha; have hHi := hH s[i]!
    have hai : a ≠ i := by intro e; subst e; rw [ho] at hoi; cases hoi
    have h0 : 0 < roff L g i := by
      rcases Nat.eq_zero_or_pos (roff L g i) with e | e
      · exact absurd (roff_inj hg hg hi (by rw [roff_self, e])) hgi
      · exact e
    by_cases hr : roff L g i < roff L g a
    · have := (h.reg i hi h0 hr).2
      clear hjo ho hoi h
      generalize H s[i]! = b at *
      unfold roff at *
      repeat' split at hlt
      all_goals repeat' split at this
      all_goals omega
    · have hm : roff L (H s[i]!) a < roff L (H s[i]!) i := by
        have hne : roff L g i ≠ roff L g a := fun e => hai (roff_inj hg hi ha e).symm
        clear hjo ho hoi h
        generalize H s[i]! = b at *
        unfold roff at *
        repeat' split at hlt
        all_goals repeat' split at hr
        all_goals repeat' split at hne
        all_goals repeat' split
        all_goals omega
      have := h.chain i hi hoi a ha hm
      rw [ho] at this; cases this
  · rw [if_neg hgj]; exact hjo
theorem Gap.nextG {s : List It} {g a f : Nat} {T : List It} (h : Gap H L s g a f T) (ho : occ s[a]! = true) : roff L g a < roff L g f := by
  have hne : a ≠ f := by intro e; subst e; rw [h.free] at ho; cases ho
  have := h.up
  have h2 : roff L g a ≠ roff L g f := fun e => hne (roff_inj h.hg h.ha h.hf e)
  omega
theorem Gap.stay {s : List It} {g a f : Nat} {T : List It} (h : Gap H L s g a f T) (ho : occ s[a]! = true) (hd : roff L (H s[a]!) a < roff L g a) : Gap H L s g (nxt L a) f T := by
  have hlt := h.nextG ho
  have hn := roff_nxt h.hg h.ha h.hf hlt
  refine ⟨h.len, h.hg, nxt_lt h.ha, h.hf, h.free, h.og, h.chain, by omega, by omega, fun i hi h0 h1 => ?_, h.perm⟩
  by_cases hia : roff L g i = roff L g a
  · have := roff_inj h.hg hi h.ha hia
    subst this; exact ⟨ho, hd⟩
  · exact h.reg i hi h0 (by omega)
theorem Gap.move (hH : ∀ x, H x < L) {s : List It} {g a f : Nat} {T : List It} (h : Gap H L s g a f T) (ho : occ s[a]! = true) (hd : roff L g a ≤ roff L (H s[a]!) a) : Gap H L (s.set g s[a]!) a (nxt L a) f T := by
  have hlt := h.nextG ho
  have hl := h.len
  have hga := h.ne
  have hgl : g < s.length := hl ▸ h.hg
  have hal : a < s.length := hl ▸ h.ha
  have hgf : g ≠ f := by intro e; have := h.og; rw [e, h.free] at this; cases this
  have hgt : ∀ {j}, g ≠ j → (s.set g s[a]!)[j]! = s[j]! := fun e => by rw [get_set hgl, if_neg e]
  have hrf : roff L g f = roff L g a + roff L a f := by
    have h1 := h.up; have := h.hg; have := h.ha; have := h.hf
    clear ho h
    unfold roff at *
    repeat' split at h1
    all_goals repeat' split
    all_goals omega
  have haf : 0 < roff L a f := by omega
  have hn : roff L a (nxt L a) = roff L a a + 1 := roff_nxt h.ha h.ha h.hf (by rw [roff_self]; exact haf)
  rw [roff_self] at hn
  refine ⟨by simp [hl], h.ha, nxt_lt h.ha, h.hf, by rw [hgt hgf]; exact h.free, by rw [hgt hga]; exact ho, ?_, by omega, by omega, fun i hi h0 h1 => by omega, ?_⟩
  · refine h.chain.put hl h.hg ho (fun j hj hj2 => h.chain a h.ha ho j hj ?_)
    have hgL := h.hg; have ha := h.ha; have hb := hH s[a]!
    clear ho h hrf haf hn hlt hgt hgf hgl hal
    generalize H s[a]! = b at *
    unfold roff at *
    repeat' split at hd
    all_goals repeat' split at hj2
    all_goals repeat' split
    all_goals omega
  · refine List.Perm.trans ?_ h.perm
    have h1 := set_perm (x := it0) (s := s.set g s[a]!) (i := a) (by simpa using hal)
    rw [hgt hga] at h1
    have h2 := set_perm (x := s[a]!) hgl
    have h3 := set_perm (x := it0) hgl
    rw [← List.perm_cons s[a]!, ← List.perm_cons s[g]!]
    refine (List.Perm.cons _ h1).trans ((List.Perm.swap _ _ _).trans ((List.Perm.cons _ h2).trans ?_))
    refine (List.Perm.swap _ _ _).trans ((List.Perm.cons _ h3.symm).trans (List.Perm.swap _ _ _))
theorem Gap.start {s : List It} {g f : Nat} (hL : s.length = L) (hg : g < L) (hf : f < L) (ho : occ s[g]! = true) (hfr : occ s[f]! = false) (hc : Chain H L s) : Gap H L s g (nxt L g) f (s.set g it0) := by
  have hne : g ≠ f := by intro e; rw [e, hfr] at ho; cases ho
  have h0 : 0 < roff L g f := by
    rcases Nat.eq_zero_or_pos (roff L g f) with e | e
    · exact absurd (roff_inj hg hg hf (by rw [roff_self, e])) hne
    · exact e
  have hn := roff_nxt hg hg hf (by rw [roff_self]; exact h0)
  rw [roff_self] at hn
  exact ⟨hL, hg, nxt_lt hg, hf, hfr, ho, hc, by omega, by omega, fun i _ h1 h2 => by omega, List.Perm.refl _⟩
end
end Go.Eng
