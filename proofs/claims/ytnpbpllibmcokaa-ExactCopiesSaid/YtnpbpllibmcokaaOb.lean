/- A map in slots, and the list of its things: what is found, put, set and dropped. Pure. Conditions: none. -/
import Derived.Test.YtnpbpllibmcokaaOa
namespace Go.Eng
open Go Go.RowKit
def keyI (x : It) : Int × BitVec 128 := (x.1, x.2.1)
/-- The place of a row. -/
def fi (l : List It) (k0 : Int) (k1 : BitVec 128) : Option Nat := l.findIdx? (kb k0 k1)
theorem kb_key {k0 : Int} {k1 : BitVec 128} {x : It} : kb k0 k1 x = true ↔ keyI x = (k0, k1) := by simp [kb_iff, keyI]
theorem occ_key {x y : It} (h : keyI x = keyI y) : occ x = occ y := by
  simp only [keyI, Prod.mk.injEq] at h
  simp [occ, kb, h.1, h.2]
structure Ok (H : Int → BitVec 128 → Nat) (L most : Nat) (s l : List It) : Prop where
  len : s.length = L
  two : most < L
  le : l.length ≤ most
  perm : (s.filter occ).Perm l
  dis : (l.map keyI).Nodup
  chain : Chain (fun x => H x.1 x.2.1) L s
section
variable {H : Int → BitVec 128 → Nat} {L most : Nat} {s l : List It}
theorem Ok.mem (h : Ok H L most s l) {x : It} : x ∈ l ↔ ∃ i, i < L ∧ occ s[i]! = true ∧ s[i]! = x := by
  rw [← h.perm.mem_iff, List.mem_filter]
  constructor
  · rintro ⟨hx, ho⟩
    obtain ⟨i, hi, rfl⟩ := List.getElem_of_mem hx
    exact ⟨i, h.len ▸ hi, by rw [get_lt hi]; exact ho, get_lt hi⟩
  · rintro ⟨i, hi, ho, rfl⟩
    have hi2 : i < s.length := h.len ▸ hi
    rw [get_lt hi2] at *
    exact ⟨List.getElem_mem hi2, ho⟩
theorem Ok.occl (h : Ok H L most s l) {x : It} (hx : x ∈ l) : occ x = true := by
  obtain ⟨i, _, ho, rfl⟩ := h.mem.1 hx; exact ho
theorem Ok.free (h : Ok H L most s l) : ∃ f, f < L ∧ occ s[f]! = false := by
  apply Classical.byContradiction
  intro hn
  have ha : ∀ x ∈ s, occ x = true := by
    intro x hx
    obtain ⟨i, hi, rfl⟩ := List.getElem_of_mem hx
    cases hc : occ s[i] with
    | true => rfl
    | false => exact absurd ⟨i, h.len ▸ hi, by rw [get_lt hi]; exact hc⟩ hn
  have h1 := List.length_filter_eq_length_iff.2 ha
  have h2 := h.perm.length_eq
  have := h.len; have := h.two; have := h.le
  omega
theorem fi_some {l : List It} {k0 : Int} {k1 : BitVec 128} {i : Nat} (h : fi l k0 k1 = some i) : i < l.length ∧ keyI l[i]! = (k0, k1) := by
  obtain ⟨hi, hk, _⟩ := List.findIdx?_eq_some_iff_getElem.1 h
  exact ⟨hi, by rw [get_lt hi]; exact kb_key.1 hk⟩
theorem fi_none {l : List It} {k0 : Int} {k1 : BitVec 128} : fi l k0 k1 = none ↔ ∀ x ∈ l, keyI x ≠ (k0, k1) := by
  unfold fi
  rw [List.findIdx?_eq_none_iff]
  refine forall_congr' fun x => forall_congr' fun _ => ?_
  rw [ne_eq, ← kb_key]; simp
theorem Ok.at' (h : Ok H L most s l) {k0 : Int} {k1 : BitVec 128} {x : It} (hx : x ∈ l) (hk : keyI x = (k0, k1)) : ∃ i, fi l k0 k1 = some i ∧ i < l.length ∧ l[i]! = x := by
  cases hf : fi l k0 k1 with
  | none => exact absurd hk (fi_none.1 hf x hx)
  | some i =>
    obtain ⟨hi, hki⟩ := fi_some hf
    obtain ⟨j, hj, rfl⟩ := List.getElem_of_mem hx
    refine ⟨i, rfl, hi, ?_⟩
    have hij : i = j := by
      have hd := h.dis
      apply Classical.byContradiction; intro hne
      rw [List.Nodup, List.pairwise_iff_getElem] at hd
      rw [get_lt hi] at hki
      rcases Nat.lt_or_gt_of_ne hne with hl | hl
      · exact hd i j (by simpa using hi) (by simpa using hj) hl (by simp [hki, hk])
      · exact hd j i (by simpa using hj) (by simpa using hi) hl (by simp [hki, hk])
    subst hij; exact get_lt hi
/-- Where a search ends. -/
structure Find (H : Int → BitVec 128 → Nat) (L : Nat) (s l : List It) (k0 : Int) (k1 : BitVec 128) (q : Nat) : Prop where
  lt : q < L
  road : ∀ j, j < L → roff L (H k0 k1) j < roff L (H k0 k1) q → kb k0 k1 s[j]! = false ∧ occ s[j]! = true
  ends : kb k0 k1 s[q]! = true ∨ occ s[q]! = false
  yes : kb k0 k1 s[q]! = true → occ s[q]! = true ∧ ∃ i, fi l k0 k1 = some i ∧ i < l.length ∧ l[i]! = s[q]!
  no : kb k0 k1 s[q]! = false → occ s[q]! = false ∧ fi l k0 k1 = none
theorem Ok.find (h : Ok H L most s l) (hH : ∀ a b, H a b < L) {k0 : Int} {k1 : BitVec 128} (hk : kb 0 0 (k0, k1, 0) = false) : ∃ q, Find H L s l k0 k1 q := by
  obtain ⟨f, hf, ho⟩ := h.free
  obtain ⟨q, hq, hP, hr⟩ := roff_first (L := L) (a := H k0 k1) (P := fun p => kb k0 k1 s[p]! = true ∨ occ s[p]! = false) rfl hf (.inr ho)
  have hr2 : ∀ j, j < L → roff L (H k0 k1) j < roff L (H k0 k1) q → kb k0 k1 s[j]! = false ∧ occ s[j]! = true := by
    intro j hj hl
    have := hr j hj hl
    simpa using this
  refine ⟨q, hq, hr2, hP, fun hy => ?_, fun hn => ?_⟩
  · have hoq : occ s[q]! = true := by
      have h1 : keyI s[q]! = keyI (k0, k1, 0) := kb_key.1 hy
      rw [occ_key h1, occ, hk]; rfl
    obtain ⟨i, h1, h2, h3⟩ := h.at' (h.mem.2 ⟨q, hq, hoq, rfl⟩) (kb_key.1 hy)
    exact ⟨hoq, i, h1, h2, h3⟩
  · have hoq : occ s[q]! = false := by
      rcases hP with hP | hP
      · rw [hn] at hP; cases hP
      · exact hP
    refine ⟨hoq, fi_none.2 fun x hx hkx => ?_⟩
    obtain ⟨i, hi, hoi, rfl⟩ := h.mem.1 hx
    have hHi : H s[i]!.1 s[i]!.2.1 = H k0 k1 := by
      have := hkx; simp only [keyI, Prod.mk.injEq] at this; rw [this.1, this.2]
    rcases Nat.lt_trichotomy (roff L (H k0 k1) q) (roff L (H k0 k1) i) with hl | hl | hl
    · have := h.chain i hi hoi q hq (by simpa only [hHi] using hl)
      rw [hoq] at this; cases this
    · have := roff_inj (hH _ _) hq hi hl; subst this; rw [hoq] at hoi; cases hoi
    · have := (hr2 i hi hl).1
      rw [kb_key.2 hkx] at this; cases this
theorem Ok.put (h : Ok H L most s l) {k0 : Int} {k1 : BitVec 128} {q : Nat} (hk : kb 0 0 (k0, k1, 0) = false) (hq : Find H L s l k0 k1 q) (hn : kb k0 k1 s[q]! = false) (hl : l.length < most) (n : Int) :
    Ok H L most (s.set q (k0, k1, n)) (l ++ [(k0, k1, n)]) := by
  obtain ⟨ho, hfi⟩ := hq.no hn
  have hql : q < s.length := h.len ▸ hq.lt
  have hx : occ (k0, k1, n) = true := by rw [occ_key (x := (k0, k1, n)) (y := (k0, k1, 0)) rfl, occ, hk]; rfl
  refine ⟨by simp [h.len], h.two, by simp; omega, ?_, ?_, h.chain.put h.len hq.lt hx (fun j hj hlt => (hq.road j hj hlt).2)⟩
  · have h1 := (set_perm (x := (k0, k1, n)) hql).filter occ
    rw [List.filter_cons, ho, if_neg (by simp), List.filter_cons, hx, if_pos rfl] at h1
    exact h1.trans ((List.Perm.cons _ h.perm).trans (List.perm_append_singleton _ _).symm)
  · rw [List.map_append, List.nodup_append]
    refine ⟨h.dis, by simp, fun a ha b hb => ?_⟩
    simp only [List.map_cons, List.map_nil, List.mem_singleton] at hb
    subst hb
    obtain ⟨x, hx, rfl⟩ := List.mem_map.1 ha
    exact fi_none.1 hfi x hx
theorem Ok.set (h : Ok H L most s l) {k0 : Int} {k1 : BitVec 128} {q i : Nat} (hq : q < L) (ho : occ s[q]! = true) (hk : keyI s[q]! = (k0, k1)) (hi : i < l.length) (hli : l[i]! = s[q]!) (n : Int) :
    Ok H L most (s.set q (k0, k1, n)) (l.set i (k0, k1, n)) := by
  have hql : q < s.length := h.len ▸ hq
  have hx : occ (k0, k1, n) = true := by rw [occ_key (x := (k0, k1, n)) (y := s[q]!) hk.symm]; exact ho
  refine ⟨by simp [h.len], h.two, by simp [h.le], ?_, ?_, h.chain.set h.len hq ho hx ?_⟩
  · have h1 := (set_perm (x := (k0, k1, n)) hql).filter occ
    rw [List.filter_cons, ho, if_pos rfl, List.filter_cons, hx, if_pos rfl] at h1
    have h2 := set_perm (x := (k0, k1, n)) hi
    rw [hli] at h2
    rw [← List.perm_cons s[q]!]
    exact h1.trans ((List.Perm.cons _ h.perm).trans h2.symm)
  · have : (l.set i (k0, k1, n)).map keyI = l.map keyI := by
      rw [List.map_set]
      apply List.ext_getElem (by simp)
      intro j h1 h2
      rw [List.getElem_set]
      split
      · rename_i e; subst e
        rw [List.getElem_map, ← get_lt hi, hli, hk]; rfl
      · rfl
    rw [this]; exact h.dis
  · have := hk; simp only [keyI, Prod.mk.injEq] at this; simp only [this.1, this.2]
theorem Ok.drop (h : Ok H L most s l) {q i : Nat} {s' : List It} (hq : q < L) (ho : occ s[q]! = true) (hi : i < l.length) (hli : l[i]! = s[q]!) (hl : s'.length = L) (hp : s'.Perm (s.set q it0)) (hc : Chain (fun x => H x.1 x.2.1) L s') :
    Ok H L most s' (l.take i ++ l.drop (i + 1)) := by
  have hql : q < s.length := h.len ▸ hq
  have hsub : (l.take i ++ l.drop (i + 1)).Sublist l := by
    rw [← List.eraseIdx_eq_take_drop_succ]; exact List.eraseIdx_sublist ..
  refine ⟨hl, h.two, Nat.le_trans hsub.length_le h.le, ?_, (hsub.map keyI).nodup h.dis, hc⟩
  have h1 := (set_perm (x := it0) hql).filter occ
  rw [List.filter_cons, ho, if_pos rfl, List.filter_cons, (by decide : occ it0 = false), if_neg (by simp)] at h1
  rw [← List.perm_cons s[q]!]
  refine (List.Perm.cons _ (hp.filter occ)).trans (h1.trans (h.perm.trans ?_))
  have hl2 : l = l.take i ++ l[i]! :: l.drop (i + 1) := by
    conv => lhs; rw [← List.take_append_drop i l, ← List.getElem_cons_drop hi, ← get_lt hi]
  conv => lhs; rw [hl2, hli]
  exact List.perm_middle
theorem Ok.nil (hm : most < L) : Ok H L most (List.replicate L it0) [] := by
  refine ⟨by simp, hm, by simp, ?_, by simp, ?_⟩
  · rw [List.filter_replicate]; simp [(by decide : occ it0 = false)]
  · intro i hi ho
    rw [get_lt (by simpa using hi), List.getElem_replicate] at ho
    simp [(by decide : occ it0 = false)] at ho
end
end Go.Eng
