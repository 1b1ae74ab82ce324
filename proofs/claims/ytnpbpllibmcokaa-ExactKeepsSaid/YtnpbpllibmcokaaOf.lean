/- Layer 19: the law ExactKeeps answers true. Conditions: fuel 1000. -/
import Derived.Test.YtnpbpllibmcokaaOe
import Derived.Test.YtnpbpllibmcokaaLExactKeeps
namespace Go.Proofs.Ytnpbpllibmcokaa
open Go Go.RowKit Go.Eng
section
variable {most : Nat} {s l : List It}
theorem keep_put {m : Int} {a0 b0 : Int} {a1 b1 : BitVec 128} {n v : Int} (h : (b0, b1, v) ∈ l) : (b0, b1, v) ∈ (putL m l a0 a1 n).2 := by
  unfold putL; split
  · split
    · exact h
    · split
      · exact h
      · exact List.mem_append_left _ h
  · exact h
theorem keep_set {a0 b0 : Int} {a1 b1 : BitVec 128} {n v : Int} (hne : ¬ ((a0, a1) = (b0, b1))) (h : (b0, b1, v) ∈ l) : (b0, b1, v) ∈ (setL l a0 a1 n).2 := by
  unfold setL; split
  · split
    · rename_i i hf
      obtain ⟨hi, hk⟩ := fi_some hf
      obtain ⟨j, hj, hx⟩ := List.getElem_of_mem h
      have hij : i ≠ j := by
        intro e; subst e
        rw [get_lt hj, hx] at hk; exact hne hk.symm
      refine List.mem_iff_getElem.2 ⟨j, by simpa using hj, ?_⟩
      rw [List.getElem_set, if_neg hij, hx]
    · exact h
  · exact h
theorem split_at {i : Nat} (hi : i < l.length) : l = l.take i ++ l[i]! :: l.drop (i + 1) := by
  conv => lhs; rw [← List.take_append_drop i l, ← List.getElem_cons_drop hi, ← get_lt hi]
theorem keep_drop {a0 b0 : Int} {a1 b1 : BitVec 128} {v : Int} (hne : ¬ ((a0, a1) = (b0, b1))) (h : (b0, b1, v) ∈ l) : (b0, b1, v) ∈ (dropL l a0 a1).2 := by
  unfold dropL; split
  · split
    · rename_i i hf
      obtain ⟨hi, hk⟩ := fi_some hf
      rw [split_at hi, List.mem_append, List.mem_cons] at h
      rcases h with h | h | h
      · exact List.mem_append_left _ h
      · rw [← h] at hk; exact absurd hk.symm hne
      · exact List.mem_append_right _ h
    · exact h
  · exact h
theorem got {k0 v : Int} {k1 : BitVec 128} (hh : Holds most s l) (hk : mayI k0 k1 = true) (h : (k0, k1, v) ∈ l) : ∃ i, fi l k0 k1 = some i ∧ i < l.length ∧ l[i]! = (k0, k1, v) ∧ getL l k0 k1 = (v, true) := by
  obtain ⟨i, h1, h2, h3⟩ := hh.at' h rfl
  refine ⟨i, h1, h2, h3, ?_⟩
  unfold getL; rw [if_pos hk, h1]; simp only [h3]
theorem gone {k0 v : Int} {k1 : BitVec 128} (hh : Holds most s l) (hk : mayI k0 k1 = true) (h : (k0, k1, v) ∈ l) : (dropL l k0 k1).1 = 0 ∧ fi (dropL l k0 k1).2 k0 k1 = none := by
  obtain ⟨i, h1, h2, h3, _⟩ := got hh hk h
  unfold dropL; rw [if_pos hk, h1]
  refine ⟨rfl, fi_none.2 fun x hx e => ?_⟩
  have hd := hh.dis
  rw [split_at h2, h3, List.map_append, List.map_cons] at hd
  have hd2 := List.perm_middle.nodup_iff.1 hd
  rw [List.nodup_cons, ← List.map_append] at hd2
  exact hd2.1 (List.mem_map.2 ⟨x, hx, e⟩)
theorem none_get {k0 : Int} {k1 : BitVec 128} (h : fi l k0 k1 = none) : getL l k0 k1 = (0, false) := by
  unfold getL; split
  · rw [h]
  · rfl
theorem none_drop {k0 : Int} {k1 : BitVec 128} (hk : mayI k0 k1 = true) (h : fi l k0 k1 = none) : dropL l k0 k1 = (5, l) := by
  unfold dropL; rw [if_pos hk, h]
theorem keeps_k8 {k0 n : Int} {k1 : BitVec 128} (hm : most ≤ 256) (hh : Holds most s l) (hk : mayI k0 k1 = true) (h : (k0, k1, n) ∈ l) (i : Nat) (hi : i ≤ 1000) (rec : Int → List It → Int → Int → Option Bool) (a b : Int) :
    shunterlaw19_ExactKeeps_k8 1000 k0 k1 n (i : Int) rec s a b = rec ((i + 1 : Nat) : Int) s a b := by
  obtain ⟨_, _, _, _, hg⟩ := got hh hk h
  unfold shunterlaw19_ExactKeeps_k8
  rw [get_s (by omega) hm hh, Option.bind_some, hg, if_neg (by simp)]
  unfold shunterlaw19_ExactKeeps_k9
  rw [if_neg (by simp), ck_pos _ ⟨by omega, by omega⟩]
  rfl
theorem keeps_l (hm : most ≤ 256) {k0 n : Int} {k1 : BitVec 128} (hk : mayI k0 k1 = true) (ops : List (Int × Int × Int × BitVec 128)) (hops : ops.length ≤ 600) : ∀ (fuel i : Nat) (s l : List It), i ≤ ops.length → ops.length - i < fuel → Holds most s l → (k0, k1, n) ∈ l →
    shunterlaw19_ExactKeeps_l5 1000 ops k0 k1 n fuel (i : Int) s (l.length : Int) (most : Int) = some true := by
  intro fuel
  induction fuel with
  | zero => intro i s l _ h; omega
  | succ f ih =>
    intro i s l hi hfu h hmem
    have hlen := h.len
    rw [shunterlaw19_ExactKeeps_l5]
    by_cases hc : i < ops.length
    · rw [if_pos (by omega), ck_pos _ ⟨by omega, by omega⟩]
      generalize ops[(i : Int).toNat]! = o
      by_cases he : ((o.2.2.1 == k0) && (o.2.2.2 == k1)) = true
      · rw [if_pos he, ck_pos _ ⟨by omega, by omega⟩]
        exact ih (i + 1) s l (by omega) (by omega) h hmem
      rw [if_neg he, ck_pos _ ⟨by omega, by omega⟩]
      have hne : ¬ ((o.2.2.1, o.2.2.2) = (k0, k1)) := by
        intro e; simp only [Prod.mk.injEq] at e; exact he (by simp [e.1, e.2])
      by_cases h0 : o.1 = 0
      · rw [if_pos h0, ck_pos _ ⟨by omega, by omega⟩, ck_pos _ ⟨by omega, by omega⟩]
        obtain ⟨s', hp, hh⟩ := put_s (N := 1000) (by omega) hm h o.2.2.1 o.2.2.2 o.2.1
        have hlen' := hh.len
        have hmem' := keep_put (m := (most : Int)) (a0 := o.2.2.1) (a1 := o.2.2.2) (n := o.2.1) hmem
        rw [hp, Option.bind_some]
        show (ck (s'.length = s.length) _) = _
        rw [ck_pos _ (by omega)]
        exact (keeps_k8 hm hh hk hmem' i (by omega) _ _ _).trans (ih (i + 1) s' _ (by omega) (by omega) hh hmem')
      rw [if_neg h0]
      by_cases h1 : o.1 = 1
      · rw [if_pos h1, ck_pos _ ⟨by omega, by omega⟩, ck_pos _ ⟨by omega, by omega⟩]
        obtain ⟨s', hp, hh⟩ := set_s (N := 1000) (by omega) hm h o.2.2.1 o.2.2.2 o.2.1
        have hlen' := hh.len
        have hmem' := keep_set (n := o.2.1) hne hmem
        rw [hp, Option.bind_some]
        show (ck (s'.length = s.length) _) = _
        rw [ck_pos _ (by omega)]
        exact (keeps_k8 hm hh hk hmem' i (by omega) _ _ _).trans (ih (i + 1) s' _ (by omega) (by omega) hh hmem')
      · rw [if_neg h1, ck_pos _ ⟨by omega, by omega⟩]
        obtain ⟨s', hp, hh⟩ := drop_s (N := 1000) (by omega) hm h o.2.2.1 o.2.2.2
        have hlen' := hh.len
        have hmem' := keep_drop hne hmem
        rw [hp, Option.bind_some]
        show (ck (s'.length = s.length) _) = _
        rw [ck_pos _ (by omega)]
        exact (keeps_k8 hm hh hk hmem' i (by omega) _ _ _).trans (ih (i + 1) s' _ (by omega) (by omega) hh hmem')
    · rw [if_neg (by omega)]
      obtain ⟨s', hp, hh⟩ := drop_s (N := 1000) (by omega) hm h k0 k1
      obtain ⟨hz, hf⟩ := gone h hk hmem
      have hlen' := hh.len
      rw [hp, Option.bind_some, hz]
      obtain ⟨s2, hp2, hh2⟩ := drop_s (N := 1000) (by omega) hm hh k0 k1
      have hlen2 := hh2.len
      have hd2 := none_drop hk hf
      rw [hd2] at hp2
      show (ck (s'.length = s.length) _) = _
      rw [ck_pos _ (by omega), if_neg (by simp)]
      show (exact_Map_Get_v1_m 1000 s' _ _ k0 k1).bind _ = _
      rw [get_s (by omega) hm hh, Option.bind_some, none_get hf, if_pos rfl]
      unfold shunterlaw19_ExactKeeps_k10
      rw [if_pos (by simp)]
      show (exact_Map_Drop_v1_m 1000 s' _ _ k0 k1).bind _ = _
      rw [hp2, Option.bind_some]
      show (ck (s2.length = s'.length) _) = _
      rw [ck_pos _ (by omega), if_pos rfl, lives19_s]; rfl
theorem exactKeeps_true (ops : List (Int × Int × Int × BitVec 128)) (k0 : Int) (k1 : BitVec 128) (n : Int) : shunterlaw19_ExactKeeps_m 1000 ops k0 k1 n = some true := by
  unfold shunterlaw19_ExactKeeps_m
  by_cases h1 : (ops.length : Int) > 600
  · rw [if_pos h1]; unfold shunterlaw19_ExactKeeps_k1; rw [if_pos rfl, lives19_s]; rfl
  rw [if_neg h1, rmay_s, Option.bind_some]
  unfold shunterlaw19_ExactKeeps_k1
  cases hk : mayI k0 k1 with
  | false => rw [if_pos (by simp), lives19_s]; rfl
  | true =>
    rw [if_neg (by simp), new_s, Option.bind_some, if_neg (by omega)]
    have h0 : Holds 256 (List.replicate (2 * 256) it0) [] := holds_nil (by omega)
    obtain ⟨s', hp, hh⟩ := put_s (N := 1000) (by omega) (by omega) h0 k0 k1 n
    have hl : putL ((256 : Nat) : Int) [] k0 k1 n = (0, [(k0, k1, n)]) := by
      unfold putL; rw [if_pos hk]; rfl
    rw [hl] at hp hh
    have hlen' := hh.len
    show (exact_Map_Put_v1_m 1000 (List.replicate (2 * 256) it0) (([] : List It).length : Int) ((256 : Nat) : Int) k0 k1 n).bind _ = _
    rw [hp, Option.bind_some]
    show (ck (s'.length = (List.replicate (2 * 256) it0).length) _) = _
    rw [ck_pos _ (by rw [List.length_replicate]; exact hlen'), if_neg (by simp)]
    exact keeps_l (by omega) hk ops (by omega) 1000 0 s' [(k0, k1, n)] (by omega) (by omega) hh (by simp)
end
end Go.Proofs.Ytnpbpllibmcokaa
