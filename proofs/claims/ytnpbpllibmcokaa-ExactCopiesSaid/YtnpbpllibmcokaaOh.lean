/- Layer 19: what List gives, and one step on a map and on any list. Conditions: fuel 1000. -/
import Derived.Test.YtnpbpllibmcokaaOg
import Derived.Test.YtnpbpllibmcokaaOe
namespace Go.Proofs.Ytnpbpllibmcokaa
open Go Go.RowKit Go.Eng
section
variable {most : Nat} {s l : List It}
theorem list_l {N : Nat} (hs : s.length ≤ 512) (a b : Int) : ∀ (fuel i : Nat), i ≤ s.length → s.length - i < fuel → exact_Map_List_v1_l3 N s a b fuel ((s.take i).filter occ) (i : Int) = some (sortI cfIt (s.filter occ)) := by
  intro fuel
  induction fuel with
  | zero => intro i _ h; omega
  | succ n ih =>
    intro i hi hfu
    have hfl : ∀ j, ((s.take j).filter occ).length ≤ 512 := fun j => by
      have h1 := List.length_filter_le occ (s.take j)
      rw [List.length_take] at h1; omega
    rw [exact_Map_List_v1_l3]
    by_cases hc : i < s.length
    · rw [if_pos (by omega), ck_pos _ ⟨by omega, by omega⟩, free_s hc, Option.bind_some, Int.toNat_natCast]
      have ht : (s.take (i + 1)).filter occ = (s.take i).filter occ ++ (if occ s[i]! = true then [s[i]!] else []) := by
        rw [List.take_succ_eq_append_getElem hc, List.filter_append, get_lt hc, List.filter_cons]; rfl
      have hn := ih (i + 1) (by omega) (by omega)
      rw [ht] at hn
      have hl := hfl i
      cases ho : occ s[i]! with
      | false =>
        rw [ho] at hn
        rw [if_pos (by simp), ck_pos _ ⟨by omega, by omega⟩]
        simpa using hn
      | true =>
        rw [ho, if_pos rfl] at hn
        rw [if_neg (by simp), ck_pos _ (by rw [List.length_singleton]; omega), ck_pos _ ⟨by omega, by omega⟩]
        exact hn
    · have he : (s.take i).filter occ = s.filter occ := by rw [List.take_of_length_le (by omega)]
      have hl := hfl i
      rw [if_neg (by omega), he] at *
      unfold slices_SortFunc___exact_Item_exact_Item__v1_m
      rw [ck_pos _ (by omega), Option.bind_some, ck_pos _ (sortI_perm cfIt swoIt _).1.length_eq]
def AllMay (l : List It) : Prop := ∀ x ∈ l, mayI x.1 x.2.1 = true
/-- What List gives. -/
structure Listed (g l : List It) : Prop where
  perm : g.Perm l
  sort : ∀ i j, i < j → j < g.length → ltIt g[i]! g[j]!
theorem sorted_at {g : List It} {i j : Nat} (hp : g.Perm l) (hdl : (l.map keyI).Nodup) (hij : i < j) (hj : j < g.length) (h2 : Go.Proofs.ltOf cfIt g[j] g[i] = false) : ltIt g[i]! g[j]! := by
  have hd : (g.map keyI).Nodup := (hp.map keyI).nodup_iff.2 hdl
  rw [ltOfIt_no] at h2
  rw [get_lt (by omega), get_lt hj]
  have hk : keyI g[i] ≠ keyI g[j] := by
    rw [List.Nodup, List.pairwise_iff_getElem] at hd
    have := hd i j (by rw [List.length_map]; omega) (by simpa using hj) hij
    simpa using this
  unfold ltIt at *
  have hk' : ¬ (g[i].1 = g[j].1 ∧ g[i].2.1.toNat = g[j].2.1.toNat) := fun e => hk (by unfold keyI; rw [e.1, BitVec.eq_of_toNat_eq e.2])
  omega
theorem list_s {N : Nat} (hN : 600 ≤ N) (hm : most ≤ 256) (h : Holds most s l) (a b : Int) : ∃ g, exact_Map_List_v1_m N s a b = some g ∧ Listed g l := by
  have hlen := h.len
  refine ⟨sortI cfIt (s.filter occ), ?_, (sortI_perm cfIt swoIt _).1.trans h.perm, fun i j hij hj => ?_⟩
  · unfold exact_Map_List_v1_m
    exact list_l (by omega) a b N 0 (by omega) (by omega)
  · exact sorted_at ((sortI_perm cfIt swoIt _).1.trans h.perm) h.dis hij hj ((sortI_perm cfIt swoIt (s.filter occ)).2 i j hij hj)
theorem may_put {m k0 : Int} {k1 : BitVec 128} {n : Int} (h : AllMay l) : AllMay (putL m l k0 k1 n).2 := by
  unfold putL; split
  · rename_i hk
    split
    · exact h
    · split
      · exact h
      · intro x hx
        rcases List.mem_append.1 hx with hx | hx
        · exact h x hx
        · rw [List.mem_singleton.1 hx]; exact hk
  · exact h
theorem may_set {k0 : Int} {k1 : BitVec 128} {n : Int} (h : AllMay l) : AllMay (setL l k0 k1 n).2 := by
  unfold setL; split
  · rename_i hk
    split
    · intro x hx
      rcases List.mem_or_eq_of_mem_set hx with hx | hx
      · exact h x hx
      · rw [hx]; exact hk
    · exact h
  · exact h
theorem may_drop {k0 : Int} {k1 : BitVec 128} (h : AllMay l) : AllMay (dropL l k0 k1).2 := by
  unfold dropL; split
  · split
    · intro x hx
      rcases List.mem_append.1 hx with hx | hx
      · exact h x (List.mem_of_mem_take hx)
      · exact h x (List.mem_of_mem_drop hx)
    · exact h
  · exact h
theorem len_put {m : Int} {k0 : Int} {k1 : BitVec 128} {n : Int} (hm : m ≤ 256) (h : l.length ≤ 256) : (putL m l k0 k1 n).2.length ≤ 256 := by
  unfold putL; split
  · split
    · exact h
    · split
      · exact h
      · rw [List.length_append, List.length_singleton]; omega
  · exact h
theorem len_set {k0 : Int} {k1 : BitVec 128} {n : Int} (h : l.length ≤ 256) : (setL l k0 k1 n).2.length ≤ 256 := by
  unfold setL; split
  · split
    · rw [List.length_set]; exact h
    · exact h
  · exact h
theorem len_drop {k0 : Int} {k1 : BitVec 128} (h : l.length ≤ 256) : (dropL l k0 k1).2.length ≤ 256 := by
  unfold dropL; split
  · split
    · rw [List.length_append, List.length_take, List.length_drop]; omega
    · exact h
  · exact h
/-- One step on a map, and on any list; where the list is the map's, it goes on with it. -/
theorem step2_s {N : Nat} (hN : 600 ≤ N) (hm : most ≤ 256) {lc : List It} (h : Holds most s lc) (hy : AllMay lc) (hl : l.length ≤ 256) (o0 o1 o2 : Int) (o3 : BitVec 128) :
    ∃ r b s' lc', shunterlaw19_step_v1_m N s (lc.length : Int) (most : Int) l (most : Int) o0 o1 o2 o3 = some (r, b, s', ((lc'.length : Nat) : Int), (most : Int)) ∧ Holds most s' lc' ∧ AllMay lc' ∧ (r.list l).length ≤ 256 ∧ (lc = l → lc' = r.list l) := by
  have hlen := h.len
  unfold shunterlaw19_step_v1_m
  by_cases h0 : o0 = 0
  · rw [if_pos h0, rput_s hN _ _ _ _ hl, Option.bind_some]
    obtain ⟨s', hp, hh⟩ := put_s hN hm h o2 o3 o1
    have hlen' := hh.len
    have hll := newOr_list (p := putL (most : Int) l o2 o3 o1) (l := l) putL_same
    refine ⟨newOr (putL (most : Int) l o2 o3 o1), ((putL (most : Int) lc o2 o3 o1).1 == (putL (most : Int) l o2 o3 o1).1), s', _, ?_, hh, may_put hy, by rw [hll]; exact len_put (by omega) hl, fun e => by rw [hll, e]⟩
    rw [hp]
    by_cases hz : (putL (most : Int) l o2 o3 o1).1 = 0
    · rw [newOr_zero hz]
      show (ck (s'.length = s.length) _) = _
      rw [ck_pos _ (by omega)]
    · rw [newOr_ne hz]
      show (ck (s'.length = s.length) _) = _
      rw [ck_pos _ (by omega)]
  rw [if_neg h0]
  by_cases h1 : o0 = 1
  · rw [if_pos h1, rset_s hN _ _ _ hl, Option.bind_some]
    obtain ⟨s', hp, hh⟩ := set_s hN hm h o2 o3 o1
    have hlen' := hh.len
    have hll := newOr_list (p := setL l o2 o3 o1) (l := l) setL_same
    refine ⟨newOr (setL l o2 o3 o1), ((setL lc o2 o3 o1).1 == (setL l o2 o3 o1).1), s', _, ?_, hh, may_set hy, by rw [hll]; exact len_set hl, fun e => by rw [hll, e]⟩
    rw [hp]
    by_cases hz : (setL l o2 o3 o1).1 = 0
    · rw [newOr_zero hz]
      show (ck (s'.length = s.length) _) = _
      rw [ck_pos _ (by omega)]
    · rw [newOr_ne hz]
      show (ck (s'.length = s.length) _) = _
      rw [ck_pos _ (by omega)]
  rw [if_neg h1]
  by_cases h2 : o0 = 2
  · rw [if_pos h2, rdrop_s hN _ _ hl, Option.bind_some]
    obtain ⟨s', hp, hh⟩ := drop_s hN hm h o2 o3
    have hlen' := hh.len
    have hll := newOr_list (p := dropL l o2 o3) (l := l) dropL_same
    refine ⟨newOr (dropL l o2 o3), ((dropL lc o2 o3).1 == (dropL l o2 o3).1), s', _, ?_, hh, may_drop hy, by rw [hll]; exact len_drop hl, fun e => by rw [hll, e]⟩
    rw [hp]
    by_cases hz : (dropL l o2 o3).1 = 0
    · rw [newOr_zero hz]
      show (ck (s'.length = s.length) _) = _
      rw [ck_pos _ (by omega)]
    · rw [newOr_ne hz]
      show (ck (s'.length = s.length) _) = _
      rw [ck_pos _ (by omega)]
  rw [if_neg h2, get_s hN hm h, Option.bind_some, rmay19_s, Option.bind_some]
  cases hk : mayI o2 o3 with
  | false =>
    rw [if_neg (by simp)]
    have e : getL lc o2 o3 = (0, false) := by unfold getL; rw [if_neg (by simp [hk])]
    rw [e]
    exact ⟨.nil, true, s, lc, rfl, h, hy, hl, fun e => e⟩
  | true =>
    rw [if_pos rfl, rfind_s hN _ _ hl, Option.bind_some]
    generalize getL lc o2 o3 = g
    unfold fiI shunterlaw19_step_v1_k2
    cases hf : fi l o2 o3 with
    | none =>
      simp only []
      rw [if_pos (by omega)]
      by_cases hg : g.1 = 0
      · rw [if_pos hg]; exact ⟨.nil, _, s, lc, rfl, h, hy, hl, fun e => e⟩
      · rw [if_neg hg]; exact ⟨.nil, _, s, lc, rfl, h, hy, hl, fun e => e⟩
    | some i =>
      obtain ⟨hi, _⟩ := fi_some hf
      simp only []
      rw [if_neg (by omega), ck_pos _ ⟨by omega, by omega⟩]
      by_cases hg : g.1 = ((l)[((i : Int)).toNat]!).2.2
      · rw [if_pos hg]; exact ⟨.nil, _, s, lc, rfl, h, hy, hl, fun e => e⟩
      · rw [if_neg hg]; exact ⟨.nil, _, s, lc, rfl, h, hy, hl, fun e => e⟩
end
end Go.Proofs.Ytnpbpllibmcokaa
