/- Layer 19: the laws ExactLists and ExactCopies answer true. Conditions: fuel 1000. -/
import Derived.Test.YtnpbpllibmcokaaOh
import Derived.Test.YtnpbpllibmcokaaLExactLists
import Derived.Test.YtnpbpllibmcokaaLExactCopies
namespace Go.Proofs.Ytnpbpllibmcokaa
open Go Go.RowKit Go.Eng
section
variable {most : Nat} {s l : List It}
theorem fwd_s (i : Nat) (hi : i ≤ 1000) (v : Option Bool) : ck (-9223372036854775808 ≤ ((i : Int) + 1) ∧ ((i : Int) + 1) ≤ 9223372036854775807) v = v := ck_pos _ ⟨by omega, by omega⟩
theorem onN {β : Type} (a : β) (f : List It → β) : SumRow41.on .nil a f = a := rfl
theorem onT {β : Type} (x : List It) (a : β) (f : List It → β) : SumRow41.on (.t0 x) a f = f x := rfl
theorem go_s (l s' : List It) (i : Nat) (hi : i ≤ 1000) (u m : Int) (rec : List It → Int → List It → Int → Int → Option Bool) (r : SumRow41) :
    r.on (ck (-9223372036854775808 ≤ ((i : Int) + 1) ∧ ((i : Int) + 1) ≤ 9223372036854775807) (rec l ((i : Int) + 1) s' u m)) (fun x => ck (-9223372036854775808 ≤ ((i : Int) + 1) ∧ ((i : Int) + 1) ≤ 9223372036854775807) (rec x ((i : Int) + 1) s' u m)) = rec (r.list l) ((i + 1 : Nat) : Int) s' u m := by
  have e : ((i + 1 : Nat) : Int) = (i : Int) + 1 := by omega
  rw [e]
  cases r with
  | nil => rw [onN, fwd_s i hi]; rfl
  | t0 x => rw [onT]; show ck _ _ = _; rw [fwd_s i hi]; rfl
theorem Listed.at' {g : List It} (h : Holds most s l) (hg : Listed g l) {i : Nat} (hi : i < g.length) : ∃ k, fi l g[i]!.1 g[i]!.2.1 = some k ∧ k < l.length ∧ l[k]! = g[i]! := by
  have hm : g[i]! ∈ l := by rw [get_lt hi]; exact hg.perm.mem_iff.1 (List.getElem_mem hi)
  exact h.at' hm rfl
theorem lists_l9 (h : Holds most s l) (hm : most ≤ 256) (hy : AllMay l) {g : List It} (hg : Listed g l) : ∀ (fuel i : Nat), i ≤ g.length → g.length - i < fuel → shunterlaw19_ExactLists_l9 1000 l g fuel (i : Int) = some true := by
  have hle := h.le
  have hgl := hg.perm.length_eq
  intro fuel
  induction fuel with
  | zero => intro i _ h; omega
  | succ n ih =>
    intro i hi hfu
    rw [shunterlaw19_ExactLists_l9]
    by_cases hc : i < g.length
    · obtain ⟨k, hk, hkl, hkg⟩ := hg.at' h hc
      rw [if_pos (by omega), ck_pos _ ⟨by omega, by omega⟩, Int.toNat_natCast, rfind_s (by omega) _ _ (by omega), Option.bind_some]
      unfold fiI
      rw [hk]
      simp only []
      rw [if_neg (by omega), ck_pos _ ⟨by omega, by omega⟩, ck_pos _ ⟨by omega, by omega⟩, Int.toNat_natCast, hkg, if_neg (by simp)]
      have hn := ih (i + 1) (by omega) (by omega)
      by_cases h0 : i = 0
      · subst h0
        rw [if_neg (by omega), ck_pos _ ⟨by omega, by omega⟩]; exact hn
      · have e : ((i : Int) - 1).toNat = i - 1 := by omega
        have hmm : ∀ j, j < g.length → mayI g[j]!.1 g[j]!.2.1 = true := fun j hj => by
          rw [get_lt hj]; exact hy _ (hg.perm.mem_iff.1 (List.getElem_mem hj))
        rw [if_pos (by omega), ck_pos _ ⟨by omega, by omega⟩, ck_pos _ ⟨by omega, by omega⟩, ck_pos _ ⟨by omega, by omega⟩, e, less19_s (by omega) (hmm _ (by omega)) (hmm _ hc), Option.bind_some, decide_eq_true (hg.sort (i - 1) i (by omega) hc), if_pos rfl, ck_pos _ ⟨by omega, by omega⟩]
        exact hn
    · rw [if_neg (by omega), lives19_s]; rfl
theorem lists_l7 (hm : most ≤ 256) (ops : List (Int × Int × Int × BitVec 128)) (hops : ops.length ≤ 400) : ∀ (fuel i : Nat) (s l : List It), i ≤ ops.length → ops.length - i < fuel → Holds most s l → AllMay l →
    shunterlaw19_ExactLists_l7 1000 (most : Int) ops fuel l (i : Int) s (l.length : Int) (most : Int) = some true := by
  intro fuel
  induction fuel with
  | zero => intro i s l _ h; omega
  | succ n ih =>
    intro i s l hi hfu h hy
    have hle := h.le
    have hlen := h.len
    rw [shunterlaw19_ExactLists_l7]
    by_cases hc : i < ops.length
    · rw [if_pos (by omega), ck_pos _ ⟨by omega, by omega⟩]
      obtain ⟨r, b, s', lc', hs, hh, hy', hr, he⟩ := step2_s (N := 1000) (by omega) hm h hy (l := l) (by omega) (ops[(i : Int).toNat]!).1 (ops[(i : Int).toNat]!).2.1 (ops[(i : Int).toNat]!).2.2.1 (ops[(i : Int).toNat]!).2.2.2
      have hlen' := hh.len
      rw [hs, Option.bind_some, ck_pos _ (by show s'.length = _; omega)]
      obtain rfl := he rfl
      have hn := ih (i + 1) s' _ (by omega) (by omega) hh hy'
      exact (go_s l s' i (by omega) _ _ (shunterlaw19_ExactLists_l7 1000 (most : Int) ops n) r).trans hn
    · rw [if_neg (by omega)]
      obtain ⟨g, hg, hgl⟩ := list_s (N := 1000) (by omega) hm h (l.length : Int) (most : Int)
      have := hgl.perm.length_eq
      rw [hg, Option.bind_some, if_neg (by simp; omega)]
      exact lists_l9 h hm hy hgl 1000 0 (by omega) (by omega)
theorem exactLists_true (most : Int) (ops : List (Int × Int × Int × BitVec 128)) : shunterlaw19_ExactLists_m 1000 most ops = some true := by
  unfold shunterlaw19_ExactLists_m
  rw [new_s, Option.bind_some]
  by_cases h1 : most < 1
  · rw [if_pos (.inl h1)]
    show (if most < 1 then _ else _) = _
    rw [if_pos h1]; unfold shunterlaw19_ExactLists_k1; rw [if_pos rfl, lives19_s]; rfl
  by_cases h2 : most > 256
  · rw [if_pos (.inr h2)]
    show (if most < 1 then _ else _) = _
    rw [if_neg h1]; unfold shunterlaw19_ExactLists_k1; rw [if_pos (by simpa using h2), lives19_s]; rfl
  rw [if_neg (by omega)]
  obtain ⟨m, rfl⟩ : ∃ m : Nat, most = (m : Int) := ⟨most.toNat, by omega⟩
  show (if (ops.length : Int) > 400 then _ else _) = _
  by_cases h3 : (ops.length : Int) > 400
  · rw [if_pos h3, if_neg h1]; unfold shunterlaw19_ExactLists_k2; rw [if_pos (by simpa using h2), lives19_s]; rfl
  · rw [if_neg h3]
    have e : (2 * (m : Int)).toNat = 2 * m := by omega
    rw [e]
    exact lists_l7 (by omega) ops (by omega) 1000 0 _ [] (by omega) (by omega) (holds_nil (by omega)) (fun _ h => (nomatch h))
theorem copies_l20 (h : Holds most s l) (hm : most ≤ 256) {g : List It} (hg : Listed g l) : ∀ (fuel i : Nat), i ≤ g.length → g.length - i < fuel → shunterlaw19_ExactCopies_l20 1000 l g fuel (i : Int) = some true := by
  have hle := h.le
  have hgl := hg.perm.length_eq
  intro fuel
  induction fuel with
  | zero => intro i _ h; omega
  | succ n ih =>
    intro i hi hfu
    rw [shunterlaw19_ExactCopies_l20]
    by_cases hc : i < g.length
    · obtain ⟨k, hk, hkl, hkg⟩ := hg.at' h hc
      rw [if_pos (by omega), ck_pos _ ⟨by omega, by omega⟩, Int.toNat_natCast, rfind_s (by omega) _ _ (by omega), Option.bind_some]
      unfold fiI
      rw [hk]
      simp only []
      rw [if_neg (by omega), ck_pos _ ⟨by omega, by omega⟩, ck_pos _ ⟨by omega, by omega⟩, Int.toNat_natCast, hkg, if_neg (by simp), ck_pos _ ⟨by omega, by omega⟩]
      exact ih (i + 1) (by omega) (by omega)
    · rw [if_neg (by omega), lives19_s]; rfl
theorem copies_l17 (more : List (Int × Int × Int × BitVec 128)) (hmore : more.length ≤ 200) (h : Holds 40 s l) : ∀ (fuel i : Nat) (x sc lc : List It), i ≤ more.length → more.length - i < fuel → x.length ≤ 256 → Holds 40 sc lc → AllMay lc →
    shunterlaw19_ExactCopies_l17 1000 more l s (l.length : Int) 40 fuel x (i : Int) sc (lc.length : Int) 40 = some true := by
  intro fuel
  induction fuel with
  | zero => intro i x sc lc _ h; omega
  | succ n ih =>
    intro i x sc lc hi hfu hx hc2 hy
    have hlen := hc2.len
    rw [shunterlaw19_ExactCopies_l17]
    by_cases hc : i < more.length
    · rw [if_pos (by omega), ck_pos _ ⟨by omega, by omega⟩]
      obtain ⟨r, b, s', lc', hs, hh, hy', hr, _⟩ := step2_s (N := 1000) (most := 40) (by omega) (by omega) hc2 hy (l := x) hx (more[(i : Int).toNat]!).1 (more[(i : Int).toNat]!).2.1 (more[(i : Int).toNat]!).2.2.1 (more[(i : Int).toNat]!).2.2.2
      have hlen' := hh.len
      have hs' : shunterlaw19_step_v1_m 1000 sc (lc.length : Int) 40 x 40 (more[(i : Int).toNat]!).1 (more[(i : Int).toNat]!).2.1 (more[(i : Int).toNat]!).2.2.1 (more[(i : Int).toNat]!).2.2.2 = some (r, b, s', (lc'.length : Int), 40) := hs
      rw [hs', Option.bind_some, ck_pos _ (by show s'.length = _; omega)]
      have hn := ih (i + 1) _ s' lc' (by omega) (by omega) hr hh hy'
      exact (go_s x s' i (by omega) _ _ (shunterlaw19_ExactCopies_l17 1000 more l s (l.length : Int) 40 n) r).trans hn
    · rw [if_neg (by omega)]
      obtain ⟨g, hg, hgl⟩ := list_s (N := 1000) (by omega) (by omega) h (l.length : Int) 40
      have hle := h.le
      have := hgl.perm.length_eq
      rw [hg, Option.bind_some, if_neg (by simp; omega)]
      unfold exact_Map_Len_v1_m shunterlaw19_ExactCopies_k18
      rw [Option.bind_some, if_neg (by simp)]
      exact copies_l20 h (by omega) hgl 1000 0 (by omega) (by omega)
theorem copies_l12 (ops more : List (Int × Int × Int × BitVec 128)) (hops : ops.length ≤ 200) (hmore : more.length ≤ 200) : ∀ (fuel i : Nat) (s l : List It), i ≤ ops.length → ops.length - i < fuel → Holds 40 s l → AllMay l →
    shunterlaw19_ExactCopies_l12 1000 ops more fuel l (i : Int) s (l.length : Int) 40 = some true := by
  intro fuel
  induction fuel with
  | zero => intro i s l _ h; omega
  | succ n ih =>
    intro i s l hi hfu h hy
    have hle := h.le
    have hlen := h.len
    rw [shunterlaw19_ExactCopies_l12]
    by_cases hc : i < ops.length
    · rw [if_pos (by omega), ck_pos _ ⟨by omega, by omega⟩]
      obtain ⟨r, b, s', lc', hs, hh, hy', hr, he⟩ := step2_s (N := 1000) (most := 40) (by omega) (by omega) h hy (l := l) (by omega) (ops[(i : Int).toNat]!).1 (ops[(i : Int).toNat]!).2.1 (ops[(i : Int).toNat]!).2.2.1 (ops[(i : Int).toNat]!).2.2.2
      have hlen' := hh.len
      have hs' : shunterlaw19_step_v1_m 1000 s (l.length : Int) 40 l 40 (ops[(i : Int).toNat]!).1 (ops[(i : Int).toNat]!).2.1 (ops[(i : Int).toNat]!).2.2.1 (ops[(i : Int).toNat]!).2.2.2 = some (r, b, s', (lc'.length : Int), 40) := hs
      rw [hs', Option.bind_some, ck_pos _ (by show s'.length = _; omega)]
      obtain rfl := he rfl
      have hn := ih (i + 1) s' _ (by omega) (by omega) hh hy'
      exact (go_s l s' i (by omega) _ _ (shunterlaw19_ExactCopies_l12 1000 ops more n) r).trans hn
    · rw [if_neg (by omega)]
      unfold exact_Map_Copy_v2_m slices_Clone___exact_Item_exact_Item__m
      rw [ck_pos _ (by simp; omega), Option.bind_some, Option.bind_some]
      exact copies_l17 more hmore h 1000 0 [] s l (by omega) (by omega) (by simp) h hy
theorem exactCopies_true (ops more : List (Int × Int × Int × BitVec 128)) : shunterlaw19_ExactCopies_m 1000 ops more = some true := by
  have e1 : exact_Map_Get_v2_m 1000 1 ((0#64) ++ (0#64)) = some (0, false) := by decide +kernel
  have e2 : exact_Map_Put_v2_m 1000 1 ((0#64) ++ (0#64)) 1 = some 1 := by decide +kernel
  have e3 : exact_Map_Set_v2_m 1000 1 ((0#64) ++ (0#64)) 1 = some 1 := by decide +kernel
  have e4 : exact_Map_Drop_v2_m 1000 1 ((0#64) ++ (0#64)) = some 1 := by decide +kernel
  have e5 : exact_Map_Len_v2_m 1000 = some 0 := rfl
  have e6 : exact_Map_Room_v2_m 1000 = some 0 := rfl
  have e7 : exact_Map_List_v2_m 1000 = some [] := rfl
  have e8 : exact_Map_Copy_v1_m 1000 = some .nil := rfl
  unfold shunterlaw19_ExactCopies_m
  rw [e1, Option.bind_some, if_neg (by simp)]
  unfold shunterlaw19_ExactCopies_k1
  rw [if_neg (by simp), e2, Option.bind_some]
  unfold shunterlaw19_ExactCopies_k2
  rw [if_neg (by simp), e3, Option.bind_some]
  unfold shunterlaw19_ExactCopies_k3
  rw [if_neg (by simp), e4, Option.bind_some]
  unfold shunterlaw19_ExactCopies_k4
  rw [if_neg (by simp), e5, Option.bind_some]
  unfold shunterlaw19_ExactCopies_k5
  rw [if_neg (by simp), e6, Option.bind_some]
  unfold shunterlaw19_ExactCopies_k6
  rw [if_neg (by simp), e7, Option.bind_some, if_neg (by simp), e8, Option.bind_some]
  show (if (ops.length : Int) > 200 then _ else _) = _
  by_cases h1 : (ops.length : Int) > 200
  · rw [if_pos h1]; unfold shunterlaw19_ExactCopies_k7; rw [if_pos rfl, lives19_s]; rfl
  rw [if_neg h1]
  unfold shunterlaw19_ExactCopies_k7
  by_cases h2 : (more.length : Int) > 200
  · rw [if_pos (by simpa using h2), lives19_s]; rfl
  · rw [if_neg (by simpa using h2), new_s, Option.bind_some, if_neg (by omega)]
    have e : (2 * (40 : Int)).toNat = 2 * 40 := rfl
    show shunterlaw19_ExactCopies_l12 1000 ops more 1000 [] 0 (List.replicate (2 * (40 : Int)).toNat it0) 0 40 = _
    rw [e]
    exact copies_l12 ops more (by omega) (by omega) 1000 0 _ [] (by omega) (by omega) (holds_nil (most := 40) (by omega)) (fun _ h => (nomatch h))
end
end Go.Proofs.Ytnpbpllibmcokaa
