/- slices.SortFunc over a row in memory that nobody else has: what it comes to. Conditions: the library's contract for it, told as hypotheses; the function that is handed in answers alike in every world. -/
import Derived.Test.YtnpbpllibmcokaaPt
import Derived.Shelf.GgSortFunc.InsertionK
import Derived.Shelf.SlSortCmp.InsertionK
import Derived.Sort.AssemblyPlain
namespace Go.Eng
open Go Go.RowKit
/-- What slices.SortFunc makes of a list. -/
def sortI {α : Type} [Inhabited α] (cf : α → α → Int) (xs : List α) : List α := (Go.Sort.pdq (Go.Proofs.ltOf cf) xs.toArray 0 xs.toArray.size (Lib.bitLen xs.toArray.size) true true).toList
/-- A world behind: some draws, some blocks more. -/
theorem Bel.grown {w w' : World} (h : Bel w.heap.size w w') : ∃ q os, w' = Go.Sort.grow (w.drewN q) os := by
  refine ⟨w'.drawn - w.drawn, (w'.heap.toList.drop w.heap.size).toArray, ?_⟩
  obtain ⟨h1, h2, h3, h4, h5⟩ := h.below
  have hd := h.drawn
  have hh : w'.heap = w.heap ++ (w'.heap.toList.drop w.heap.size).toArray := by
    apply Array.ext_getElem?
    intro k
    rw [Array.getElem?_append]
    by_cases hk : k < w.heap.size
    · rw [if_pos hk]; exact h5 k hk
    · rw [if_neg hk]
      simp only [List.getElem?_toArray, List.getElem?_drop, Array.getElem?_toList]
      congr 1; omega
  cases w' with
  | mk hp tp dr os out =>
    cases w with
    | mk hp0 tp0 dr0 os0 out0 =>
      simp only at *
      subst h1; subst h2; subst h3
      simp only [Go.Sort.grow, World.drewN]
      congr 1
      omega
section
variable {α : Type} [Inhabited α] {En : Enc α} {e : TypeId} {b cap : Nat} {cs : Array Value} {xs : List α}
theorem flat_all (xs : List α) : (Go.Sort.flatK En.f En.sz xs.toArray).toList = En.all xs := by
  apply List.ext_getElem?
  intro t
  by_cases ht : t < xs.length * En.sz
  · have hi : t / En.sz < xs.length := Nat.div_lt_of_lt_mul (by rw [Nat.mul_comm]; exact ht)
    have hj : t % En.sz < (En.f xs[t / En.sz]).length := by rw [En.len]; exact Nat.mod_lt _ En.pos
    have h1 := En.all_get (xs := xs) (List.getElem?_eq_getElem hi) (t % En.sz) _ (List.getElem?_eq_getElem hj)
    rw [Nat.mul_comm, Nat.div_add_mod] at h1
    rw [h1, Array.getElem?_toList, Array.getElem?_eq_getElem (by simpa using ht)]
    congr 1
    have h2 := Go.Sort.get_flatK En.f En.sz xs.toArray t (by simpa using ht)
    rw [getElem!_pos _ t (by simpa using ht)] at h2
    rw [h2, getElem!_pos xs.toArray _ (by simpa using hi)]
    simp only [List.getElem_toArray]
    exact getElem!_pos (En.f xs[t / En.sz]) (t % En.sz) hj
  · rw [List.getElem?_eq_none (by simpa using Nat.not_lt.1 ht), List.getElem?_eq_none (by rw [En.all_len]; omega)]
theorem row_holds {w : World} (hT : decide (e < OBJ) = true) (hh : Holds w b e cs) (hcs : cs.size = cap * En.sz) (hle : xs.length ≤ cap) (htk : cs.toList.take (xs.length * En.sz) = En.all xs) : Go.Sort.HoldsK En.f En.sz w b 0 xs.toArray := by
  obtain ⟨fr, hb, hfr⟩ := hh.cells hT
  have hsz : xs.length * En.sz ≤ cs.size := by rw [hcs]; exact Nat.mul_le_mul_right _ hle
  intro t ht
  have ht' : t < xs.length * En.sz := by simpa using ht
  have htc : t < cs.size := by omega
  constructor
  · have h1 : cs[t]? = some (Go.Sort.flatK En.f En.sz xs.toArray)[t]! := by
      have h2 : (En.all xs)[t]? = some (Go.Sort.flatK En.f En.sz xs.toArray)[t]! := by
        rw [← flat_all, Array.getElem?_toList, Array.getElem?_eq_getElem ht, getElem!_pos _ t ht]
      rw [← htk, List.getElem?_take_of_lt ht', Array.getElem?_toList] at h2
      exact h2
    unfold World.cell?
    simp only [hb, Option.isSome_none, Bool.false_eq_true, if_false, Nat.zero_add]
    exact h1
  · unfold World.frozen?
    simp only [hb]
    rcases hfr with rfl | hfr
    · simp
    · simp only [Bool.and_eq_false_iff, decide_eq_false_iff_not]
      exact .inl (by omega)
theorem row_behind {w : World} {ys : List α} {n : Nat} {os : Array Obj} (hT : decide (e < OBJ) = true) (hh : Holds w b e cs) (hcs : cs.size = cap * En.sz) (hle : xs.length ≤ cap) (hl : ys.length = xs.length) :
    ∃ cs', ExtW w (Go.Proofs.sortWorldK En.f En.sz w b 0 n ys.toArray os) [] [(b, e, cs')] ∧ cs'.size = cap * En.sz ∧ cs'.toList.take (ys.length * En.sz) = En.all ys := by
  obtain ⟨fr, hb, hfr⟩ := hh.cells hT
  have hsz : ys.length * En.sz ≤ cs.size := by rw [hcs, hl]; exact Nat.mul_le_mul_right _ hle
  have hbl : b < w.heap.size := by
    rcases Nat.lt_or_ge b w.heap.size with h | h
    · exact h
    · rw [Array.getElem?_eq_none h] at hb; cases hb
  refine ⟨Go.Sort.putCells id 0 (Go.Sort.flatK En.f En.sz ys.toArray) cs, ⟨rfl, rfl, rfl, ?_, fun k hk hne => ?_, fun x hx => ?_, fun _ h => (nomatch h), ?_⟩, ?_, ?_⟩
  · show w.heap.size ≤ (w.heap.modify b _ ++ os).size
    rw [Array.size_append, Array.size_modify]; omega
  · show (w.heap.modify b _ ++ os)[k]? = _
    rw [Array.getElem?_append, if_pos (by rw [Array.size_modify]; exact hk), Array.getElem?_modify, if_neg (fun h => hne _ (List.mem_singleton.2 rfl) h)]
  · rw [List.mem_singleton] at hx; subst hx
    refine .inl ⟨of_decide_eq_true hT, fr, ?_, ?_⟩
    · show (w.heap.modify b _ ++ os)[b]? = _
      rw [Array.getElem?_append, if_pos (by rw [Array.size_modify]; exact hbl), Array.getElem?_modify, if_pos rfl]
      show (w.heap[b]?).map _ = _
      rw [hb]; rfl
    · rcases hfr with h | h
      · exact .inl h
      · exact .inr (by rw [Go.Sort.putCells, Array.size_mapIdx]; exact h)
  · exact Nat.le_add_right _ _
  · rw [Go.Sort.putCells, Array.size_mapIdx, hcs]
  · rw [← flat_all]
    apply List.ext_getElem?
    intro t
    by_cases ht : t < ys.length * En.sz
    · rw [List.getElem?_take_of_lt ht, Array.getElem?_toList, Array.getElem?_toList, Go.Sort.putCells, Array.getElem?_mapIdx, Array.getElem?_eq_getElem (by omega), Array.getElem?_eq_getElem (by simpa using ht), Option.map_some, if_pos ⟨Nat.zero_le _, by simpa using ht⟩]
      congr 1
      exact getElem!_pos _ t (by simpa using ht)
    · rw [List.getElem?_eq_none (by rw [List.length_take]; omega), List.getElem?_eq_none (by simpa using Nat.not_lt.1 ht)]
theorem perm_in {lt : α → α → Bool} {xs : List α} {d : Array α} (h1 : Go.Sort.PermIn 0 xs.toArray.size xs.toArray d) (hso : Go.Sort.SortedIn lt 0 xs.toArray.size d) : d.toList.Perm xs ∧ ∀ i j (_ : i < j) (hj : j < d.toList.length), lt d.toList[j] d.toList[i] = false := by
  obtain ⟨hs, _, hp⟩ := h1
  refine ⟨?_, fun i j hij hj => ?_⟩
  · rw [Array.extract_size] at hp
    rw [← hs, Array.extract_size] at hp
    exact hp
  · have hj' : j < d.size := by simpa using hj
    have := hso i j (Nat.zero_le _) hij (by rw [← hs]; exact hj')
    rw [getElem!_pos d j hj', getElem!_pos d i (by omega)] at this
    exact this
theorem sortI_perm (cf : α → α → Int) (hO : Go.Sort.SWO (Go.Proofs.ltOf cf)) (xs : List α) : (sortI cf xs).Perm xs ∧ ∀ i j (_ : i < j) (hj : j < (sortI cf xs).length), Go.Proofs.ltOf cf ((sortI cf xs)[j]) ((sortI cf xs)[i]) = false :=
  have h := Go.Sort.pdq_sorts (Go.Proofs.ltOf cf) hO xs.toArray 0 xs.toArray.size (Lib.bitLen xs.toArray.size) true true (Nat.zero_le _) (Nat.le_refl _) (Or.inl rfl)
  perm_in h.1 h.2
/-- The call, over a row in blocks of its own. -/
theorem does_sort {P : Program} {f g : FuncId} (cf : α → α → Int) (hO : Go.Sort.SWO (Go.Proofs.ltOf cf))
    (hcall : ∀ (blk cap : Nat) (d : Array α) (w : World), Go.Proofs.CmpLays P g #[] En.f En.sz cf blk 0 d.size w → Go.Sort.HoldsK En.f En.sz w blk 0 d → blk < w.heap.size → d.size < 4611686018427387904 →
      Calls P f #[.slice (some ⟨blk, 0, none⟩) d.size cap, .func (.func g) #[] #[]] w fun e w' => e = .returned (.tuple #[]) ∧ ∃ n os, w' = Go.Proofs.sortWorldK En.f En.sz w blk 0 n (Go.Sort.pdq (Go.Proofs.ltOf cf) d 0 d.size (Lib.bitLen d.size) true true) os)
    (hnone : ∀ p cap w, Calls P f #[.slice p 0 cap, .func (.func g) #[] #[]] w fun e w' => e = .returned (.tuple #[]) ∧ w' = w)
    (hg : ∀ x y, Gives P g #[.agg (En.f x).toArray, .agg (En.f y).toArray] (.int .i64 (cf x y))) (hT : decide (e < OBJ) = true)
    (xs : List α) (hl : xs.length < 4611686018427387904) (xv : Value) (S : List Bl) (hS : Sl e En xv xs S) (ro : Addr → Option Value) :
    Does P f #[xv, .func (.func g) #[] #[]] ro (List.flatten [S]) (pO (List.flatten [S]) (oI e En xv (sortI cf xs) (oE (.tuple #[]) []))) := by
  have hlen : (sortI cf xs).length = xs.length := (sortI_perm cf hO xs).1.length_eq
  intro w _ _ hfo _
  rcases hS with ⟨a, rfl, rfl, rfl⟩ | ⟨b, cap, cs, rfl, hle, hcs, htk, rfl⟩
  · refine (hnone _ _ w).mono fun e' w' ⟨h1, h2⟩ => ?_
    subst h2
    refine ⟨_, [], [], h1, ⟨rfl, rfl, rfl, Nat.le_refl _, fun _ _ _ => rfl, fun _ h => (nomatch h), fun _ h => (nomatch h), Nat.le_refl _⟩, rfl, List.nodup_nil, [[]], ⟨[], [], .inl ⟨a, rfl, List.length_eq_zero_iff.1 hlen, rfl⟩, ⟨rfl, rfl⟩, rfl⟩, Sub.nil _⟩
  · have hh : Holds w b e cs := hfo (b, e, cs) (by simp)
    have hbl : b < w.heap.size := hh.lt
    have hcmp : Go.Proofs.CmpLays P g #[] En.f En.sz cf b 0 xs.toArray.size w := fun m os dk _ x y => by
      refine (hg x y _).mono fun e' w' ⟨h1, h2⟩ => ⟨h1, h2.grown⟩
    have := hcall b cap xs.toArray w hcmp (row_holds hT hh hcs hle htk) hbl (by simpa using hl)
    refine this.mono fun e' w' ⟨h1, n, os, h2⟩ => ?_
    obtain ⟨cs', hx, hcs', htk'⟩ := row_behind (En := En) (ys := sortI cf xs) (n := n) (os := os) hT hh hcs hle hlen
    have h2' : w' = Go.Proofs.sortWorldK En.f En.sz w b 0 n (sortI cf xs).toArray os := h2
    rw [← h2'] at hx
    refine ⟨_, [], [(b, e, cs')], h1, hx, rfl, List.nodup_nil, [[(b, e, cs')]], ⟨[(b, e, cs')], [], .inr ⟨b, cap, cs', ?_, by omega, hcs', htk', rfl⟩, ⟨rfl, rfl⟩, rfl⟩, ?_⟩
    · rw [hlen]
    · exact Sub.of (List.Sublist.refl _)
end
end Go.Eng
