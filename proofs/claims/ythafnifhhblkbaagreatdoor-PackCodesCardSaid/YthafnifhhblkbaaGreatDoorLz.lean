import Derived.Test.YthafnifhhblkbaaGreatDoorLt
import Derived.SizedLaws
namespace Go.Eng
open Go Go.RowKit Go.ChangeShapes Go.WideShapes Go.ChangeAt Go.Joins Go.Deep
section
variable {H : Type} {enc : TypeId × Value → H} {P : Program} {W : World} {base : Nat} {held : Bool} {r : Reach} {b0 : Nat} {t e : TypeId} {v : Value} {d : DataW H} {p : List MemPlace}
def Sd (P : Program) (t : TypeId) (d : DataW H) : Prop := ∀ n ∈ d.weights P t, n ≤ reachBytes
theorem br {ts : List TypeId} {ds : List (DataW H)} (h : (DataW.weightsEach P ts ds).all (· ≤ reachBytes) = true) {j : Nat} (ht : ts[j]? = some t) (hd : ds[j]? = some d) : Sd P t d :=
 fun n hn => by simpa using List.all_eq_true.1 h _ (DataW.weights_mem_each ht hd n hn)
theorem bq {fs : Array Field} {parts : List (DataW H)} (ht : P.underlying t = some (.struct fs)) (h : Sd P t (.agg parts)) {i : Nat} {ft : TypeId} (hi : (fs.toList.map (·.type))[i]? = some ft) (hp : parts[i]? = some d) : Sd P ft d :=
 fun n hn => h n (by rw [DataW.weights]; simp only [ht]; exact DataW.weights_mem_each hi hp n hn)
theorem fz {enc : TypeId × Value → H} {W : World} {fs : Array Field} {f : Field} {R : Prop} {n : Nat} {cs : List Value} {xs : List (DataW H × List MemPlace)} (ht : P.underlying t = some (.struct fs)) (hz : Sd P t (.agg (xs.map (·.1)))) (hlen : xs.length = fs.size)
  (hf : ∀ (i : Nat) (f : Field), fs[i]? = some f → DataW.trod enc P W 0 (fun _ => true) true n f.type ((cs.drop f.offset).take (P.cellsOf f.type)) = xs[i]?) (i : Nat) (cs' : List Value) {m : Nat} (hi : fs[i]? = some f) (hc : P.cellsOf f.type = m) (hcs : (cs.drop f.offset).take m = cs')
  (O : ∀ {y : DataW H × List MemPlace}, DataW.trod enc P W 0 (fun _ => true) true n f.type cs' = some y → Sd P f.type y.1 → R) : R := by
 have h1 : i < xs.length := by rw [hlen]; exact (Array.getElem?_eq_some_iff.1 hi).1
 have h2 := hf i f hi
 rw [hc, hcs, List.getElem?_eq_getElem h1] at h2
 exact O h2 (bq ht hz (i := i) (by rw [List.getElem?_map, Array.getElem?_toList, hi]; rfl) (by rw [List.getElem?_map, List.getElem?_eq_getElem h1]; rfl))
theorem MT {l : List (DataW H)} (hm : d ∈ l) {n : Nat} (hn : n ∈ d.weights P e) : n ∈ DataW.weightsAll P e l := by
 induction l with
 | nil => cases hm
 | cons x l ih =>
  rw [DataW.weightsAll, List.mem_append]
  rcases List.mem_cons.1 hm with h | h
  ·subst h; exact .inl hn
  ·exact .inr (ih h)
theorem Tf {α : Type} [Inhabited α] {sz : Nat} (hsz : 0 < sz) (R : α → List Value → Prop) (ht : P.underlying t = some (.slice e)) (hc : P.cellsOf e = sz)
  (hO : ∀ n cs y, DataW.trod enc P W base (fun _ => true) held n e cs = some y → Sd P e y.1 → ∃ x, R x cs) {fuel : Nat} {cs : List Value} {x : DataW H × List MemPlace} (h : DataW.trod enc P W base (fun _ => true) held fuel t cs = some x) (hz : Sd P t x.1) :
  ∃ (s : Value) (xs : List α), cs = [s] ∧ xs.length * P.bytesOf e ≤ reachBytes ∧ ((s = .slice none 0 0 ∧ xs = []) ∨ ∃ a cap, s = .slice (some a) xs.length cap ∧ (0 < cap → a.spot = none) ∧ xs.length ≤ cap ∧
   ∀ i y, xs[i]? = some y → ∃ vs, R y vs ∧ vs.length = sz ∧ ∀ j u, vs[j]? = some u → W.cell? ⟨a.block, a.off + (i * sz + j), none⟩ = some u) := by
 rcases open_slice ht h with ⟨rfl, _⟩ | ⟨a, len, cap, m, n, D, Pl, rfl, hb, hl, hm, hmm, hxx, hx⟩
 ·exact ⟨_, [], rfl, by rw [List.length_nil, Nat.zero_mul]; exact Nat.zero_le _, .inl ⟨rfl, rfl⟩⟩
 ·have hmm' : m = cap := by simpa using hmm
  subst hmm'
  have hw : ∀ k, k ∈ ((len + (m - len)) * P.bytesOf e :: (DataW.weightsAll P e ((List.range len).map D) ++ DataW.weightsAll P e ((List.range (m - len)).map fun j => D (len + j)))) → k ≤ reachBytes := fun k hk => hz k (by
   rw [hxx, DataW.weights]; simp only [ht, List.length_map, List.length_range]; exact hk)
  have hlm : len ≤ m := by simpa using hl
  have hel : ∀ i, i < m → Sd P e (D i) := fun i hi k hk => hw k (by
   refine List.mem_cons_of_mem _ (List.mem_append.2 ?_)
   by_cases h1 : i < len
   ·exact .inl (MT (List.mem_map.2 ⟨i, List.mem_range.2 h1, rfl⟩) hk)
   ·exact .inr (MT (List.mem_map.2 ⟨i - len, List.mem_range.2 (by omega), by rw [Nat.add_sub_cancel' (by omega)]⟩) hk))
  have hsp : 0 < m → a.spot = none := fun h0 => by
   obtain ⟨cs', h1, _⟩ := hx 0 h0
   obtain ⟨_, h2, h3⟩ := World.cells?_some h1
   rw [hc] at h2 h3
   have := h3 0 hsz
   rw [Nat.zero_mul] at this
   have e1 : (a.add 0).add 0 = a := by simp [Addr.add]
   rw [e1, List.getElem?_eq_getElem (by omega)] at this
   exact aP this
  obtain ⟨F, hF⟩ := choose_lt (α := α) (n := m) (p := fun i y => ∃ vs, R y vs ∧ vs.length = sz ∧ ∀ j u, vs[j]? = some u → W.cell? ⟨a.block, a.off + (i * sz + j), none⟩ = some u) (fun i hi => by
   obtain ⟨cs', h1, h2⟩ := hx i hi
   obtain ⟨y, hy⟩ := hO n cs' _ h2 (hel i hi)
   obtain ⟨_, h4, h3⟩ := World.cells?_some h1
   rw [hc] at h3 h4
   refine ⟨y, cs', hy, h4, fun j u hj => ?_⟩
   have hj' : j < sz := by rw [← h4]; exact (List.getElem?_eq_some_iff.1 hj).1
   have h5 := h3 j hj'
   rw [add_add, Dw (hsp (by omega)), hj] at h5
   exact h5)
  refine ⟨_, (List.range len).map F, rfl, ?_, .inr ⟨a, m, by simp, hsp, by simpa using hl, fun i y hy => ?_⟩⟩
  ·rw [List.length_map, List.length_range]
   exact Nat.le_trans (Nat.mul_le_mul_right _ (Nat.le_add_right len (m - len))) (hw _ (List.mem_cons_self ..))
  have hi : i < len := by
   have := (List.getElem?_eq_some_iff.1 hy).1
   simpa using this
  have : y = F i := by
   simp [hi] at hy
   exact hy.symm
  subst this
  exact hF i (by omega)
theorem Qe {α : Type} [Inhabited α] (E : Enc α) (q : α → Prop) {b : Nat} (ht : P.underlying t = some (.slice e)) (hc : P.cellsOf e = E.sz) (hb : P.bytesOf e = b)
  (hO : ∀ n cs y, DataW.trod enc P W base (fun _ => true) held n e cs = some y → Sd P e y.1 → ∃ x, q x ∧ cs = E.f x) {fuel : Nat} {cs : List Value} {x : DataW H × List MemPlace} (h : DataW.trod enc P W base (fun _ => true) held fuel t cs = some x) (hz : Sd P t x.1) :
  ∃ (s : Value) (xs : List α), cs = [s] ∧ (xs.length * b ≤ reachBytes ∧ ∀ x ∈ xs, q x) ∧ Rd E (fun a => W.cell? a) s xs := by
 obtain ⟨s, xs, h1, hl, h2⟩ := Tf (sz := E.sz) E.pos (fun x cs => q x ∧ cs = E.f x) ht hc hO h hz
 rw [hb] at hl
 refine ⟨s, xs, h1, ⟨hl, ?_⟩, ?_⟩
 ·rcases h2 with h2 | ⟨a, cap, h2, h3, h4, h5⟩
  ·rw [h2.2]; intro x hx; cases hx
  ·intro x hx
   obtain ⟨i, hi⟩ := List.getElem?_of_mem hx
   obtain ⟨_, h6, _⟩ := h5 i x hi
   exact h6.1
 rcases h2 with h2 | ⟨a, cap, h2, h3, h4, h5⟩
 ·exact .inl h2
 ·refine .inr ⟨a, cap, h2, h3, h4, fun k u hk => ?_⟩
  have hk2 : k < xs.length * E.sz := by rw [← E.all_len]; exact (List.getElem?_eq_some_iff.1 hk).1
  have hi : k / E.sz < xs.length := Nat.div_lt_of_lt_mul (by rw [Nat.mul_comm]; exact hk2)
  obtain ⟨vs, ⟨_, h6⟩, _, h7⟩ := h5 (k / E.sz) _ (List.getElem?_eq_getElem hi)
  subst h6
  have hj : k % E.sz < (E.f xs[k / E.sz]).length := by rw [E.len]; exact Nat.mod_lt _ E.pos
  have h8 := E.all_get (List.getElem?_eq_getElem hi) (k % E.sz) _ (List.getElem?_eq_getElem hj)
  have e1 : k / E.sz * E.sz + k % E.sz = k := by rw [Nat.mul_comm]; exact Nat.div_add_mod k E.sz
  have h9 := h7 (k % E.sz) _ (List.getElem?_eq_getElem hj)
  rw [e1] at h8 h9
  rw [h8] at hk
  cases hk
  exact h9
theorem ST {Q : Value → Prop} (ht : P.underlying t = some (.slice e)) (hv : Value.okWide P W r b0 t v) (h : DataW.Trod enc P W base (fun _ => true) held t v d p) (hz : Sd P t d)
  (hq : ∀ fuel cs y, DataW.trod enc P W base (fun _ => true) held fuel t cs = some y → Sd P t y.1 → ∃ s, cs = [s] ∧ Q s) : Q v := by
 obtain ⟨a, len, cap, rfl⟩ := okWide_slice ht hv
 obtain ⟨fuel, hf⟩ := h
 obtain ⟨s, h1, h2⟩ := hq fuel _ _ hf hz
 simp [Value.cells] at h1
 rw [h1]; exact h2
end
end Go.Eng
