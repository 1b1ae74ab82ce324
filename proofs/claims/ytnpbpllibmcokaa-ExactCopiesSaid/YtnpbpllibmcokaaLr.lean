/- Rows that came in, and calls of laws that read memory. Conditions: none. -/
import Derived.Test.YtnpbpllibmcokaaYt
import Derived.Test.YtnpbpllibmcokaaLp
import Derived.Test.YtnpbpllibmcokaaLq
import Derived.Deep.Slices
namespace Go.Eng
open Go Go.RowKit Go.ChangeShapes Go.WideShapes Go.ChangeAt Go.Joins Go.Deep
theorem does_run {P : Program} {f : FuncId} {args : Array Value} {v : Value} {w : World} (h : Does P f args (fun a => w.cell? a) [] (pV v)) : Calls P f args w fun e w' => e = .returned v ∧ Below w.heap.size w w' :=
  (h w trivial (fun _ _ ha => ⟨ha, by simp⟩) (fun _ hx => (nomatch hx)) List.nodup_nil).mono fun e w' ⟨v', L, U, h1, h2, h3⟩ => by
    obtain ⟨rfl, rfl, rfl⟩ := h3
    exact ⟨h1, h2.os, h2.tape, h2.output, h2.size, fun k hk => h2.same k hk (fun _ hx => (nomatch hx))⟩
section
variable {H : Type} {enc : TypeId × Value → H} {P : Program} {W : World} {base : Nat} {held : Bool} {r : Reach} {b0 : Nat} {t e : TypeId} {v : Value} {d : DataW H} {p : List MemPlace}
theorem cell_spot {a : Addr} {u : Value} (h : W.cell? a = some u) : a.spot = none := by
  unfold World.cell? at h
  split at h
  · split at h
    · cases h
    · rename_i hs; simpa using hs
  · cases h
/-- What a slice that came in holds, element by element. -/
theorem rows_of_trod {α : Type} [Inhabited α] {sz : Nat} (hsz : 0 < sz) (R : α → List Value → Prop) (ht : P.underlying t = some (.slice e)) (hc : P.cellsOf e = sz)
    (hO : ∀ n cs y, DataW.trod enc P W base (fun _ => true) held n e cs = some y → ∃ x, R x cs) {fuel : Nat} {cs : List Value} {x : DataW H × List MemPlace} (h : DataW.trod enc P W base (fun _ => true) held fuel t cs = some x) :
    ∃ (s : Value) (xs : List α), cs = [s] ∧ ((s = .slice none 0 0 ∧ xs = []) ∨ ∃ a cap, s = .slice (some a) xs.length cap ∧ (0 < cap → a.spot = none) ∧ xs.length ≤ cap ∧
      ∀ i y, xs[i]? = some y → ∃ vs, R y vs ∧ vs.length = sz ∧ ∀ j u, vs[j]? = some u → W.cell? ⟨a.block, a.off + (i * sz + j), none⟩ = some u) := by
  rcases open_slice ht h with ⟨rfl, _⟩ | ⟨a, len, cap, m, n, D, Pl, rfl, hb, hl, hm, hmm, _, hx⟩
  · exact ⟨_, [], rfl, .inl ⟨rfl, rfl⟩⟩
  · have hmm' : m = cap := by simpa using hmm
    subst hmm'
    have hsp : 0 < m → a.spot = none := fun h0 => by
      obtain ⟨cs', h1, _⟩ := hx 0 h0
      obtain ⟨_, h2, h3⟩ := World.cells?_some h1
      rw [hc] at h2 h3
      have := h3 0 hsz
      rw [Nat.zero_mul] at this
      have e1 : (a.add 0).add 0 = a := by simp [Addr.add]
      rw [e1, List.getElem?_eq_getElem (by omega)] at this
      exact cell_spot this
    obtain ⟨F, hF⟩ := choose_lt (α := α) (n := m) (p := fun i y => ∃ vs, R y vs ∧ vs.length = sz ∧ ∀ j u, vs[j]? = some u → W.cell? ⟨a.block, a.off + (i * sz + j), none⟩ = some u) (fun i hi => by
      obtain ⟨cs', h1, h2⟩ := hx i hi
      obtain ⟨y, hy⟩ := hO n cs' _ h2
      obtain ⟨_, h4, h3⟩ := World.cells?_some h1
      rw [hc] at h3 h4
      refine ⟨y, cs', hy, h4, fun j u hj => ?_⟩
      have hj' : j < sz := by rw [← h4]; exact (List.getElem?_eq_some_iff.1 hj).1
      have h5 := h3 j hj'
      rw [add_add, add_none (hsp (by omega)), hj] at h5
      exact h5)
    refine ⟨_, (List.range len).map F, rfl, .inr ⟨a, m, by simp, hsp, by simpa using hl, fun i y hy => ?_⟩⟩
    have hi : i < len := by
      have := (List.getElem?_eq_some_iff.1 hy).1
      simpa using this
    have : y = F i := by
      simp [hi] at hy
      exact hy.symm
    subst this
    exact hF i (by omega)
theorem rd_of_trod {α : Type} [Inhabited α] (E : Enc α) (ht : P.underlying t = some (.slice e)) (hc : P.cellsOf e = E.sz)
    (hO : ∀ n cs y, DataW.trod enc P W base (fun _ => true) held n e cs = some y → ∃ x, cs = E.f x) {fuel : Nat} {cs : List Value} {x : DataW H × List MemPlace} (h : DataW.trod enc P W base (fun _ => true) held fuel t cs = some x) :
    ∃ (s : Value) (xs : List α), cs = [s] ∧ Rd E (fun a => W.cell? a) s xs := by
  obtain ⟨s, xs, h1, h2⟩ := rows_of_trod (sz := E.sz) E.pos (fun x cs => cs = E.f x) ht hc hO h
  refine ⟨s, xs, h1, ?_⟩
  rcases h2 with h2 | ⟨a, cap, h2, h3, h4, h5⟩
  · exact .inl h2
  · refine .inr ⟨a, cap, h2, h3, h4, fun k u hk => ?_⟩
    have hk2 : k < xs.length * E.sz := by rw [← E.all_len]; exact (List.getElem?_eq_some_iff.1 hk).1
    have hi : k / E.sz < xs.length := Nat.div_lt_of_lt_mul (by rw [Nat.mul_comm]; exact hk2)
    obtain ⟨vs, h6, _, h7⟩ := h5 (k / E.sz) _ (List.getElem?_eq_getElem hi)
    subst h6
    have hj : k % E.sz < (E.f xs[k / E.sz]).length := by rw [E.len]; exact Nat.mod_lt _ E.pos
    have h8 := E.all_get (List.getElem?_eq_getElem hi) (k % E.sz) _ (List.getElem?_eq_getElem hj)
    have e1 : k / E.sz * E.sz + k % E.sz = k := by rw [Nat.mul_comm]; exact Nat.div_add_mod k E.sz
    have h9 := h7 (k % E.sz) _ (List.getElem?_eq_getElem hj)
    rw [e1] at h8 h9
    rw [h8] at hk
    cases hk
    exact h9
theorem rdn_of_trod {α : Type} [Inhabited α] (E : EncR α) (ht : P.underlying t = some (.slice e)) (hc : P.cellsOf e = E.sz)
    (hO : ∀ n cs y, DataW.trod enc P W base (fun _ => true) held n e cs = some y → ∃ x, E.R (fun a => W.cell? a) x cs) {fuel : Nat} {cs : List Value} {x : DataW H × List MemPlace} (h : DataW.trod enc P W base (fun _ => true) held fuel t cs = some x) :
    ∃ (s : Value) (xs : List α), cs = [s] ∧ RdN E (fun a => W.cell? a) s xs := by
  obtain ⟨s, xs, h1, h2⟩ := rows_of_trod (sz := E.sz) E.pos (fun x cs => E.R (fun a => W.cell? a) x cs) ht hc hO h
  refine ⟨s, xs, h1, ?_⟩
  rcases h2 with h2 | ⟨a, cap, h2, h3, h4, h5⟩
  · exact .inl h2
  · exact .inr ⟨a, cap, h2, h3, h4, fun i y hy => by obtain ⟨vs, h6, _, h7⟩ := h5 i y hy; exact ⟨vs, h6, h7⟩⟩
/-- An argument that is a slice is one cell. -/
theorem arg_slice {Q : Value → Prop} (ht : P.underlying t = some (.slice e)) (hv : Value.okWide P W r b0 t v) (h : DataW.Trod enc P W base (fun _ => true) held t v d p)
    (hq : ∀ fuel cs y, DataW.trod enc P W base (fun _ => true) held fuel t cs = some y → ∃ s, cs = [s] ∧ Q s) : Q v := by
  obtain ⟨a, len, cap, rfl⟩ := okWide_slice ht hv
  obtain ⟨fuel, hf⟩ := h
  obtain ⟨s, h1, h2⟩ := hq fuel _ _ hf
  simp [Value.cells] at h1
  rw [h1]; exact h2
/-- An argument that is a struct is its cells. -/
theorem arg_struct {fs : Array Field} {Q : List Value → Prop} (ht : P.underlying t = some (.struct fs)) (hv : Value.okWide P W r b0 t v) (h : DataW.Trod enc P W base (fun _ => true) held t v d p)
    (hq : ∀ fuel cs y, DataW.trod enc P W base (fun _ => true) held fuel t cs = some y → Q cs) : ∃ cs : List Value, v = .agg ⟨cs⟩ ∧ Q cs := by
  have hv' := hv
  simp only [Value.okWide, ht] at hv'
  obtain ⟨cs, rfl, _, _⟩ := hv'
  obtain ⟨fuel, hf⟩ := h
  exact ⟨cs.toList, rfl, hq fuel _ _ hf⟩
theorem u8_of_wf {a : Int} (h : (Lit.int .u8 a).wf = true) : ∃ x : UInt8, a = ((x.toNat : Nat) : Int) := by
  simp [Lit.wf, IntKind.min, IntKind.max, IntKind.signed, IntKind.bits] at h
  refine ⟨UInt8.ofNat a.toNat, ?_⟩
  rw [UInt8.toNat_ofNat']; omega
end
theorem i32_of_wf {a : Int} (h : (Lit.int .i32 a).wf = true) : -2147483648 ≤ a ∧ a ≤ 2147483647 := by
  simp [Lit.wf, IntKind.min, IntKind.max, IntKind.signed, IntKind.bits] at h
  omega
end Go.Eng
