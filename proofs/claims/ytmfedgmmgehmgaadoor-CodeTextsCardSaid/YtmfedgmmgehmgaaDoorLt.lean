/- Laws whose calls look into the library's own variables, with rows that came in. Conditions: none but those written. -/
import Derived.Test.YtmfedgmmgehmgaaDoorLr
import Derived.Test.YtmfedgmmgehmgaaDoorLm
namespace Go.Eng
open Go Go.RowKit Go.ChangeShapes Go.WideShapes Go.ChangeAt Go.Joins Go.Deep
theorem doesI_runR {P : Program} {f : FuncId} {args : Array Value} {inv : World → Prop} {v : Value} {w : World} (h : DoesI P f args inv (fun a => w.cell? a) [] (pV v)) (hi : inv w) : Calls P f args w fun e w' => e = .returned v ∧ Below w.heap.size w w' :=
  (h w hi (fun _ _ ha => ⟨ha, by simp⟩) (fun _ hx => (nomatch hx)) List.nodup_nil).mono fun e w' ⟨v', L, U, h1, h2, h3⟩ => by
    obtain ⟨rfl, rfl, rfl⟩ := h3
    exact ⟨h1, h2.os, h2.tape, h2.output, h2.size, fun k hk => h2.same k hk (fun _ hx => (nomatch hx))⟩
/-- What a slice that came in holds, element by element, with what is known of each. -/
theorem rd_of_trodP {H : Type} {enc : TypeId × Value → H} {P : Program} {W : World} {base : Nat} {held : Bool} {t e : TypeId} {α : Type} [Inhabited α] (E : Enc α) (p : α → Prop) (ht : P.underlying t = some (.slice e)) (hc : P.cellsOf e = E.sz)
    (hO : ∀ n cs y, DataW.trod enc P W base (fun _ => true) held n e cs = some y → ∃ x, p x ∧ cs = E.f x) {fuel : Nat} {cs : List Value} {x : DataW H × List MemPlace} (h : DataW.trod enc P W base (fun _ => true) held fuel t cs = some x) :
    ∃ (s : Value) (xs : List α), cs = [s] ∧ (∀ x ∈ xs, p x) ∧ Rd E (fun a => W.cell? a) s xs := by
  obtain ⟨s, xs, h1, h2⟩ := rows_of_trod (sz := E.sz) E.pos (fun x cs => p x ∧ cs = E.f x) ht hc hO h
  refine ⟨s, xs, h1, ?_⟩
  rcases h2 with h2 | ⟨a, cap, h2, h3, h4, h5⟩
  · exact ⟨fun x hx => (by rw [h2.2] at hx; cases hx), .inl h2⟩
  · refine ⟨fun x hx => ?_, .inr ⟨a, cap, h2, h3, h4, fun k u hk => ?_⟩⟩
    · obtain ⟨i, hi⟩ := List.getElem?_of_mem hx
      obtain ⟨_, h6, _⟩ := h5 i x hi
      exact h6.1
    have hk2 : k < xs.length * E.sz := by rw [← E.all_len]; exact (List.getElem?_eq_some_iff.1 hk).1
    have hi : k / E.sz < xs.length := Nat.div_lt_of_lt_mul (by rw [Nat.mul_comm]; exact hk2)
    obtain ⟨vs, ⟨_, h6⟩, _, h7⟩ := h5 (k / E.sz) _ (List.getElem?_eq_getElem hi)
    subst h6
    have hj : k % E.sz < (E.f xs[k / E.sz]).length := by rw [E.len]; exact Nat.mod_lt _ E.pos
    have h8 := E.all_get (List.getElem?_eq_getElem hi) (k % E.sz) _ (List.getElem?_eq_getElem hj)
    have e1 : k / E.sz * E.sz + k % E.sz = k := by rw [Nat.mul_comm]; exact Nat.div_add_mod k E.sz
    have h9 := h7 (k % E.sz) _ (List.getElem?_eq_getElem hj)
    rw [e1] at h8 h9
    rw [h8] at hk
    cases hk
    exact h9
end Go.Eng
