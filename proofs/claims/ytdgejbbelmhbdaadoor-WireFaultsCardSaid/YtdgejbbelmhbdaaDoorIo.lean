/- Calls of the library that look into its own variables, told for the engine. Conditions: none; each theorem names what it asks of memory. -/
import Derived.Test.YtdgejbbelmhbdaaDoorSr
import Derived.Test.YtdgejbbelmhbdaaDoorShelf
namespace Go.Proofs.YtdgejbbelmhbdaaDoor
open Go Go.RowKit Go.Eng Go.Sort
/-- What such calls ask of memory: the powers of ten. -/
def MemI (w : World) : Prop := Lib.TabIs Tryd.prog w "internal/strconv.uint64pow10" .u64 Lib.pow10Tab ∧ True
theorem var_kept {P : Program} {w w' : World} {name : String} {cs : Array Value} (h : w.var? P name = some cs) (hk : ∀ k, k < w.heap.size → w'.heap[k]? = w.heap[k]?) : w'.var? P name = some cs := by
  unfold World.var? at h ⊢
  cases hg : P.globalNamed name with
  | none => simp [hg] at h
  | some g =>
    simp only [hg, Option.bind_some] at h ⊢
    rcases Nat.lt_or_ge g w.heap.size with h1 | h1
    · rw [hk g h1]; exact h
    · rw [Array.getElem?_eq_none h1] at h; cases h
theorem memI_kept (w w' : World) (h : MemI w) (hk : Kept w.heap.size (([] : List Bl).map (·.1)) w w') : MemI w' :=
  ⟨var_kept h.1 (fun k hlt => hk.block k hlt (by simp)), trivial⟩
theorem ext_below {w w' : World} (h : Below w.heap.size w w') : ExtW w w' [] [] := ⟨h.os, h.tape, h.output, h.size, fun k hk _ => h.block k hk, fun _ h => (nomatch h), fun _ h => (nomatch h)⟩
theorem below_grw (w : World) (k : Nat) (os : Array Obj) : Below w.heap.size w (grow (w.drewN k) os) := ⟨rfl, rfl, rfl, by simp [grow], fun j hj => by
  show (w.heap ++ os)[j]? = _
  rw [Array.getElem?_append, if_pos hj]⟩
theorem itoa_i (n : Int) (h : -9223372036854775808 ≤ n ∧ n ≤ 9223372036854775807) (ro : Addr → Option Value) : DoesI Tryd.prog 34 #[Value.int .i64 n] MemI ro [] (pV (Value.string (⟨(Lib.itoa n).toArray⟩))) := fun w hi _ _ _ =>
  (Tryd.strconv_Itoa n h.1 h.2 w hi.1).mono fun _ _ ⟨he, k, os, hw⟩ => ⟨_, [], [], he, ext_below (hw ▸ below_grw w k os), rfl, rfl, rfl⟩
end Go.Proofs.YtdgejbbelmhbdaaDoor
