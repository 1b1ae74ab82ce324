/- Laws whose calls look into the library's own variables, with rows that came in. Conditions: none but those written. -/
import Derived.Test.YtdgejbbelmhbdaaDoorLr
import Derived.Test.YtdgejbbelmhbdaaDoorLm
namespace Go.Eng
open Go Go.RowKit Go.ChangeShapes Go.WideShapes Go.ChangeAt Go.Joins Go.Deep
theorem doesI_runR {P : Program} {f : FuncId} {args : Array Value} {inv : World → Prop} {v : Value} {w : World} (h : DoesI P f args inv (fun a => w.cell? a) [] (pV v)) (hi : inv w) : Calls P f args w fun e w' => e = .returned v ∧ Below w.heap.size w w' :=
  (h w hi (fun _ _ ha => ⟨ha, by simp⟩) (fun _ hx => (nomatch hx)) List.nodup_nil).mono fun e w' ⟨v', L, U, h1, h2, h3⟩ => by
    obtain ⟨rfl, rfl, rfl⟩ := h3
    exact ⟨h1, h2.os, h2.tape, h2.output, h2.size, fun k hk => h2.same k hk (fun _ hx => (nomatch hx))⟩
end Go.Eng
