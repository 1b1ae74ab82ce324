/-
  DERIVED. GIVEN WITH THE SEED: THE CARDS: each row of YtjnanfkpdhmnpaaGreatDoorRows.lean that lists a variable, with what it lists TIED to the program's text (the seventh form; the later family's looks); each row that meets fmt, with fmt's text TOLD by the authors' own Lean function (tested against real Go, not proved from fmt's source: count such statements apart). THE CARD IS WHAT COUNTS. Prove the row's statement (the work); the ties are given (YtjnanfkpdhmnpaaGreatDoorTie.lean); close each card by the builder's one call (the guide's Derived/Test/ToyasCard.lean, 'card_holds'). Laid BY PROGRAM, IN A SANDBOX (cutbox-door.mjs). By AI agents, Wed Nov 11 2026. No macro, syntax, notation, axiom, sorry.
-/
import Derived.Test.YtjnanfkpdhmnpaaGreatDoorRows
import GoSem.ClaimSeven
namespace Go.Proofs.YtjnanfkpdhmnpaaGreatDoor
namespace Rows

/-- THE TIED CARD OF 'shunterlaw17.PathsLess'. -/
def pathsLessCard : Claim7 := { stood := { row := pathsLessRow, standIns := [], harness := (true, "131f65b321a19ab5d3703fc69c1ba00a0c84ec8a29d88b972924e069f78db0e8"), looks := true }, kinds := [], alts := [], laidByText := true, laidKinds := [.data], laidTests := true, laidLooks := .later }
def PathsLessCardSaid : Prop := Claim7.holds Tryz.pinned (.plain (OpenSpec.ofChange pathsLessSpec)) pathsLessCard

/-- THE SECOND FORM's CARD OF 'shunterlaw17.PathsLess'. -/
def pathsLessUptoCard : Claim7 := { stood := { row := pathsLessUptoRow, standIns := [], harness := (true, "131f65b321a19ab5d3703fc69c1ba00a0c84ec8a29d88b972924e069f78db0e8"), looks := true }, kinds := [], alts := [], laidByText := true, laidKinds := [.data], laidTests := true, laidLooks := .later }
def PathsLessUptoCardSaid : Prop := Claim7.holds Tryz.pinned (.plain (OpenSpec.upto pathsLessSpec)) pathsLessUptoCard
end Rows
end Go.Proofs.YtjnanfkpdhmnpaaGreatDoor
