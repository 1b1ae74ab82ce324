/-
  DERIVED. GIVEN WITH THE SEED: THE CARDS: each row of YtoolcgbcfgnipaaGreatDoorRows.lean that lists a variable, with what it lists TIED to the program's text (the seventh form; the later family's looks); each row that meets fmt, with fmt's text TOLD by the authors' own Lean function (tested against real Go, not proved from fmt's source: count such statements apart). THE CARD IS WHAT COUNTS. Prove the row's statement (the work); the ties are given (YtoolcgbcfgnipaaGreatDoorTie.lean); close each card by the builder's one call (the guide's Derived/Test/ToyasCard.lean, 'card_holds'). Laid BY PROGRAM, IN A SANDBOX (cutbox-door.mjs). By AI agents, Wed Nov 11 2026. No macro, syntax, notation, axiom, sorry.
-/
import Derived.Test.YtoolcgbcfgnipaaGreatDoorRows
import GoSem.ClaimSeven
namespace Go.Proofs.YtoolcgbcfgnipaaGreatDoor
namespace Rows

/-- THE TIED CARD OF 'shunterlaw15.FlowLess'. -/
def flowLessCard : Claim7 := { stood := { row := flowLessRow, standIns := [], harness := (true, "7c2f166c638ba25f6c276dc98409303dd723486a924a4b4c55a0744aa2c56f65"), looks := true }, kinds := [], alts := [], laidByText := true, laidKinds := [.data], laidTests := true, laidLooks := .later }
def FlowLessCardSaid : Prop := Claim7.holds Tryz.pinned (.plain (OpenSpec.ofChange flowLessSpec)) flowLessCard

/-- THE SECOND FORM's CARD OF 'shunterlaw15.FlowLess'. -/
def flowLessUptoCard : Claim7 := { stood := { row := flowLessUptoRow, standIns := [], harness := (true, "7c2f166c638ba25f6c276dc98409303dd723486a924a4b4c55a0744aa2c56f65"), looks := true }, kinds := [], alts := [], laidByText := true, laidKinds := [.data], laidTests := true, laidLooks := .later }
def FlowLessUptoCardSaid : Prop := Claim7.holds Tryz.pinned (.plain (OpenSpec.upto flowLessSpec)) flowLessUptoCard
end Rows
end Go.Proofs.YtoolcgbcfgnipaaGreatDoor
