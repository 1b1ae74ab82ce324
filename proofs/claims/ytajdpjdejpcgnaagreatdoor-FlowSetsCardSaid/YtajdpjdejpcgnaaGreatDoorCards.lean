/-
  DERIVED. GIVEN WITH THE SEED: THE CARDS: each row of YtajdpjdejpcgnaaGreatDoorRows.lean that lists a variable, with what it lists TIED to the program's text (the seventh form; the later family's looks); each row that meets fmt, with fmt's text TOLD by the authors' own Lean function (tested against real Go, not proved from fmt's source: count such statements apart). THE CARD IS WHAT COUNTS. Prove the row's statement (the work); the ties are given (YtajdpjdejpcgnaaGreatDoorTie.lean); close each card by the builder's one call (the guide's Derived/Test/ToyasCard.lean, 'card_holds'). Laid BY PROGRAM, IN A SANDBOX (cutbox-door.mjs). By AI agents, Wed Nov 11 2026. No macro, syntax, notation, axiom, sorry.
-/
import Derived.Test.YtajdpjdejpcgnaaGreatDoorRows
import GoSem.ClaimSeven
namespace Go.Proofs.YtajdpjdejpcgnaaGreatDoor
namespace Rows

/-- THE TIED CARD OF 'shunterlaw15.FlowSets'. -/
def flowSetsCard : Claim7 := { stood := { row := flowSetsRow, standIns := [], harness := (true, "68a4c2abc3ea0606b988af8a33199e9ec58f5d233c76acca5e1be39044edf695"), looks := true }, kinds := [], alts := [], laidByText := true, laidKinds := [.data], laidTests := true, laidLooks := .later }
def FlowSetsCardSaid : Prop := Claim7.holds Tryz.pinned (.plain (OpenSpec.ofChange flowSetsSpec)) flowSetsCard

/-- THE SECOND FORM's CARD OF 'shunterlaw15.FlowSets'. -/
def flowSetsUptoCard : Claim7 := { stood := { row := flowSetsUptoRow, standIns := [], harness := (true, "68a4c2abc3ea0606b988af8a33199e9ec58f5d233c76acca5e1be39044edf695"), looks := true }, kinds := [], alts := [], laidByText := true, laidKinds := [.data], laidTests := true, laidLooks := .later }
def FlowSetsUptoCardSaid : Prop := Claim7.holds Tryz.pinned (.plain (OpenSpec.upto flowSetsSpec)) flowSetsUptoCard
end Rows
end Go.Proofs.YtajdpjdejpcgnaaGreatDoor
