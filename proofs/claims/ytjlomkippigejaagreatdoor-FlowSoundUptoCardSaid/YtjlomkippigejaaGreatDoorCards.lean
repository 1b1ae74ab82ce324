/-
  DERIVED. GIVEN WITH THE SEED: THE CARDS: each row of YtjlomkippigejaaGreatDoorRows.lean that lists a variable, with what it lists TIED to the program's text (the seventh form; the later family's looks); each row that meets fmt, with fmt's text TOLD by the authors' own Lean function (tested against real Go, not proved from fmt's source: count such statements apart). THE CARD IS WHAT COUNTS. Prove the row's statement (the work); the ties are given (YtjlomkippigejaaGreatDoorTie.lean); close each card by the builder's one call (the guide's Derived/Test/ToyasCard.lean, 'card_holds'). Laid BY PROGRAM, IN A SANDBOX (cutbox-door.mjs). By AI agents, Wed Nov 11 2026. No macro, syntax, notation, axiom, sorry.
-/
import Derived.Test.YtjlomkippigejaaGreatDoorRows
import GoSem.ClaimSeven
namespace Go.Proofs.YtjlomkippigejaaGreatDoor
namespace Rows

/-- THE TIED CARD OF 'shunterlaw15.FlowSound'. -/
def flowSoundCard : Claim7 := { stood := { row := flowSoundRow, standIns := [], harness := (true, "db64c6fcfd57d810a26c932ad2089b638e732d070c5cd1227aa6b01029b542f9"), looks := true }, kinds := [], alts := [], laidByText := true, laidKinds := [.data], laidTests := true, laidLooks := .later }
def FlowSoundCardSaid : Prop := Claim7.holds Tryz.pinned (.plain (OpenSpec.ofChange flowSoundSpec)) flowSoundCard

/-- THE SECOND FORM's CARD OF 'shunterlaw15.FlowSound'. -/
def flowSoundUptoCard : Claim7 := { stood := { row := flowSoundUptoRow, standIns := [], harness := (true, "db64c6fcfd57d810a26c932ad2089b638e732d070c5cd1227aa6b01029b542f9"), looks := true }, kinds := [], alts := [], laidByText := true, laidKinds := [.data], laidTests := true, laidLooks := .later }
def FlowSoundUptoCardSaid : Prop := Claim7.holds Tryz.pinned (.plain (OpenSpec.upto flowSoundSpec)) flowSoundUptoCard
end Rows
end Go.Proofs.YtjlomkippigejaaGreatDoor
