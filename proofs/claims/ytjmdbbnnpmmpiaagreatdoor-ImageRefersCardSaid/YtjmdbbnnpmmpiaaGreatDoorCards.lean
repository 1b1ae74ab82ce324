/-
  DERIVED. GIVEN WITH THE SEED: THE CARDS: each row of YtjmdbbnnpmmpiaaGreatDoorRows.lean that lists a variable, with what it lists TIED to the program's text (the seventh form; the later family's looks); each row that meets fmt, with fmt's text TOLD by the authors' own Lean function (tested against real Go, not proved from fmt's source: count such statements apart). THE CARD IS WHAT COUNTS. Prove the row's statement (the work); the ties are given (YtjmdbbnnpmmpiaaGreatDoorTie.lean); close each card by the builder's one call (the guide's Derived/Test/ToyasCard.lean, 'card_holds'). Laid BY PROGRAM, IN A SANDBOX (cutbox-door.mjs). By AI agents, Wed Nov 11 2026. No macro, syntax, notation, axiom, sorry.
-/
import Derived.Test.YtjmdbbnnpmmpiaaGreatDoorRows
import GoSem.ClaimSeven
namespace Go.Proofs.YtjmdbbnnpmmpiaaGreatDoor
namespace Rows

/-- THE TIED CARD OF 'shunterlaw10.ImageChecks'. -/
def imageChecksCard : Claim7 := { stood := { row := imageChecksRow, standIns := [], harness := (true, "608e8cb5f5f269fce40d58eb0951e969f4608effb1b1c276db2790fecbc9a032"), looks := true }, kinds := [], alts := [], laidByText := true, laidKinds := [.data], laidTests := true, laidLooks := .later }
def ImageChecksCardSaid : Prop := Claim7.holds Tryz.pinned (.plain (OpenSpec.ofChange imageChecksSpec)) imageChecksCard

/-- THE TIED CARD OF 'shunterlaw10.ImageCopies'. -/
def imageCopiesCard : Claim7 := { stood := { row := imageCopiesRow, standIns := [], harness := (true, "608e8cb5f5f269fce40d58eb0951e969f4608effb1b1c276db2790fecbc9a032"), looks := true }, kinds := [], alts := [], laidByText := true, laidKinds := [.data], laidTests := true, laidLooks := .later }
def ImageCopiesCardSaid : Prop := Claim7.holds Tryz.pinned (.plain (OpenSpec.ofChange imageCopiesSpec)) imageCopiesCard

/-- THE TIED CARD OF 'shunterlaw10.ImageRefers'. -/
def imageRefersCard : Claim7 := { stood := { row := imageRefersRow, standIns := [], harness := (true, "608e8cb5f5f269fce40d58eb0951e969f4608effb1b1c276db2790fecbc9a032"), looks := true }, kinds := [], alts := [], laidByText := true, laidKinds := [.data], laidTests := true, laidLooks := .later }
def ImageRefersCardSaid : Prop := Claim7.holds Tryz.pinned (.plain (OpenSpec.ofChange imageRefersSpec)) imageRefersCard

/-- THE SECOND FORM's CARD OF 'shunterlaw10.ImageChecks'. -/
def imageChecksUptoCard : Claim7 := { stood := { row := imageChecksUptoRow, standIns := [], harness := (true, "608e8cb5f5f269fce40d58eb0951e969f4608effb1b1c276db2790fecbc9a032"), looks := true }, kinds := [], alts := [], laidByText := true, laidKinds := [.data], laidTests := true, laidLooks := .later }
def ImageChecksUptoCardSaid : Prop := Claim7.holds Tryz.pinned (.plain (OpenSpec.upto imageChecksSpec)) imageChecksUptoCard

/-- THE SECOND FORM's CARD OF 'shunterlaw10.ImageCopies'. -/
def imageCopiesUptoCard : Claim7 := { stood := { row := imageCopiesUptoRow, standIns := [], harness := (true, "608e8cb5f5f269fce40d58eb0951e969f4608effb1b1c276db2790fecbc9a032"), looks := true }, kinds := [], alts := [], laidByText := true, laidKinds := [.data], laidTests := true, laidLooks := .later }
def ImageCopiesUptoCardSaid : Prop := Claim7.holds Tryz.pinned (.plain (OpenSpec.upto imageCopiesSpec)) imageCopiesUptoCard

/-- THE SECOND FORM's CARD OF 'shunterlaw10.ImageRefers'. -/
def imageRefersUptoCard : Claim7 := { stood := { row := imageRefersUptoRow, standIns := [], harness := (true, "608e8cb5f5f269fce40d58eb0951e969f4608effb1b1c276db2790fecbc9a032"), looks := true }, kinds := [], alts := [], laidByText := true, laidKinds := [.data], laidTests := true, laidLooks := .later }
def ImageRefersUptoCardSaid : Prop := Claim7.holds Tryz.pinned (.plain (OpenSpec.upto imageRefersSpec)) imageRefersUptoCard
end Rows
end Go.Proofs.YtjmdbbnnpmmpiaaGreatDoor
