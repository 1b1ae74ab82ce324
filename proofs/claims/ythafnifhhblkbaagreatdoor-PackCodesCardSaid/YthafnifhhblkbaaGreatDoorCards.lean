/-
  DERIVED. GIVEN WITH THE SEED: THE CARDS: each row of YthafnifhhblkbaaGreatDoorRows.lean that lists a variable, with what it lists TIED to the program's text (the seventh form; the later family's looks); each row that meets fmt, with fmt's text TOLD by the authors' own Lean function (tested against real Go, not proved from fmt's source: count such statements apart). THE CARD IS WHAT COUNTS. Prove the row's statement (the work); the ties are given (YthafnifhhblkbaaGreatDoorTie.lean); close each card by the builder's one call (the guide's Derived/Test/ToyasCard.lean, 'card_holds'). Laid BY PROGRAM, IN A SANDBOX (cutbox-door.mjs). By AI agents, Wed Nov 11 2026. No macro, syntax, notation, axiom, sorry.
-/
import Derived.Test.YthafnifhhblkbaaGreatDoorRows
import GoSem.ClaimSeven
namespace Go.Proofs.YthafnifhhblkbaaGreatDoor
namespace Rows

/-- THE TIED CARD OF 'shunterlaw11.PackBytes'. -/
def packBytesCard : Claim7 := { stood := { row := packBytesRow, standIns := [], harness := (true, "9a921b7b4982871ea6bd98c2060b861e582ae14e49560f798d30c3100ffa4ce3"), looks := true }, kinds := [], alts := [], laidByText := true, laidKinds := [.data], laidTests := true, laidLooks := .later }
def PackBytesCardSaid : Prop := Claim7.holds Tryz.pinned (.plain (OpenSpec.ofChange packBytesSpec)) packBytesCard

/-- THE TIED CARD OF 'shunterlaw11.PackSections'. -/
def packSectionsCard : Claim7 := { stood := { row := packSectionsRow, standIns := [], harness := (true, "9a921b7b4982871ea6bd98c2060b861e582ae14e49560f798d30c3100ffa4ce3"), looks := true }, kinds := [], alts := [], laidByText := true, laidKinds := [.data], laidTests := true, laidLooks := .later }
def PackSectionsCardSaid : Prop := Claim7.holds Tryz.pinned (.plain (OpenSpec.ofChange packSectionsSpec)) packSectionsCard

/-- THE TIED CARD OF 'shunterlaw11.PackCodes'. -/
def packCodesCard : Claim7 := { stood := { row := packCodesRow, standIns := [], harness := (true, "9a921b7b4982871ea6bd98c2060b861e582ae14e49560f798d30c3100ffa4ce3"), looks := true }, kinds := [], alts := [], laidByText := true, laidKinds := [.data], laidTests := true, laidLooks := .later }
def PackCodesCardSaid : Prop := Claim7.holds Tryz.pinned (.plain (OpenSpec.ofChange packCodesSpec)) packCodesCard

/-- THE TIED CARD OF 'shunterlaw11.PackDiffers'. -/
def packDiffersCard : Claim7 := { stood := { row := packDiffersRow, standIns := [], harness := (true, "9a921b7b4982871ea6bd98c2060b861e582ae14e49560f798d30c3100ffa4ce3"), looks := true }, kinds := [], alts := [], laidByText := true, laidKinds := [.data], laidTests := true, laidLooks := .later }
def PackDiffersCardSaid : Prop := Claim7.holds Tryz.pinned (.plain (OpenSpec.ofChange packDiffersSpec)) packDiffersCard

/-- THE SECOND FORM's CARD OF 'shunterlaw11.PackBytes'. -/
def packBytesUptoCard : Claim7 := { stood := { row := packBytesUptoRow, standIns := [], harness := (true, "9a921b7b4982871ea6bd98c2060b861e582ae14e49560f798d30c3100ffa4ce3"), looks := true }, kinds := [], alts := [], laidByText := true, laidKinds := [.data], laidTests := true, laidLooks := .later }
def PackBytesUptoCardSaid : Prop := Claim7.holds Tryz.pinned (.plain (OpenSpec.upto packBytesSpec)) packBytesUptoCard

/-- THE SECOND FORM's CARD OF 'shunterlaw11.PackSections'. -/
def packSectionsUptoCard : Claim7 := { stood := { row := packSectionsUptoRow, standIns := [], harness := (true, "9a921b7b4982871ea6bd98c2060b861e582ae14e49560f798d30c3100ffa4ce3"), looks := true }, kinds := [], alts := [], laidByText := true, laidKinds := [.data], laidTests := true, laidLooks := .later }
def PackSectionsUptoCardSaid : Prop := Claim7.holds Tryz.pinned (.plain (OpenSpec.upto packSectionsSpec)) packSectionsUptoCard

/-- THE SECOND FORM's CARD OF 'shunterlaw11.PackCodes'. -/
def packCodesUptoCard : Claim7 := { stood := { row := packCodesUptoRow, standIns := [], harness := (true, "9a921b7b4982871ea6bd98c2060b861e582ae14e49560f798d30c3100ffa4ce3"), looks := true }, kinds := [], alts := [], laidByText := true, laidKinds := [.data], laidTests := true, laidLooks := .later }
def PackCodesUptoCardSaid : Prop := Claim7.holds Tryz.pinned (.plain (OpenSpec.upto packCodesSpec)) packCodesUptoCard

/-- THE SECOND FORM's CARD OF 'shunterlaw11.PackDiffers'. -/
def packDiffersUptoCard : Claim7 := { stood := { row := packDiffersUptoRow, standIns := [], harness := (true, "9a921b7b4982871ea6bd98c2060b861e582ae14e49560f798d30c3100ffa4ce3"), looks := true }, kinds := [], alts := [], laidByText := true, laidKinds := [.data], laidTests := true, laidLooks := .later }
def PackDiffersUptoCardSaid : Prop := Claim7.holds Tryz.pinned (.plain (OpenSpec.upto packDiffersSpec)) packDiffersUptoCard
end Rows
end Go.Proofs.YthafnifhhblkbaaGreatDoor
