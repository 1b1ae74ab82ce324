/-
  DERIVED. GIVEN WITH THE SEED: THE CARDS: each row of YtomcfndpnnjihaaDoorRows.lean that lists a variable, with what it lists TIED to the program's text (the seventh form; the later family's looks); each row that meets fmt, with fmt's text TOLD by the authors' own Lean function (tested against real Go, not proved from fmt's source: count such statements apart). THE CARD IS WHAT COUNTS. Prove the row's statement (the work); the ties are given (YtomcfndpnnjihaaDoorTie.lean); close each card by the builder's one call (the guide's Derived/Test/ToyasCard.lean, 'card_holds'). Laid BY PROGRAM, IN A SANDBOX (cutbox-door.mjs). By AI agents, Wed Nov 11 2026. No macro, syntax, notation, axiom, sorry.
-/
import Derived.Test.YtomcfndpnnjihaaDoorRows
import GoSem.ClaimSeven
namespace Go.Proofs.YtomcfndpnnjihaaDoor
namespace Rows

/-- THE TIED CARD OF 'shunterlaw02.VecMakes'. -/
def vecMakesCard : Claim7 := { stood := { row := vecMakesRow, standIns := [], harness := (true, "b436f67c4fc24c50235c3142a096c6643fbb5e3176334d24bea4df4308e69fdf"), looks := false }, kinds := [], alts := [], laidByText := true, laidKinds := [.data, .data, .data], laidTests := true, laidLooks := .later }
def VecMakesCardSaid : Prop := Claim7.holds Tryd.pinned (.plain (OpenSpec.ofChange vecMakesSpec)) vecMakesCard

/-- THE TIED CARD OF 'shunterlaw02.VecTwos'. -/
def vecTwosCard : Claim7 := { stood := { row := vecTwosRow, standIns := [], harness := (true, "b436f67c4fc24c50235c3142a096c6643fbb5e3176334d24bea4df4308e69fdf"), looks := false }, kinds := [], alts := [], laidByText := true, laidKinds := [.data, .data, .data], laidTests := true, laidLooks := .later }
def VecTwosCardSaid : Prop := Claim7.holds Tryd.pinned (.plain (OpenSpec.ofChange vecTwosSpec)) vecTwosCard

/-- THE TIED CARD OF 'shunterlaw02.VecOnes'. -/
def vecOnesCard : Claim7 := { stood := { row := vecOnesRow, standIns := [], harness := (true, "b436f67c4fc24c50235c3142a096c6643fbb5e3176334d24bea4df4308e69fdf"), looks := false }, kinds := [], alts := [], laidByText := true, laidKinds := [.data, .data, .data], laidTests := true, laidLooks := .later }
def VecOnesCardSaid : Prop := Claim7.holds Tryd.pinned (.plain (OpenSpec.ofChange vecOnesSpec)) vecOnesCard

/-- THE TIED CARD OF 'shunterlaw02.VecParts'. -/
def vecPartsCard : Claim7 := { stood := { row := vecPartsRow, standIns := [], harness := (true, "b436f67c4fc24c50235c3142a096c6643fbb5e3176334d24bea4df4308e69fdf"), looks := false }, kinds := [], alts := [], laidByText := true, laidKinds := [.data, .data, .data], laidTests := true, laidLooks := .later }
def VecPartsCardSaid : Prop := Claim7.holds Tryd.pinned (.plain (OpenSpec.ofChange vecPartsSpec)) vecPartsCard

/-- THE TIED CARD OF 'shunterlaw02.VecMeets'. -/
def vecMeetsCard : Claim7 := { stood := { row := vecMeetsRow, standIns := [], harness := (true, "b436f67c4fc24c50235c3142a096c6643fbb5e3176334d24bea4df4308e69fdf"), looks := false }, kinds := [], alts := [], laidByText := true, laidKinds := [.data, .data, .data], laidTests := true, laidLooks := .later }
def VecMeetsCardSaid : Prop := Claim7.holds Tryd.pinned (.plain (OpenSpec.ofChange vecMeetsSpec)) vecMeetsCard

/-- THE TIED CARD OF 'shunterlaw02.VecTexts'. -/
def vecTextsCard : Claim7 := { stood := { row := vecTextsRow, standIns := [], harness := (true, "b436f67c4fc24c50235c3142a096c6643fbb5e3176334d24bea4df4308e69fdf"), looks := false }, kinds := [], alts := [], laidByText := true, laidKinds := [.data, .data, .data], laidTests := true, laidLooks := .later }
def VecTextsCardSaid : Prop := Claim7.holds Tryd.pinned (.plain (OpenSpec.ofChange vecTextsSpec)) vecTextsCard

/-- THE TIED CARD OF 'shunterlaw02.VecBack'. -/
def vecBackCard : Claim7 := { stood := { row := vecBackRow, standIns := [], harness := (true, "b436f67c4fc24c50235c3142a096c6643fbb5e3176334d24bea4df4308e69fdf"), looks := false }, kinds := [], alts := [], laidByText := true, laidKinds := [.data, .data, .data], laidTests := true, laidLooks := .later }
def VecBackCardSaid : Prop := Claim7.holds Tryd.pinned (.plain (OpenSpec.ofChange vecBackSpec)) vecBackCard

/-- THE SECOND FORM's CARD OF 'shunterlaw02.VecMakes'. -/
def vecMakesUptoCard : Claim7 := { stood := { row := vecMakesUptoRow, standIns := [], harness := (true, "b436f67c4fc24c50235c3142a096c6643fbb5e3176334d24bea4df4308e69fdf"), looks := false }, kinds := [], alts := [], laidByText := true, laidKinds := [.data, .data, .data], laidTests := true, laidLooks := .later }
def VecMakesUptoCardSaid : Prop := Claim7.holds Tryd.pinned (.plain (OpenSpec.upto vecMakesSpec)) vecMakesUptoCard

/-- THE SECOND FORM's CARD OF 'shunterlaw02.VecTwos'. -/
def vecTwosUptoCard : Claim7 := { stood := { row := vecTwosUptoRow, standIns := [], harness := (true, "b436f67c4fc24c50235c3142a096c6643fbb5e3176334d24bea4df4308e69fdf"), looks := false }, kinds := [], alts := [], laidByText := true, laidKinds := [.data, .data, .data], laidTests := true, laidLooks := .later }
def VecTwosUptoCardSaid : Prop := Claim7.holds Tryd.pinned (.plain (OpenSpec.upto vecTwosSpec)) vecTwosUptoCard

/-- THE SECOND FORM's CARD OF 'shunterlaw02.VecOnes'. -/
def vecOnesUptoCard : Claim7 := { stood := { row := vecOnesUptoRow, standIns := [], harness := (true, "b436f67c4fc24c50235c3142a096c6643fbb5e3176334d24bea4df4308e69fdf"), looks := false }, kinds := [], alts := [], laidByText := true, laidKinds := [.data, .data, .data], laidTests := true, laidLooks := .later }
def VecOnesUptoCardSaid : Prop := Claim7.holds Tryd.pinned (.plain (OpenSpec.upto vecOnesSpec)) vecOnesUptoCard

/-- THE SECOND FORM's CARD OF 'shunterlaw02.VecParts'. -/
def vecPartsUptoCard : Claim7 := { stood := { row := vecPartsUptoRow, standIns := [], harness := (true, "b436f67c4fc24c50235c3142a096c6643fbb5e3176334d24bea4df4308e69fdf"), looks := false }, kinds := [], alts := [], laidByText := true, laidKinds := [.data, .data, .data], laidTests := true, laidLooks := .later }
def VecPartsUptoCardSaid : Prop := Claim7.holds Tryd.pinned (.plain (OpenSpec.upto vecPartsSpec)) vecPartsUptoCard

/-- THE SECOND FORM's CARD OF 'shunterlaw02.VecMeets'. -/
def vecMeetsUptoCard : Claim7 := { stood := { row := vecMeetsUptoRow, standIns := [], harness := (true, "b436f67c4fc24c50235c3142a096c6643fbb5e3176334d24bea4df4308e69fdf"), looks := false }, kinds := [], alts := [], laidByText := true, laidKinds := [.data, .data, .data], laidTests := true, laidLooks := .later }
def VecMeetsUptoCardSaid : Prop := Claim7.holds Tryd.pinned (.plain (OpenSpec.upto vecMeetsSpec)) vecMeetsUptoCard

/-- THE SECOND FORM's CARD OF 'shunterlaw02.VecTexts'. -/
def vecTextsUptoCard : Claim7 := { stood := { row := vecTextsUptoRow, standIns := [], harness := (true, "b436f67c4fc24c50235c3142a096c6643fbb5e3176334d24bea4df4308e69fdf"), looks := false }, kinds := [], alts := [], laidByText := true, laidKinds := [.data, .data, .data], laidTests := true, laidLooks := .later }
def VecTextsUptoCardSaid : Prop := Claim7.holds Tryd.pinned (.plain (OpenSpec.upto vecTextsSpec)) vecTextsUptoCard

/-- THE SECOND FORM's CARD OF 'shunterlaw02.VecBack'. -/
def vecBackUptoCard : Claim7 := { stood := { row := vecBackUptoRow, standIns := [], harness := (true, "b436f67c4fc24c50235c3142a096c6643fbb5e3176334d24bea4df4308e69fdf"), looks := false }, kinds := [], alts := [], laidByText := true, laidKinds := [.data, .data, .data], laidTests := true, laidLooks := .later }
def VecBackUptoCardSaid : Prop := Claim7.holds Tryd.pinned (.plain (OpenSpec.upto vecBackSpec)) vecBackUptoCard
end Rows
end Go.Proofs.YtomcfndpnnjihaaDoor
