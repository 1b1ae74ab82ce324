import Derived.Test.YthafnifhhblkbaaGreatDoorLw
import Derived.Test.YthafnifhhblkbaaGreatDoorTie
import Derived.Test.YthafnifhhblkbaaGreatDoorCards
import Derived.LaidMore
import Derived.OpenShut
import Derived.Stop.Joined
import Derived.SevenTiedAt
import Derived.ChangeMaps5
namespace Go.Proofs.YthafnifhhblkbaaGreatDoor
open Go Go.RowKit Go.Eng Go.ChangeShapes Go.WideShapes Go.ChangeAt Go.Joins Go.Deep Go.WideMaps Go.WideElems
theorem pcC1 : Rows.packCodesRow.wfByText (OpenSpec.ofChange Rows.packCodesSpec) = true := by kernel_rfl
theorem pcC2 : Tryz.prog.mainIs = some (true, "9a921b7b4982871ea6bd98c2060b861e582ae14e49560f798d30c3100ffa4ce3".toList) := by kernel_rfl
theorem pcC3 : true = Tryz.prog.looks [] := by kernel_rfl
theorem pcC4 : Tryz.prog.funcNamed "shunter/shunterlaw11.PackCodes" = some 5 := by kernel_rfl
theorem pcC5 : ([38, 49].all fun u => !Tryz.prog.wantsStandIn u) = true := by kernel_rfl
theorem pcC6 : false = Rows.packCodesRow.goesBy Tryz.prog := by kernel_rfl
end Go.Proofs.YthafnifhhblkbaaGreatDoor
