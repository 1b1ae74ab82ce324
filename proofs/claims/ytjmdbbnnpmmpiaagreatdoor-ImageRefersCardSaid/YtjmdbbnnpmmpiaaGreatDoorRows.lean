/-
  NARROWER THAN 'FOR EVERY INPUT', by the rows' own cells (each row's printed sentence says how): ImageChecks: laid · ImageCopies: laid · ImageRefers: laid.
  DERIVED. THE GIVEN ROWS OF THIS SEAT. 3 by the template 'for every input the law returns true; each argument reads behind the call as it read before'; 0 by the template 'total and deterministic' (their statements: YtjmdbbnnpmmpiaaGreatDoorTotals.lean).
  GIVEN WITH THE SEED: the statements are not yours to turn. If you find one false, say at which input.
  Laid BY PROGRAM, IN A SANDBOX (cutbox-rows.mjs): the forced cells as the released guide's own fill.sh prints them over the translation af32385b2dabcf0c… (all of the seat's roots in one cut). By AI agents, Wed Nov 11 2026. No macro, syntax, notation, axiom, sorry.
-/
import Derived.Test.YtjmdbbnnpmmpiaaGreatDoorChecked
import GoSem.Claim
import GoSem.ClaimJoined
import GoSem.ClaimMapViews
import Derived.JoinedTies
import Derived.KernelRfl
namespace Go.Proofs.YtjmdbbnnpmmpiaaGreatDoor
/- THE CELL 'sum', in the pinned program and in every row, IS THE sha256 OF THE DUMP (.gsa) THAT YtjmdbbnnpmmpiaaGreatDoorProg.lean LOADS. Nothing in Lean hashes anything: it is a label: what it is worth is what the hold of that sum in a sandbox is worth. -/
noncomputable def Tryz.pinned : Pinned := { name := "ytjmdbbnnpmmpiaagreatdoor", sum := "af32385b2dabcf0c885702485710e7e5efc3a321004769a1ad8f0dfde3d465a3", checked := Tryz.checked }
namespace Rows
def none {H : Type} : Left H := { results := [], args := [] }

/- WHAT THE LISTED PACKAGE-LEVEL VARIABLES READ AS WHEN THE CALL BEGINS. Each datum BY PROGRAM (the guide's laid-datum.mjs) off the statement by which the dump's own 'gosem.cut.vars' lays the variable. In a bare row this is a premise. The card (YtjmdbbnnpmmpiaaGreatDoorCards.lean) ties it to the program's text. -/
def laid_shunter_image_metaWidths {H : Type} : DataW H := .agg [.lit (.int .i64 8), .lit (.int .i64 8), .lit (.int .i64 8), .lit (.int .i64 1), .lit (.int .i64 8), .lit (.int .i64 1), .lit (.int .i64 16), .lit (.int .i64 8)]

/-- 'shunterlaw10.ImageChecks': WHATEVER THE INPUT: true; the input reads as it did. -/
def imageChecksSpec : ChangeSpec := { name := "imageChecks", fn := fun _ => fun
  | [d] => { results := [.lit (.bool true)], args := [d] }
  | _ => none }
def imageChecksRow : OpenClaim := { program := "ytjmdbbnnpmmpiaagreatdoor", sum := "af32385b2dabcf0c885702485710e7e5efc3a321004769a1ad8f0dfde3d465a3", func := "shunter/shunterlaw10.ImageChecks", spec := "imageChecks", inPlace := ["internal/bytealg.IndexByteString", "internal/bytealg.IndexString", "internal/abi.NoEscape", "internal/bytealg.MakeNoZero"], unfollowed := true, recurses := true, named := ["internal/bytealg.MaxLen", "shunter/image.metaWidths"], apart := false, laid := [("shunter/image.metaWidths", laid_shunter_image_metaWidths)] }
def ImageChecksSaid : Prop := imageChecksRow.holds Tryz.pinned (OpenSpec.ofChange imageChecksSpec)

/-- ITS FALSE NEIGHBOUR: 'it returns false'. Refute it at one input. -/
def imageChecksWrong : ChangeSpec := { name := "imageChecks", fn := fun _ => fun
  | [d] => { results := [.lit (.bool false)], args := [d] }
  | _ => none }
def ImageChecksWrongFalsely : Prop := imageChecksRow.holds Tryz.pinned (OpenSpec.ofChange imageChecksWrong)

/-- 'shunterlaw10.ImageCopies': WHATEVER THE INPUT: true; the input reads as it did. -/
def imageCopiesSpec : ChangeSpec := { name := "imageCopies", fn := fun _ => fun
  | [d1, d2] => { results := [.lit (.bool true)], args := [d1, d2] }
  | _ => none }
def imageCopiesRow : OpenClaim := { program := "ytjmdbbnnpmmpiaagreatdoor", sum := "af32385b2dabcf0c885702485710e7e5efc3a321004769a1ad8f0dfde3d465a3", func := "shunter/shunterlaw10.ImageCopies", spec := "imageCopies", inPlace := ["internal/bytealg.IndexByteString", "internal/bytealg.IndexString", "internal/abi.NoEscape", "internal/bytealg.MakeNoZero"], unfollowed := true, recurses := true, named := ["internal/bytealg.MaxLen", "shunter/image.metaWidths"], apart := false, laid := [("shunter/image.metaWidths", laid_shunter_image_metaWidths)] }
def ImageCopiesSaid : Prop := imageCopiesRow.holds Tryz.pinned (OpenSpec.ofChange imageCopiesSpec)

/-- ITS FALSE NEIGHBOUR: 'it returns false'. Refute it at one input. -/
def imageCopiesWrong : ChangeSpec := { name := "imageCopies", fn := fun _ => fun
  | [d1, d2] => { results := [.lit (.bool false)], args := [d1, d2] }
  | _ => none }
def ImageCopiesWrongFalsely : Prop := imageCopiesRow.holds Tryz.pinned (OpenSpec.ofChange imageCopiesWrong)

/-- 'shunterlaw10.ImageRefers': WHATEVER THE INPUT: true; the input reads as it did. -/
def imageRefersSpec : ChangeSpec := { name := "imageRefers", fn := fun _ => fun
  | [d] => { results := [.lit (.bool true)], args := [d] }
  | _ => none }
def imageRefersRow : OpenClaim := { program := "ytjmdbbnnpmmpiaagreatdoor", sum := "af32385b2dabcf0c885702485710e7e5efc3a321004769a1ad8f0dfde3d465a3", func := "shunter/shunterlaw10.ImageRefers", spec := "imageRefers", inPlace := ["internal/bytealg.IndexByteString", "internal/bytealg.IndexString", "internal/abi.NoEscape", "internal/bytealg.MakeNoZero"], unfollowed := true, recurses := true, named := ["internal/bytealg.MaxLen", "shunter/image.metaWidths"], apart := false, laid := [("shunter/image.metaWidths", laid_shunter_image_metaWidths)] }
def ImageRefersSaid : Prop := imageRefersRow.holds Tryz.pinned (OpenSpec.ofChange imageRefersSpec)

/-- ITS FALSE NEIGHBOUR: 'it returns false'. Refute it at one input. -/
def imageRefersWrong : ChangeSpec := { name := "imageRefers", fn := fun _ => fun
  | [d] => { results := [.lit (.bool false)], args := [d] }
  | _ => none }
def ImageRefersWrongFalsely : Prop := imageRefersRow.holds Tryz.pinned (OpenSpec.ofChange imageRefersWrong)

/- THE SECOND FORM. 'bulk': how many values and letters a reading holds, each counted each time it is reached (what is shared counts as often as it is met; a slice's spare places count too). A statement '..UptoSaid' is the law's where the arguments, and the package variables that the reading takes, are together of bulk at most 1048576: NARROWER than '..Said'. Prove '..Said' where nothing that the law and all that it calls make is longer than what came in: it says more and counts as full. Else prove '..UptoSaid'. A law counts once. -/
mutual
def uptoBulk {H : Type} : DataW H → Nat
  | .lit (.string bytes) => bytes.length + 1
  | .lit _ => 1
  | .nil => 1
  | .ptr d => uptoBulk d + 1
  | .slice elems spare => uptoBulkAll elems + uptoBulkAll spare + 1
  | .agg parts => uptoBulkAll parts + 1
  | .iface _ d => uptoBulk d + 1
  | .map entries => uptoBulkEntries entries + 1
  | .held _ => 1
def uptoBulkAll {H : Type} : List (DataW H) → Nat
  | [] => 0
  | d :: r => uptoBulk d + uptoBulkAll r
def uptoBulkEntries {H : Type} : List (Lit × DataW H) → Nat
  | [] => 0
  | x :: r => uptoBulkEntry x + uptoBulkEntries r
def uptoBulkEntry {H : Type} : Lit × DataW H → Nat
  | (.string bytes, d) => bytes.length + uptoBulk d + 1
  | (_, d) => uptoBulk d + 1
 end
def uptoSmall : (H : Type) → List (DataW H) → Bool := fun _ ds => decide (uptoBulkAll ds ≤ 1048576)
def OpenSpec.upto (s : _root_.Go.ChangeSpec) : _root_.Go.OpenSpec := { _root_.Go.OpenSpec.ofChange s with cond := some uptoSmall }

/-- 'shunterlaw10.ImageChecks', WHERE WHAT IT READS IS OF BULK AT MOST 1048576: true; the input reads as it did. -/
def imageChecksUptoRow : OpenClaim := { program := "ytjmdbbnnpmmpiaagreatdoor", sum := "af32385b2dabcf0c885702485710e7e5efc3a321004769a1ad8f0dfde3d465a3", func := "shunter/shunterlaw10.ImageChecks", spec := "imageChecks", inPlace := ["internal/bytealg.IndexByteString", "internal/bytealg.IndexString", "internal/abi.NoEscape", "internal/bytealg.MakeNoZero"], unfollowed := true, recurses := true, named := ["internal/bytealg.MaxLen", "shunter/image.metaWidths"], apart := false, laid := [("shunter/image.metaWidths", laid_shunter_image_metaWidths)], narrowed := true }
def ImageChecksUptoSaid : Prop := imageChecksUptoRow.holds Tryz.pinned (OpenSpec.upto imageChecksSpec)

/-- 'shunterlaw10.ImageCopies', WHERE WHAT IT READS IS OF BULK AT MOST 1048576: true; the input reads as it did. -/
def imageCopiesUptoRow : OpenClaim := { program := "ytjmdbbnnpmmpiaagreatdoor", sum := "af32385b2dabcf0c885702485710e7e5efc3a321004769a1ad8f0dfde3d465a3", func := "shunter/shunterlaw10.ImageCopies", spec := "imageCopies", inPlace := ["internal/bytealg.IndexByteString", "internal/bytealg.IndexString", "internal/abi.NoEscape", "internal/bytealg.MakeNoZero"], unfollowed := true, recurses := true, named := ["internal/bytealg.MaxLen", "shunter/image.metaWidths"], apart := false, laid := [("shunter/image.metaWidths", laid_shunter_image_metaWidths)], narrowed := true }
def ImageCopiesUptoSaid : Prop := imageCopiesUptoRow.holds Tryz.pinned (OpenSpec.upto imageCopiesSpec)

/-- 'shunterlaw10.ImageRefers', WHERE WHAT IT READS IS OF BULK AT MOST 1048576: true; the input reads as it did. -/
def imageRefersUptoRow : OpenClaim := { program := "ytjmdbbnnpmmpiaagreatdoor", sum := "af32385b2dabcf0c885702485710e7e5efc3a321004769a1ad8f0dfde3d465a3", func := "shunter/shunterlaw10.ImageRefers", spec := "imageRefers", inPlace := ["internal/bytealg.IndexByteString", "internal/bytealg.IndexString", "internal/abi.NoEscape", "internal/bytealg.MakeNoZero"], unfollowed := true, recurses := true, named := ["internal/bytealg.MaxLen", "shunter/image.metaWidths"], apart := false, laid := [("shunter/image.metaWidths", laid_shunter_image_metaWidths)], narrowed := true }
def ImageRefersUptoSaid : Prop := imageRefersUptoRow.holds Tryz.pinned (OpenSpec.upto imageRefersSpec)

end Rows
end Go.Proofs.YtjmdbbnnpmmpiaaGreatDoor
