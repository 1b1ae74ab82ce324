/-
  NARROWER THAN 'FOR EVERY INPUT', by the rows' own cells (each row's printed sentence says how): PackBytes: laid · PackSections: laid · PackCodes: laid · PackDiffers: laid.
  DERIVED. THE GIVEN ROWS OF THIS SEAT. 4 by the template 'for every input the law returns true; each argument reads behind the call as it read before'; 0 by the template 'total and deterministic' (their statements: YthafnifhhblkbaaGreatDoorTotals.lean).
  GIVEN WITH THE SEED: the statements are not yours to turn. If you find one false, say at which input.
  Laid BY PROGRAM, IN A SANDBOX (cutbox-rows.mjs): the forced cells as the released guide's own fill.sh prints them over the translation 7135d6b45cfb60c9… (all of the seat's roots in one cut). By AI agents, Wed Nov 11 2026. No macro, syntax, notation, axiom, sorry.
-/
import Derived.Test.YthafnifhhblkbaaGreatDoorChecked
import GoSem.Claim
import GoSem.ClaimJoined
import GoSem.ClaimMapViews
import Derived.JoinedTies
import Derived.KernelRfl
namespace Go.Proofs.YthafnifhhblkbaaGreatDoor
/- THE CELL 'sum', in the pinned program and in every row, IS THE sha256 OF THE DUMP (.gsa) THAT YthafnifhhblkbaaGreatDoorProg.lean LOADS. Nothing in Lean hashes anything: it is a label: what it is worth is what the hold of that sum in a sandbox is worth. -/
noncomputable def Tryz.pinned : Pinned := { name := "ythafnifhhblkbaagreatdoor", sum := "7135d6b45cfb60c96dc834174838c6fc46807d074d32e505467bdacc377ad83f", checked := Tryz.checked }
namespace Rows
def none {H : Type} : Left H := { results := [], args := [] }

/- WHAT THE LISTED PACKAGE-LEVEL VARIABLES READ AS WHEN THE CALL BEGINS. Each datum BY PROGRAM (the guide's laid-datum.mjs) off the statement by which the dump's own 'gosem.cut.vars' lays the variable. In a bare row this is a premise. The card (YthafnifhhblkbaaGreatDoorCards.lean) ties it to the program's text. -/
def laid_shunter_image_metaWidths {H : Type} : DataW H := .agg [.lit (.int .i64 8), .lit (.int .i64 8), .lit (.int .i64 8), .lit (.int .i64 1), .lit (.int .i64 8), .lit (.int .i64 1), .lit (.int .i64 16), .lit (.int .i64 8)]

/-- 'shunterlaw11.PackBytes': WHATEVER THE INPUT: true; the input reads as it did. -/
def packBytesSpec : ChangeSpec := { name := "packBytes", fn := fun _ => fun
  | [d] => { results := [.lit (.bool true)], args := [d] }
  | _ => none }
def packBytesRow : OpenClaim := { program := "ythafnifhhblkbaagreatdoor", sum := "7135d6b45cfb60c96dc834174838c6fc46807d074d32e505467bdacc377ad83f", func := "shunter/shunterlaw11.PackBytes", spec := "packBytes", inPlace := ["internal/bytealg.IndexByteString", "internal/bytealg.IndexString", "internal/abi.NoEscape", "internal/bytealg.MakeNoZero"], unfollowed := true, recurses := true, named := ["internal/bytealg.MaxLen", "shunter/image.metaWidths"], apart := false, laid := [("shunter/image.metaWidths", laid_shunter_image_metaWidths)] }
def PackBytesSaid : Prop := packBytesRow.holds Tryz.pinned (OpenSpec.ofChange packBytesSpec)

/-- ITS FALSE NEIGHBOUR: 'it returns false'. Refute it at one input. -/
def packBytesWrong : ChangeSpec := { name := "packBytes", fn := fun _ => fun
  | [d] => { results := [.lit (.bool false)], args := [d] }
  | _ => none }
def PackBytesWrongFalsely : Prop := packBytesRow.holds Tryz.pinned (OpenSpec.ofChange packBytesWrong)

/-- 'shunterlaw11.PackSections': WHATEVER THE INPUT: true; the input reads as it did. -/
def packSectionsSpec : ChangeSpec := { name := "packSections", fn := fun _ => fun
  | [d1, d2] => { results := [.lit (.bool true)], args := [d1, d2] }
  | _ => none }
def packSectionsRow : OpenClaim := { program := "ythafnifhhblkbaagreatdoor", sum := "7135d6b45cfb60c96dc834174838c6fc46807d074d32e505467bdacc377ad83f", func := "shunter/shunterlaw11.PackSections", spec := "packSections", inPlace := ["internal/bytealg.IndexByteString", "internal/bytealg.IndexString", "internal/abi.NoEscape", "internal/bytealg.MakeNoZero"], unfollowed := true, recurses := true, named := ["internal/bytealg.MaxLen", "shunter/image.metaWidths"], apart := false, laid := [("shunter/image.metaWidths", laid_shunter_image_metaWidths)] }
def PackSectionsSaid : Prop := packSectionsRow.holds Tryz.pinned (OpenSpec.ofChange packSectionsSpec)

/-- ITS FALSE NEIGHBOUR: 'it returns false'. Refute it at one input. -/
def packSectionsWrong : ChangeSpec := { name := "packSections", fn := fun _ => fun
  | [d1, d2] => { results := [.lit (.bool false)], args := [d1, d2] }
  | _ => none }
def PackSectionsWrongFalsely : Prop := packSectionsRow.holds Tryz.pinned (OpenSpec.ofChange packSectionsWrong)

/-- 'shunterlaw11.PackCodes': WHATEVER THE INPUT: true; the input reads as it did. -/
def packCodesSpec : ChangeSpec := { name := "packCodes", fn := fun _ => fun
  | [d1, d2] => { results := [.lit (.bool true)], args := [d1, d2] }
  | _ => none }
def packCodesRow : OpenClaim := { program := "ythafnifhhblkbaagreatdoor", sum := "7135d6b45cfb60c96dc834174838c6fc46807d074d32e505467bdacc377ad83f", func := "shunter/shunterlaw11.PackCodes", spec := "packCodes", inPlace := ["internal/bytealg.IndexByteString", "internal/bytealg.IndexString", "internal/abi.NoEscape", "internal/bytealg.MakeNoZero"], unfollowed := true, recurses := true, named := ["internal/bytealg.MaxLen", "shunter/image.metaWidths"], apart := false, laid := [("shunter/image.metaWidths", laid_shunter_image_metaWidths)] }
def PackCodesSaid : Prop := packCodesRow.holds Tryz.pinned (OpenSpec.ofChange packCodesSpec)

/-- ITS FALSE NEIGHBOUR: 'it returns false'. Refute it at one input. -/
def packCodesWrong : ChangeSpec := { name := "packCodes", fn := fun _ => fun
  | [d1, d2] => { results := [.lit (.bool false)], args := [d1, d2] }
  | _ => none }
def PackCodesWrongFalsely : Prop := packCodesRow.holds Tryz.pinned (OpenSpec.ofChange packCodesWrong)

/-- 'shunterlaw11.PackDiffers': WHATEVER THE INPUT: true; the input reads as it did. -/
def packDiffersSpec : ChangeSpec := { name := "packDiffers", fn := fun _ => fun
  | [d1, d2] => { results := [.lit (.bool true)], args := [d1, d2] }
  | _ => none }
def packDiffersRow : OpenClaim := { program := "ythafnifhhblkbaagreatdoor", sum := "7135d6b45cfb60c96dc834174838c6fc46807d074d32e505467bdacc377ad83f", func := "shunter/shunterlaw11.PackDiffers", spec := "packDiffers", inPlace := ["internal/bytealg.IndexByteString", "internal/bytealg.IndexString", "internal/abi.NoEscape", "internal/bytealg.MakeNoZero"], unfollowed := true, recurses := true, named := ["internal/bytealg.MaxLen", "shunter/image.metaWidths"], apart := false, laid := [("shunter/image.metaWidths", laid_shunter_image_metaWidths)] }
def PackDiffersSaid : Prop := packDiffersRow.holds Tryz.pinned (OpenSpec.ofChange packDiffersSpec)

/-- ITS FALSE NEIGHBOUR: 'it returns false'. Refute it at one input. -/
def packDiffersWrong : ChangeSpec := { name := "packDiffers", fn := fun _ => fun
  | [d1, d2] => { results := [.lit (.bool false)], args := [d1, d2] }
  | _ => none }
def PackDiffersWrongFalsely : Prop := packDiffersRow.holds Tryz.pinned (OpenSpec.ofChange packDiffersWrong)

/- THE SECOND FORM. 'bulk': how many values and letters a reading holds, each counted each time it is reached (what is shared counts as often as it is met; a slice's spare places count too). A statement '..UptoSaid' is the law's where the arguments, and the package variables that the reading takes, are together of bulk at most 1048576: NARROWER than '..Said'. Prove '..Said' where nothing that the law and all that it calls make is longer than what came in: it says more and counts as full. Else prove '..UptoSaid'. A law counts once. -/
mutual
def uptoBulk {H : Type} : DataW H → Nat
  | .lit (.string bytes) => bytes.length + 1
  | .lit _ => 1
  | .nil => 1
  | .ptr d => uptoBulk d + 1
  | .slice elems spare => uptoBulkAll elems + uptoBulkAll spare + 1
  | .agg parts => uptoBulkAll parts + 1
  | .iface _ d => uptoBulk d + 1
  | .map entries => uptoBulkEntries entries + 1
  | .held _ => 1
def uptoBulkAll {H : Type} : List (DataW H) → Nat
  | [] => 0
  | d :: r => uptoBulk d + uptoBulkAll r
def uptoBulkEntries {H : Type} : List (Lit × DataW H) → Nat
  | [] => 0
  | x :: r => uptoBulkEntry x + uptoBulkEntries r
def uptoBulkEntry {H : Type} : Lit × DataW H → Nat
  | (.string bytes, d) => bytes.length + uptoBulk d + 1
  | (_, d) => uptoBulk d + 1
 end
def uptoSmall : (H : Type) → List (DataW H) → Bool := fun _ ds => decide (uptoBulkAll ds ≤ 1048576)
def OpenSpec.upto (s : _root_.Go.ChangeSpec) : _root_.Go.OpenSpec := { _root_.Go.OpenSpec.ofChange s with cond := some uptoSmall }

/-- 'shunterlaw11.PackBytes', WHERE WHAT IT READS IS OF BULK AT MOST 1048576: true; the input reads as it did. -/
def packBytesUptoRow : OpenClaim := { program := "ythafnifhhblkbaagreatdoor", sum := "7135d6b45cfb60c96dc834174838c6fc46807d074d32e505467bdacc377ad83f", func := "shunter/shunterlaw11.PackBytes", spec := "packBytes", inPlace := ["internal/bytealg.IndexByteString", "internal/bytealg.IndexString", "internal/abi.NoEscape", "internal/bytealg.MakeNoZero"], unfollowed := true, recurses := true, named := ["internal/bytealg.MaxLen", "shunter/image.metaWidths"], apart := false, laid := [("shunter/image.metaWidths", laid_shunter_image_metaWidths)], narrowed := true }
def PackBytesUptoSaid : Prop := packBytesUptoRow.holds Tryz.pinned (OpenSpec.upto packBytesSpec)

/-- 'shunterlaw11.PackSections', WHERE WHAT IT READS IS OF BULK AT MOST 1048576: true; the input reads as it did. -/
def packSectionsUptoRow : OpenClaim := { program := "ythafnifhhblkbaagreatdoor", sum := "7135d6b45cfb60c96dc834174838c6fc46807d074d32e505467bdacc377ad83f", func := "shunter/shunterlaw11.PackSections", spec := "packSections", inPlace := ["internal/bytealg.IndexByteString", "internal/bytealg.IndexString", "internal/abi.NoEscape", "internal/bytealg.MakeNoZero"], unfollowed := true, recurses := true, named := ["internal/bytealg.MaxLen", "shunter/image.metaWidths"], apart := false, laid := [("shunter/image.metaWidths", laid_shunter_image_metaWidths)], narrowed := true }
def PackSectionsUptoSaid : Prop := packSectionsUptoRow.holds Tryz.pinned (OpenSpec.upto packSectionsSpec)

/-- 'shunterlaw11.PackCodes', WHERE WHAT IT READS IS OF BULK AT MOST 1048576: true; the input reads as it did. -/
def packCodesUptoRow : OpenClaim := { program := "ythafnifhhblkbaagreatdoor", sum := "7135d6b45cfb60c96dc834174838c6fc46807d074d32e505467bdacc377ad83f", func := "shunter/shunterlaw11.PackCodes", spec := "packCodes", inPlace := ["internal/bytealg.IndexByteString", "internal/bytealg.IndexString", "internal/abi.NoEscape", "internal/bytealg.MakeNoZero"], unfollowed := true, recurses := true, named := ["internal/bytealg.MaxLen", "shunter/image.metaWidths"], apart := false, laid := [("shunter/image.metaWidths", laid_shunter_image_metaWidths)], narrowed := true }
def PackCodesUptoSaid : Prop := packCodesUptoRow.holds Tryz.pinned (OpenSpec.upto packCodesSpec)

/-- 'shunterlaw11.PackDiffers', WHERE WHAT IT READS IS OF BULK AT MOST 1048576: true; the input reads as it did. -/
def packDiffersUptoRow : OpenClaim := { program := "ythafnifhhblkbaagreatdoor", sum := "7135d6b45cfb60c96dc834174838c6fc46807d074d32e505467bdacc377ad83f", func := "shunter/shunterlaw11.PackDiffers", spec := "packDiffers", inPlace := ["internal/bytealg.IndexByteString", "internal/bytealg.IndexString", "internal/abi.NoEscape", "internal/bytealg.MakeNoZero"], unfollowed := true, recurses := true, named := ["internal/bytealg.MaxLen", "shunter/image.metaWidths"], apart := false, laid := [("shunter/image.metaWidths", laid_shunter_image_metaWidths)], narrowed := true }
def PackDiffersUptoSaid : Prop := packDiffersUptoRow.holds Tryz.pinned (OpenSpec.upto packDiffersSpec)

end Rows
end Go.Proofs.YthafnifhhblkbaaGreatDoor
