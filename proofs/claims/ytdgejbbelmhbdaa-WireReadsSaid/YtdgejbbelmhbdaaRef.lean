/- rows -/
import Derived.Test.YtdgejbbelmhbdaaWord
import Derived.Test.YtdgejbbelmhbdaaSm
namespace Go.Proofs.Ytdgejbbelmhbdaa
open Go Go.RowKit Go.Eng
theorem z_87 : ((Try.prog.info? 87).bind (·.zero)) = some (.agg ⟨List.replicate 128 (.bool false)⟩) := by kernel_rfl
end Go.Proofs.Ytdgejbbelmhbdaa
