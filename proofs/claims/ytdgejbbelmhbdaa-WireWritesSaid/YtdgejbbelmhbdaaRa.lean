/- The runes of texts. Conditions: none. -/
import Derived.Test.YtdgejbbelmhbdaaIt
namespace Go.Proofs.Ytdgejbbelmhbdaa
open Go Go.RowKit Go.Eng
def cont (n : Nat) : Prop := 128 ≤ n ∧ n < 192
instance (n : Nat) : Decidable (cont n) := inferInstanceAs (Decidable (_ ∧ _))
end Go.Proofs.Ytdgejbbelmhbdaa
