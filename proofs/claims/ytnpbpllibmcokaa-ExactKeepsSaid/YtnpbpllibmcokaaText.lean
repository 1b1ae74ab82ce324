/- models of functions and their walks -/
import Derived.Test.YtnpbpllibmcokaaPaQ
import Derived.Test.YtnpbpllibmcokaaHv
namespace Go.Proofs.Ytnpbpllibmcokaa
open Go Go.RowKit Go.Eng
theorem halves_t (x : BitVec 128) : Gives Try.prog 64 #[Value.agg (rowF (BitVec.getLsbD (x)))] (Value.tuple #[U (hi (x)), U (lo (x))]) := shunterref01_Halves_g 65 x _ (halves_s 65 x (by omega))
end Go.Proofs.Ytnpbpllibmcokaa
