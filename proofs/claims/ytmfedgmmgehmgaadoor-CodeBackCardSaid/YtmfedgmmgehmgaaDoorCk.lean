/- Layer 9: the law CodeBack answers true, if the program's functions have the answers that are told. Conditions: the structure Code9, proved elsewhere. -/
import Derived.Test.YtmfedgmmgehmgaaDoorCb
import Derived.Test.YtmfedgmmgehmgaaDoorLCodeBack
namespace Go.Proofs.YtmfedgmmgehmgaaDoor
open Go Go.RowKit Go.Eng
theorem codeBack_true {N : Nat} (S : Code9 N) (o a b w : Int) (x : BitVec 128) : shunterlaw09_CodeBack_m N o a b w x = some true := by
  have hn : plain9 .nil = (0, 0, 0, 0, 0#128, false) := by
    unfold plain9
    rw [if_neg (fun h => typ_ne 0 (by decide) h.2.symm)]
  unfold shunterlaw09_CodeBack_m
  rw [S.plain, hn, Option.bind_some, if_neg (by decide), if_pos (by decide), shunterlaw09_CodeBack_k1, S.make, Option.bind_some]
  by_cases c : may9 o a b w x = 0
  · obtain ⟨t, i⟩ := step9_ok c
    have hp : plain9 (step9 o a b w x) = (o, a, b, w, x, true) := by
      unfold plain9
      rw [i, if_pos ⟨c, t⟩]
    rw [if_pos c, if_neg (fun h => h c), S.plain, hp, Option.bind_some, if_pos rfl, if_pos (by simp)]; exact S.live
  · rw [if_pos c]; exact S.live
end Go.Proofs.YtmfedgmmgehmgaaDoor
