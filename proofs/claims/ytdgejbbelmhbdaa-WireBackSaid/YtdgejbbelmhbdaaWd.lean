/- Layer 7: what is read, step by step, is the document's. Conditions: fuel, lengths. -/
import Derived.Test.YtdgejbbelmhbdaaWr
namespace Go.Proofs.Ytdgejbbelmhbdaa
open Go Go.RowKit Go.Eng
theorem Goes.self {r : List UInt8} {a : Int} (ha : 0 ≤ a ∧ a ≤ (r.length : Int)) (e : Int) : Goes r a e (r.drop a.toNat, a, e, a) := ⟨ha, rfl, rfl, rfl, fun _ => rfl⟩
theorem end_s (N : Nat) (r : List UInt8) (hr : r.length ≤ 1000000) (a e : Int) (ha : 0 ≤ a ∧ a ≤ (r.length : Int)) : wire_Reader_End_v1_m N r a e = some (if e ≠ 0 then .t80 e a else if (r.length : Int) - a > 0 then .t80 2 a else .nil) := by
  unfold wire_Reader_End_v1_m wire_Reader_Left_v1_m
  by_cases he : e = 0
  · rw [if_neg (fun h => h he), if_neg (fun h => h he), ck_pos _ (by omega), Option.bind_some]
    by_cases h1 : (r.length : Int) - a > 0
    · rw [if_pos h1, if_pos h1]
    · rw [if_neg h1, if_neg h1]
  · rw [if_pos he, if_pos he]
theorem read_s (N : Nat) (b : List UInt8) (hb : b.length ≤ 1000000) : wire_Read_m N b = some (b, 0, 0) := by
  unfold wire_Read_m
  rw [cl_s N b (by omega)]; rfl
end Go.Proofs.Ytdgejbbelmhbdaa
