/- models of functions and their walks -/
import Derived.Test.YtdgejbbelmhbdaaBd
namespace Go.Proofs.Ytdgejbbelmhbdaa
open Go Go.RowKit Go.Eng
theorem eg_30 : Try.prog.eqGuardType Try.prog.depth 30 = false := by kernel_rfl
theorem si_30 : Try.prog.stoodInHeld 30 = false := by kernel_rfl
set_option maxRecDepth 100000 in
theorem eqst_30 {c : Addr → Option Value} (x0 y0 : Int) (x1 y1 : BitVec 128) : ev Try.prog c (Op.equal 30 (.agg #[Value.int .i64 (x0), U (hi (x1)), U (lo (x1))]) (.agg #[Value.int .i64 (y0), U (hi (y1)), U (lo (y1))])) = some ((x0 == y0) && (x1 == y1)) := by
  have h := ev_eqStruct (P := Try.prog) (c := c) 9999 (t := 30) #[Value.int .i64 (x0), U (hi (x1)), U (lo (x1))] #[Value.int .i64 (y0), U (hi (y1)), U (lo (y1))] rfl si_30 (fun f => if f.offset = 0 then ((x0 : Int) == y0) else if f.offset = 1 then (((hi (x1)).toNat : Int) == ((hi (y1)).toNat : Int)) else (((lo (x1)).toNat : Int) == ((lo (y1)).toNat : Int)))
    (fun f hf => by
      simp only [List.mem_cons, List.not_mem_nil, or_false] at hf
      rcases hf with rfl | rfl | rfl
      · exact ⟨by decide, _, _, ev_partS (P := Try.prog) (t := 3) rfl (by intro fs h; cases h) (by intro n e h; cases h) _ _ rfl, ev_partS (P := Try.prog) (t := 3) rfl (by intro fs h; cases h) (by intro n e h; cases h) _ _ rfl, ev_eqInt _ _ _ rfl⟩
      · exact ⟨by decide, _, _, ev_partS (P := Try.prog) (t := 28) rfl (by intro fs h; cases h) (by intro n e h; cases h) _ _ rfl, ev_partS (P := Try.prog) (t := 28) rfl (by intro fs h; cases h) (by intro n e h; cases h) _ _ rfl, ev_eqInt _ _ _ rfl⟩
      · exact ⟨by decide, _, _, ev_partS (P := Try.prog) (t := 28) rfl (by intro fs h; cases h) (by intro n e h; cases h) _ _ rfl, ev_partS (P := Try.prog) (t := 28) rfl (by intro fs h; cases h) (by intro n e h; cases h) _ _ rfl, ev_eqInt _ _ _ rfl⟩)
  rw [← word_beq x1 y1]; rw [show Op.equal 30 (.agg #[Value.int .i64 (x0), U (hi (x1)), U (lo (x1))]) (.agg #[Value.int .i64 (y0), U (hi (y1)), U (lo (y1))]) = Op.equalIn (9999 + 1) 30 (.agg #[Value.int .i64 (x0), U (hi (x1)), U (lo (x1))]) (.agg #[Value.int .i64 (y0), U (hi (y1)), U (lo (y1))]) from rfl, h]
  first | (simp; done) | simp [Bool.and_assoc]
end Go.Proofs.Ytdgejbbelmhbdaa
