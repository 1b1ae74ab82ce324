/- models of functions and their walks -/
import Derived.Test.YtadofkoenljikaaPaW
namespace Go.Proofs.Ytadofkoenljikaa
open Go Go.RowKit Go.Eng
set_option maxRecDepth 100000 in
set_option maxHeartbeats 400000 in
theorem textx_g (x : BitVec 128) (b : Int) (hb : ¬ (2 ≤ b ∧ b ≤ 16)) : Gives Try.prog 4 #[Value.agg #[U (hi (x)), U (lo (x))], Value.int .i64 (b)] (Value.string (⟨([]).toArray⟩)) := by
  refine gives_of_A follows Try.func4 rfl 34 rfl (upd (upd (fun _ => undef) 1 (Value.int .i64 (b))) 0 (Value.agg #[U (hi (x)), U (lo (x))])) (by funext k; match k with | 0 => rfl | 1 => rfl | k + 2 => rfl) (fun base => ?_)
  refine A_seq fun K1 hK1 => ?_
  refine A_reg ?_
  refine r_a (24, #[U (hi (x)), U (lo (x))]) rfl rfl rfl (fun b2 => ?_) (.inr rfl)
  refine r_v (Value.string (⟨#[]⟩)) rfl rfl rfl rfl ?_
  refine lx_nil ?_
  refine hK1 _ _ ?_; try clear hK1 K1
  refine A_seq fun K3 hK3 => ?_
  refine A_seq fun K4 hK4 => ?_
  refine A_reg ?_
  refine r_v (Value.int .i64 (b)) rfl rfl rfl rfl ?_
  refine r_c (Value.bool (decide (b ≥ 2) && decide (b ≤ 16))) rfl _ _ (ev_callF rfl call_8 rfl) (mayBase_g (b)) ?_
  refine r_v (Value.bool (!(decide (b ≥ 2) && decide (b ≤ 16)))) rfl rfl rfl rfl ?_
  refine lx_nil ?_
  refine hK4 _ _ ?_; try clear hK4 K4
  refine A_cond (!(decide (b ≥ 2) && decide (b ≤ 16))) rfl (fun _ => ?_) (fun h_ => absurd (h_.symm.trans (show (!(decide (b ≥ 2) && decide (b ≤ 16))) = true by simp only [Bool.not_eq_true', Bool.and_eq_false_iff, decide_eq_false_iff_not]; omega)) (by decide))
  refine A_seq fun K6 hK6 => ?_
  refine A_reg ?_
  refine r_v (Value.string (⟨#[]⟩)) rfl rfl rfl rfl ?_
  refine lx_nil ?_
  refine hK6 _ _ ?_; try clear hK6 K6
  refine A_ret (fun hn => ends_eq (v0 := Value.string (⟨#[]⟩)) (by simp []) (res1 rfl))
def textI (b : Int) (x : BitVec 128) : List UInt8 := if 2 ≤ b ∧ b ≤ 16 then textL b.toNat 128 x.toNat else []
theorem text_t (x : BitVec 128) (b : Int) : Gives Try.prog 4 #[Value.agg #[U (hi (x)), U (lo (x))], Value.int .i64 b] (Value.string (⟨(textI b x).toArray⟩)) := by
  unfold textI
  by_cases h : 2 ≤ b ∧ b ≤ 16
  · rw [if_pos h]
    have := text_g x b.toNat (by omega) (by omega)
    rwa [show ((b.toNat : Nat) : Int) = b from by omega] at this
  · rw [if_neg h]; exact textx_g x b h
theorem parse_t (s : List UInt8) (b : Int) (hs : s.length ≤ 4611686018427387904) : Gives Try.prog 6 #[Value.string (⟨(s).toArray⟩), Value.int .i64 b] (Value.tuple #[Value.agg #[U (hi ((parseR s b).1)), U (lo ((parseR s b).1))], Value.int .i64 ((parseR s b).2)]) :=
  word_Parse_g (s.length + 1) s b _ (parse_s _ s b hs (by omega))
end Go.Proofs.Ytadofkoenljikaa
