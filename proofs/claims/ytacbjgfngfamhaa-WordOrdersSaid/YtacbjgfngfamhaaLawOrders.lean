/- law Orders -/
import Derived.Test.YtacbjgfngfamhaaReft
import Derived.Test.YtacbjgfngfamhaaLaw
namespace Go.Proofs.Ytacbjgfngfamhaa
open Go Go.RowKit Go.Eng Go.ChangeShapes Go.WideShapes Go.ChangeAt Go.Joins Go.Deep
set_option maxRecDepth 100000 in
set_option maxHeartbeats 4000000 in
theorem wordOrders_g (x y : BitVec 128) : Gives Try.prog 6 #[Value.agg #[U (hi (x)), U (lo (x))], Value.agg #[U (hi (y)), U (lo (y))]] (Value.bool (true)) := by
  have hl := len128_le x
  have hc := cmpI_bd x y
  refine gives_of_A follows Try.func6 rfl 77 rfl (upd (upd (fun _ => undef) 1 (Value.agg #[U (hi (y)), U (lo (y))])) 0 (Value.agg #[U (hi (x)), U (lo (x))])) (by funext k; match k with | 0 => rfl | 1 => rfl | k + 2 => rfl) (fun base => ?_)
  refine A_seq fun K1 hK1 => ?_
  refine A_reg ?_
  refine r_a (24, #[U (hi (x)), U (lo (x))]) rfl rfl rfl (fun b2 => ?_) (.inr rfl)
  refine r_a (24, #[U (hi (y)), U (lo (y))]) rfl rfl rfl (fun b3 => ?_) (.inr rfl)
  refine r_v (Value.bool (false)) rfl rfl rfl rfl ?_
  refine lx_nil ?_
  refine hK1 _ _ ?_; try clear hK1 K1
  refine A_seq fun K4 hK4 => ?_
  refine A_reg ?_
  refine r_l (Value.agg #[U (hi (x)), U (lo (x))]) 1 _ _ _ _ rfl rfl rfl rfl rfl ?_
  refine r_l (Value.agg #[U (hi (y)), U (lo (y))]) 0 _ _ _ _ rfl rfl rfl rfl rfl ?_
  refine r_c (Value.int .i64 (cmpI (x) (y))) rfl _ _ (ev_callF rfl call_29 rfl) (cmp_g (x) (y)) ?_
  refine r_v (Value.int .i64 (cmpI (x) (y))) rfl rfl rfl rfl ?_
  refine lx_nil ?_
  refine hK4 _ _ ?_; try clear hK4 K4
  refine A_seq fun K5 hK5 => ?_
  refine A_seq fun K6 hK6 => ?_
  refine A_draw [] (by decide +kernel) (fun hn => sep_nil) ?_
  refine r_v (Value.int .i64 (cmpI (x) (y))) rfl rfl rfl rfl ?_
  refine r_v (Value.bool (decide ((cmpI (x) (y) : Int) < -1))) rfl rfl rfl rfl ?_
  refine r_v (Value.bool (decide ((cmpI (x) (y) : Int) < -1))) rfl rfl rfl rfl ?_
  have hg7 : (decide ((cmpI (x) (y) : Int) < -1)) = false := (by first | exact cmpI_lo x y | exact cmpI_hi x y | exact cmpI_swap x y | (rw [cmpI_eq]; exact bne_self_eq_false _) | (rw [cmpI_lt]; exact bne_self_eq_false _) | exact decide_eq_false (by omega) | exact bne_self_eq_false _)
  rw [hg7]
  refine r_y rfl ?_
  refine r_v (Value.int .i64 (cmpI (x) (y))) rfl rfl rfl rfl ?_
  refine r_y rfl ?_
  refine r_v (Value.bool (decide ((cmpI (x) (y) : Int) > 1))) rfl rfl rfl rfl ?_
  refine r_v (Value.bool (decide ((cmpI (x) (y) : Int) > 1))) rfl rfl rfl rfl ?_
  refine r_v (Value.bool (decide ((cmpI (x) (y) : Int) > 1))) rfl rfl rfl rfl ?_
  have hg8 : (decide ((cmpI (x) (y) : Int) > 1)) = false := (by first | exact cmpI_lo x y | exact cmpI_hi x y | exact cmpI_swap x y | (rw [cmpI_eq]; exact bne_self_eq_false _) | (rw [cmpI_lt]; exact bne_self_eq_false _) | exact decide_eq_false (by omega) | exact bne_self_eq_false _)
  rw [hg8]
  refine r_y rfl ?_
  refine r_l (Value.agg #[U (hi (y)), U (lo (y))]) 0 _ _ _ _ rfl rfl rfl rfl rfl ?_
  refine r_y rfl ?_
  refine r_l (Value.agg #[U (hi (x)), U (lo (x))]) 1 _ _ _ _ rfl rfl rfl rfl rfl ?_
  refine r_y rfl ?_
  refine r_c (Value.int .i64 (cmpI (y) (x))) rfl _ _ (ev_callF rfl call_29 rfl) (cmp_g (y) (x)) ?_
  refine r_y rfl ?_
  refine r_v (Value.int .i64 (cmpI (x) (y))) rfl rfl rfl rfl ?_
  refine r_y rfl ?_
  refine r_v (Value.int .i64 (0 - (cmpI (x) (y)))) rfl rfl (wi64 rfl (by omega) (by omega)) rfl ?_
  refine r_y rfl ?_
  refine r_v (Value.bool (((cmpI (y) (x) : Int) != 0 - (cmpI (x) (y))))) rfl rfl rfl rfl ?_
  refine r_v (Value.bool (((cmpI (y) (x) : Int) != 0 - (cmpI (x) (y))))) rfl rfl rfl rfl ?_
  refine r_v (Value.bool (((cmpI (y) (x) : Int) != 0 - (cmpI (x) (y))))) rfl rfl rfl rfl ?_
  have hg9 : (((cmpI (y) (x) : Int) != 0 - (cmpI (x) (y)))) = false := (by first | exact cmpI_lo x y | exact cmpI_hi x y | exact cmpI_swap x y | (rw [cmpI_eq]; exact bne_self_eq_false _) | (rw [cmpI_lt]; exact bne_self_eq_false _) | exact decide_eq_false (by omega) | exact bne_self_eq_false _)
  rw [hg9]
  refine r_y rfl ?_
  refine r_v (Value.int .i64 (cmpI (x) (y))) rfl rfl rfl rfl ?_
  refine r_y rfl ?_
  refine r_v (Value.bool (((cmpI (x) (y) : Int) == 0))) rfl rfl rfl rfl ?_
  refine r_y rfl ?_
  refine r_l (Value.agg #[U (hi (x)), U (lo (x))]) 1 _ _ _ _ rfl rfl rfl rfl rfl ?_
  refine r_y rfl ?_
  refine r_l (Value.agg #[U (hi (y)), U (lo (y))]) 0 _ _ _ _ rfl rfl rfl rfl rfl ?_
  refine r_y rfl ?_
  refine r_v (Value.bool ((x) == (y))) rfl rfl rfl (ev_binEq rfl rfl eg_24 (eqword_24 (x) (y))) ?_
  refine r_y rfl ?_
  refine r_v (Value.bool ((((cmpI (x) (y) : Int) == 0)) != ((x) == (y)))) rfl rfl rfl (ev_binBn rfl rfl rfl) ?_
  refine r_v (Value.bool ((((cmpI (x) (y) : Int) == 0)) != ((x) == (y)))) rfl rfl rfl rfl ?_
  refine r_v (Value.bool ((((cmpI (x) (y) : Int) == 0)) != ((x) == (y)))) rfl rfl rfl rfl ?_
  have hg10 : ((((cmpI (x) (y) : Int) == 0)) != ((x) == (y))) = false := (by first | exact cmpI_lo x y | exact cmpI_hi x y | exact cmpI_swap x y | (rw [cmpI_eq]; exact bne_self_eq_false _) | (rw [cmpI_lt]; exact bne_self_eq_false _) | exact decide_eq_false (by omega) | exact bne_self_eq_false _)
  rw [hg10]
  refine r_y rfl ?_
  refine r_v (Value.int .i64 (cmpI (x) (y))) rfl rfl rfl rfl ?_
  refine r_y rfl ?_
  refine r_v (Value.bool (decide ((cmpI (x) (y) : Int) < 0))) rfl rfl rfl rfl ?_
  refine r_y rfl ?_
  refine r_l (Value.agg #[U (hi (x)), U (lo (x))]) 1 _ _ _ _ rfl rfl rfl rfl rfl ?_
  refine r_y rfl ?_
  refine r_c (Value.agg (rowF (BitVec.getLsbD (x)))) rfl _ _ (ev_callF rfl call_11 rfl) (lof_g (x)) ?_
  refine r_y rfl ?_
  refine r_l (Value.agg #[U (hi (y)), U (lo (y))]) 0 _ _ _ _ rfl rfl rfl rfl rfl ?_
  refine r_y rfl ?_
  refine r_c (Value.agg (rowF (BitVec.getLsbD (y)))) rfl _ _ (ev_callF rfl call_11 rfl) (lof_g (y)) ?_
  refine r_y rfl ?_
  refine r_c (Value.bool (decide ((x) < (y)))) rfl _ _ (ev_callF rfl call_30 rfl) (less_g (x) (y)) ?_
  refine r_y rfl ?_
  refine r_v (Value.bool ((decide ((cmpI (x) (y) : Int) < 0)) != (decide ((x) < (y))))) rfl rfl rfl (ev_binBn rfl rfl rfl) ?_
  refine r_v (Value.bool ((decide ((cmpI (x) (y) : Int) < 0)) != (decide ((x) < (y))))) rfl rfl rfl rfl ?_
  refine lx_nil ?_
  refine hK6 _ _ ?_; try clear hK6 K6
  refine A_cond ((decide ((cmpI (x) (y) : Int) < 0)) != (decide ((x) < (y)))) rfl (fun h => absurd (h.symm.trans (show ((decide ((cmpI (x) (y) : Int) < 0)) != (decide ((x) < (y)))) = false from (by first | exact cmpI_lo x y | exact cmpI_hi x y | exact cmpI_swap x y | (rw [cmpI_eq]; exact bne_self_eq_false _) | (rw [cmpI_lt]; exact bne_self_eq_false _) | exact decide_eq_false (by omega) | exact bne_self_eq_false _))) (by decide)) (fun _ => ?_)
  refine A_skip ?_
  refine hK5 _ _ ?_; try clear hK5 K5
  refine A_seq fun K12 hK12 => ?_
  refine A_reg ?_
  refine r_l (Value.agg #[U (hi (x)), U (lo (x))]) 1 _ _ _ _ rfl rfl rfl rfl rfl ?_
  refine r_c (Value.int .i64 (((len128 (x) : Nat) : Int))) rfl _ _ (ev_callF rfl call_31 rfl) (len_g (x)) ?_
  refine r_v (Value.int .i64 (((len128 (x) : Nat) : Int))) rfl rfl rfl rfl ?_
  refine lx_nil ?_
  refine hK12 _ _ ?_; try clear hK12 K12
  refine A_seq fun K13 hK13 => ?_
  refine A_seq fun K14 hK14 => ?_
  refine A_reg ?_
  refine r_v (Value.int .i64 (((len128 (x) : Nat) : Int))) rfl rfl rfl rfl ?_
  refine r_v (Value.bool (decide ((((len128 (x) : Nat) : Int) : Int) < 0))) rfl rfl rfl rfl ?_
  refine r_v (Value.bool (decide ((((len128 (x) : Nat) : Int) : Int) < 0))) rfl rfl rfl rfl ?_
  have hg15 : (decide ((((len128 (x) : Nat) : Int) : Int) < 0)) = false := (by first | exact cmpI_lo x y | exact cmpI_hi x y | exact cmpI_swap x y | (rw [cmpI_eq]; exact bne_self_eq_false _) | (rw [cmpI_lt]; exact bne_self_eq_false _) | exact decide_eq_false (by omega) | exact bne_self_eq_false _)
  rw [hg15]
  refine r_y rfl ?_
  refine r_v (Value.int .i64 (((len128 (x) : Nat) : Int))) rfl rfl rfl rfl ?_
  refine r_y rfl ?_
  refine r_v (Value.bool (decide ((((len128 (x) : Nat) : Int) : Int) > 128))) rfl rfl rfl rfl ?_
  refine r_v (Value.bool (decide ((((len128 (x) : Nat) : Int) : Int) > 128))) rfl rfl rfl rfl ?_
  refine r_v (Value.bool (decide ((((len128 (x) : Nat) : Int) : Int) > 128))) rfl rfl rfl rfl ?_
  have hg16 : (decide ((((len128 (x) : Nat) : Int) : Int) > 128)) = false := (by first | exact cmpI_lo x y | exact cmpI_hi x y | exact cmpI_swap x y | (rw [cmpI_eq]; exact bne_self_eq_false _) | (rw [cmpI_lt]; exact bne_self_eq_false _) | exact decide_eq_false (by omega) | exact bne_self_eq_false _)
  rw [hg16]
  refine r_y rfl ?_
  refine r_v (Value.int .i64 (((len128 (x) : Nat) : Int))) rfl rfl rfl rfl ?_
  refine r_y rfl ?_
  refine r_l (Value.agg #[U (hi (x)), U (lo (x))]) 1 _ _ _ _ rfl rfl rfl rfl rfl ?_
  refine r_y rfl ?_
  refine r_c (Value.agg (rowF (BitVec.getLsbD (x)))) rfl _ _ (ev_callF rfl call_11 rfl) (lof_g (x)) ?_
  refine r_y rfl ?_
  refine r_c (Value.int .i64 (((len128 (x) : Nat) : Int))) rfl _ _ (ev_callF rfl call_32 rfl) (rlen_g (x)) ?_
  refine r_y rfl ?_
  refine r_v (Value.bool (((((len128 (x) : Nat) : Int) : Int) != ((len128 (x) : Nat) : Int)))) rfl rfl rfl rfl ?_
  refine r_v (Value.bool (((((len128 (x) : Nat) : Int) : Int) != ((len128 (x) : Nat) : Int)))) rfl rfl rfl rfl ?_
  refine lx_nil ?_
  refine hK14 _ _ ?_; try clear hK14 K14
  refine A_cond (((((len128 (x) : Nat) : Int) : Int) != ((len128 (x) : Nat) : Int))) rfl (fun h => absurd (h.symm.trans (show (((((len128 (x) : Nat) : Int) : Int) != ((len128 (x) : Nat) : Int))) = false from (by first | exact cmpI_lo x y | exact cmpI_hi x y | exact cmpI_swap x y | (rw [cmpI_eq]; exact bne_self_eq_false _) | (rw [cmpI_lt]; exact bne_self_eq_false _) | exact decide_eq_false (by omega) | exact bne_self_eq_false _))) (by decide)) (fun _ => ?_)
  refine A_skip ?_
  refine hK13 _ _ ?_; try clear hK13 K13
  refine A_seq fun K18 hK18 => ?_
  refine A_draw [] (by decide +kernel) (fun hn => sep_nil) ?_
  refine r_l (Value.agg #[U (hi (x)), U (lo (x))]) 1 _ _ _ _ rfl rfl rfl rfl rfl ?_
  refine r_v (Value.int .i64 (((len128 (x) : Nat) : Int))) rfl rfl rfl rfl ?_
  refine r_c (Value.agg #[U (hi (onesI (((len128 (x) : Nat) : Int)))), U (lo (onesI (((len128 (x) : Nat) : Int))))]) rfl _ _ (ev_callF rfl call_24 rfl) (ones_g (((len128 (x) : Nat) : Int)) (by omega) (by omega)) ?_
  refine r_c (Value.int .i64 (cmpI (x) (onesI (((len128 (x) : Nat) : Int))))) rfl _ _ (ev_callF rfl call_29 rfl) (cmp_g (x) (onesI (((len128 (x) : Nat) : Int)))) ?_
  refine r_v (Value.bool (decide ((cmpI (x) (onesI (((len128 (x) : Nat) : Int))) : Int) ≤ 0))) rfl rfl rfl rfl ?_
  refine r_v (Value.bool (decide ((cmpI (x) (onesI (((len128 (x) : Nat) : Int))) : Int) ≤ 0))) rfl rfl rfl rfl ?_
  have hg19 : (decide ((cmpI (x) (onesI (((len128 (x) : Nat) : Int))) : Int) ≤ 0)) = true := (decide_eq_true (ones_above x))
  rw [hg19]
  refine r_y rfl ?_
  refine r_v (Value.int .i64 (((len128 (x) : Nat) : Int))) rfl rfl rfl rfl ?_
  refine r_y rfl ?_
  refine r_v (Value.bool (((((len128 (x) : Nat) : Int) : Int) == 0))) rfl rfl rfl rfl ?_
  refine r_y rfl ?_
  refine r_v (Value.bool (((((len128 (x) : Nat) : Int) : Int) == 0))) rfl rfl rfl rfl ?_
  rcases hg20 : (((((len128 (x) : Nat) : Int) : Int) == 0)) with _ | _
  · have hg20x := ne_of_beq_false hg20
    refine r_y rfl ?_
    refine r_l (Value.agg #[U (hi (x)), U (lo (x))]) 1 _ _ _ _ rfl rfl rfl rfl rfl ?_
    refine r_y rfl ?_
    refine r_v (Value.int .i64 (((len128 (x) : Nat) : Int))) rfl rfl rfl rfl ?_
    refine r_y rfl ?_
    refine r_v (Value.int .i64 ((((len128 (x) : Nat) : Int)) - (1))) rfl rfl (wi64 (by omega) (by omega) (by omega)) rfl ?_
    refine r_y rfl ?_
    refine r_c (Value.agg #[U (hi (onesI ((((len128 (x) : Nat) : Int)) - (1)))), U (lo (onesI ((((len128 (x) : Nat) : Int)) - (1))))]) rfl _ _ (ev_callF rfl call_24 rfl) (ones_g ((((len128 (x) : Nat) : Int)) - (1)) (by omega) (by omega)) ?_
    refine r_y rfl ?_
    refine r_c (Value.int .i64 (cmpI (x) (onesI ((((len128 (x) : Nat) : Int)) - (1))))) rfl _ _ (ev_callF rfl call_29 rfl) (cmp_g (x) (onesI ((((len128 (x) : Nat) : Int)) - (1)))) ?_
    refine r_y rfl ?_
    refine r_v (Value.bool (decide ((cmpI (x) (onesI ((((len128 (x) : Nat) : Int)) - (1))) : Int) > 0))) rfl rfl rfl rfl ?_
    refine r_y rfl ?_
    refine r_v (Value.bool (decide ((cmpI (x) (onesI ((((len128 (x) : Nat) : Int)) - (1))) : Int) > 0))) rfl rfl rfl rfl ?_
    refine r_v (Value.bool (decide ((cmpI (x) (onesI ((((len128 (x) : Nat) : Int)) - (1))) : Int) > 0))) rfl rfl rfl rfl ?_
    refine r_v (Value.bool (decide ((cmpI (x) (onesI ((((len128 (x) : Nat) : Int)) - (1))) : Int) > 0))) rfl rfl rfl rfl ?_
    have hg21 : (decide ((cmpI (x) (onesI ((((len128 (x) : Nat) : Int)) - (1))) : Int) > 0)) = true := (decide_eq_true (ones_below x hg20))
    rw [hg21]
    refine r_y rfl ?_
    refine r_c (Value.bool (true)) rfl _ _ (ev_callF rfl call_14 rfl) lives_g ?_
    refine r_v (Value.bool (true)) rfl rfl rfl rfl ?_
    refine r_v (Value.bool (true)) rfl rfl rfl rfl ?_
    refine lx_nil ?_
    refine hK18 _ _ ?_; try clear hK18 K18
    refine A_ret (fun hn => ends_eq (v0 := Value.bool (true)) rfl (res1 rfl))
  · have hg20x := eq_of_beq hg20
    refine r_n true rfl (by decide) rfl ?_
    refine r_n true rfl (by decide) rfl ?_
    refine r_n true rfl (by decide) rfl ?_
    refine r_n true rfl (by decide) rfl ?_
    refine r_n true rfl (by decide) rfl ?_
    refine r_n true rfl (by decide) rfl ?_
    refine r_y rfl ?_
    refine r_v (Value.bool (true)) rfl rfl rfl rfl ?_
    refine r_v (Value.bool (true)) rfl rfl rfl rfl ?_
    refine r_v (Value.bool (true)) rfl rfl rfl rfl ?_
    refine r_y rfl ?_
    refine r_c (Value.bool (true)) rfl _ _ (ev_callF rfl call_14 rfl) lives_g ?_
    refine r_v (Value.bool (true)) rfl rfl rfl rfl ?_
    refine r_v (Value.bool (true)) rfl rfl rfl rfl ?_
    refine lx_nil ?_
    refine hK18 _ _ ?_; try clear hK18 K18
    refine A_ret (fun hn => ends_eq (v0 := Value.bool (true)) rfl (res1 rfl))
set_option maxRecDepth 100000 in
theorem wordOrders_lifted (os : Os) (started : os.Started) (H : Type) (enc : TypeId × Value → H) :
    ReturnsInHanded {} Try.checked os 6 .any (Rows.wordOrdersSpec.pre6 enc Try.prog Try.f6 Rows.wordOrdersRow.domain false) (Rows.wordOrdersSpec.post enc Try.prog Try.f6 false true false false) := by
  refine returnsInHanded_of_change (C := Try.checked) own started (by kernel_rfl) Try.func6
    (ChangeSpec.witness6 (enc := enc) (C := Try.checked) false ⟨#[], #[.agg #[.int .u64 0, .int .u64 0], .agg #[.int .u64 0, .int .u64 0]], []⟩ 8 (by kernel_rfl) (by kernel_rfl) (by kernel_rfl) (by kernel_rfl)) ?_
  intro W base args ds gs before hval0 hW _ _
  have hval : ∀ (j : Nat) t v, Try.f6.params[j]? = some t → args[j]? = some v → Value.okWide Try.prog W .any base t v := hval0
  have hW' := hW
  obtain ⟨p, q, hA0, hV, rfl, _, _⟩ := hW
  have hA : DataW.TrodAll enc Try.prog W 0 (fun _ => true) true Try.f6.params.toList args.toList ds p := hA0
  rw [Try.params6] at hA hval
  obtain ⟨v0, v1, d0, d1, p0, p1, rfl, rfl, rfl, h0, h1⟩ := trodAll_two hA
  obtain ⟨rfl, rfl⟩ := trodVars_none hV
  obtain ⟨x0, rfl⟩ := open_word (P := Try.prog) (t := 24) rfl (by kernel_rfl) (by kernel_rfl) rfl rfl (hval 0 24 v0 rfl rfl) h0
  obtain ⟨x1, rfl⟩ := open_word (P := Try.prog) (t := 24) rfl (by kernel_rfl) (by kernel_rfl) rfl rfl (hval 1 24 v1 rfl rfl) h1
  refine ((wordOrders_g x0 x1) W).mono fun e W' ⟨he, hb⟩ => ?_
  subst he
  exact ⟨_, rfl, law_post (f := Try.f6) laidOut (by kernel_rfl) rfl (by rfl) rfl hW' rfl hb⟩

theorem wordOrders_holds : Rows.WordOrdersSaid :=
  OpenClaim.holds_of_wide 6 Try.f6 rfl rfl rfl rfl rfl rfl rfl ⟨rfl, rfl, rfl, rfl, rfl⟩ rfl rfl rfl rfl rfl (by kernel_rfl) Try.func6 (by kernel_rfl)
    (of_decide_eq_true (by kernel_rfl)) (by unfold Func.isWrapper; first | (rw [if_pos (by decide +kernel)]; kernel_rfl) | (rw [if_neg (by decide +kernel)]; exact ⟨rfl, rfl⟩))
    (fun os started H enc _ => wordOrders_lifted os started H enc)

end Go.Proofs.Ytacbjgfngfamhaa
