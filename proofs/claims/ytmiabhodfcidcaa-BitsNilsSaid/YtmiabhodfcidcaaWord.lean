/- words -/
import Derived.Test.YtmiabhodfcidcaaRows
import Derived.Test.YtmiabhodfcidcaaTm
import Derived.Test.YtmiabhodfcidcaaShelf
namespace Go.Proofs.Ytmiabhodfcidcaa
open Go Go.RowKit Go.Eng
theorem follows : Try.prog.follows .mixedOrders = true := by kernel_rfl
theorem call_3 : callB Try.prog 3 = true := by kernel_rfl
theorem call_4 : callB Try.prog 4 = true := by kernel_rfl
theorem call_5 : callB Try.prog 5 = true := by kernel_rfl
theorem call_6 : callB Try.prog 6 = true := by kernel_rfl
theorem call_7 : callB Try.prog 7 = true := by kernel_rfl
theorem call_8 : callB Try.prog 8 = true := by kernel_rfl
theorem call_9 : callB Try.prog 9 = true := by kernel_rfl
theorem call_10 : callB Try.prog 10 = true := by kernel_rfl
theorem call_11 : callB Try.prog 11 = true := by kernel_rfl
theorem call_12 : callB Try.prog 12 = true := by kernel_rfl
theorem call_13 : callB Try.prog 13 = true := by kernel_rfl
theorem call_14 : callB Try.prog 14 = true := by kernel_rfl
theorem call_15 : callB Try.prog 15 = true := by kernel_rfl
theorem call_16 : callB Try.prog 16 = true := by kernel_rfl
theorem call_17 : callB Try.prog 17 = true := by kernel_rfl
theorem call_18 : callB Try.prog 18 = true := by kernel_rfl
theorem call_19 : callB Try.prog 19 = true := by kernel_rfl
theorem call_20 : callB Try.prog 20 = true := by kernel_rfl
theorem call_21 : callB Try.prog 21 = true := by kernel_rfl
theorem call_22 : callB Try.prog 22 = true := by kernel_rfl
theorem call_23 : callB Try.prog 23 = true := by kernel_rfl
theorem call_24 : callB Try.prog 24 = true := by kernel_rfl
theorem call_25 : callB Try.prog 25 = true := by kernel_rfl
theorem call_26 : callB Try.prog 26 = true := by kernel_rfl
theorem call_27 : callB Try.prog 27 = true := by kernel_rfl
theorem call_28 : callB Try.prog 28 = true := by kernel_rfl
theorem call_29 : callB Try.prog 29 = true := by kernel_rfl
theorem call_30 : callB Try.prog 30 = true := by kernel_rfl
theorem call_31 : callB Try.prog 31 = true := by kernel_rfl
theorem call_32 : callB Try.prog 32 = true := by kernel_rfl
theorem call_33 : callB Try.prog 33 = true := by kernel_rfl
theorem call_34 : callB Try.prog 34 = true := by kernel_rfl
theorem call_35 : callB Try.prog 35 = true := by kernel_rfl
theorem call_36 : callB Try.prog 36 = true := by kernel_rfl
theorem call_37 : callB Try.prog 37 = true := by kernel_rfl
theorem call_38 : callB Try.prog 38 = true := by kernel_rfl
theorem call_39 : callB Try.prog 39 = true := by kernel_rfl
theorem call_40 : callB Try.prog 40 = true := by kernel_rfl
theorem call_41 : callB Try.prog 41 = true := by kernel_rfl
theorem call_42 : callB Try.prog 42 = true := by kernel_rfl
theorem call_43 : callB Try.prog 43 = true := by kernel_rfl
theorem call_44 : callB Try.prog 44 = true := by kernel_rfl
theorem call_45 : callB Try.prog 45 = true := by kernel_rfl
theorem call_46 : callB Try.prog 46 = true := by kernel_rfl
theorem call_47 : callB Try.prog 47 = true := by kernel_rfl
theorem call_48 : callB Try.prog 48 = true := by kernel_rfl
theorem call_49 : callB Try.prog 49 = true := by kernel_rfl
theorem call_50 : callB Try.prog 50 = true := by kernel_rfl
theorem call_51 : callB Try.prog 51 = true := by kernel_rfl
theorem call_52 : callB Try.prog 52 = true := by kernel_rfl
theorem call_53 : callB Try.prog 53 = true := by kernel_rfl
theorem call_54 : callB Try.prog 54 = true := by kernel_rfl
theorem call_55 : callB Try.prog 55 = true := by kernel_rfl
theorem call_56 : callB Try.prog 56 = true := by kernel_rfl
theorem call_57 : callB Try.prog 57 = true := by kernel_rfl
theorem call_58 : callB Try.prog 58 = true := by kernel_rfl
set_option maxRecDepth 100000 in
set_option maxHeartbeats 400000 in
theorem not_g (x : BitVec 128) : Gives Try.prog 58 #[Value.agg #[U (hi (x)), U (lo (x))]] (Value.agg #[U (hi (~~~(x))), U (lo (~~~(x)))]) := by
  refine gives_of_A follows Try.func58 rfl 10 rfl (upd (fun _ => undef) 0 (Value.agg #[U (hi (x)), U (lo (x))])) (by funext k; match k with | 0 => rfl | k + 1 => rfl) (fun base => ?_)
  refine A_seq fun K1 hK1 => ?_
  refine A_reg ?_
  refine r_a (62, #[U (hi (x)), U (lo (x))]) rfl rfl rfl (fun b2 => ?_) (.inr rfl)
  refine r_a (62, #[U (0#64), U (0#64)]) rfl rfl rfl (fun b3 => ?_) (.inr rfl)
  refine lx_nil ?_
  refine hK1 _ _ ?_; try clear hK1 K1
  refine A_seq fun K4 hK4 => ?_
  refine A_reg ?_
  refine r_v (Value.pointer (some ⟨b2, 0, none⟩)) rfl rfl rfl rfl ?_
  refine r_l (U (hi (x))) 1 _ _ _ _ rfl rfl rfl rfl rfl ?_
  refine r_v (U (~~~(hi (x)))) rfl rfl (U_not (hi (x))) rfl ?_
  refine r_v (Value.pointer (some ⟨b2, 1, none⟩)) rfl rfl rfl rfl ?_
  refine r_l (U (lo (x))) 1 _ _ _ _ rfl rfl rfl rfl rfl ?_
  refine r_v (U (~~~(lo (x)))) rfl rfl (U_not (lo (x))) rfl ?_
  refine r_v (Value.agg #[U (~~~(hi (x))), U (~~~(lo (x)))]) rfl rfl rfl (ev_buildS rfl rfl rfl rfl) ?_
  refine r_s [(b3, 62, #[U (~~~(hi (x))), U (~~~(lo (x)))]), (b2, 62, #[U (hi (x)), U (lo (x))])] 0 _ _ _ (#[U (0#64), U (0#64)]) (#[U (~~~(hi (x))), U (~~~(lo (x)))]) (#[U (~~~(hi (x))), U (~~~(lo (x)))]) rfl rfl rfl rfl (.of rfl rfl) rfl rfl ?_
  refine lx_nil ?_
  refine hK4 _ _ ?_; try clear hK4 K4
  refine A_ret (fun hn => ends_eq (v0 := Value.agg #[U (~~~(hi (x))), U (~~~(lo (x)))]) (by simp only [hi_not, lo_not]) (res1 (res_cell hn 0 rfl rfl rfl)))
set_option maxRecDepth 100000 in
set_option maxHeartbeats 400000 in
theorem and_g (x y : BitVec 128) : Gives Try.prog 55 #[Value.agg #[U (hi (x)), U (lo (x))], Value.agg #[U (hi (y)), U (lo (y))]] (Value.agg #[U (hi (x &&& y)), U (lo (x &&& y))]) := by
  refine gives_of_A follows Try.func55 rfl 16 rfl (upd (upd (fun _ => undef) 1 (Value.agg #[U (hi (y)), U (lo (y))])) 0 (Value.agg #[U (hi (x)), U (lo (x))])) (by funext k; match k with | 0 => rfl | 1 => rfl | k + 2 => rfl) (fun base => ?_)
  refine A_seq fun K1 hK1 => ?_
  refine A_reg ?_
  refine r_a (62, #[U (hi (x)), U (lo (x))]) rfl rfl rfl (fun b2 => ?_) (.inr rfl)
  refine r_a (62, #[U (hi (y)), U (lo (y))]) rfl rfl rfl (fun b3 => ?_) (.inr rfl)
  refine r_a (62, #[U (0#64), U (0#64)]) rfl rfl rfl (fun b4 => ?_) (.inr rfl)
  refine lx_nil ?_
  refine hK1 _ _ ?_; try clear hK1 K1
  refine A_seq fun K5 hK5 => ?_
  refine A_reg ?_
  refine r_v (Value.pointer (some ⟨b2, 0, none⟩)) rfl rfl rfl rfl ?_
  refine r_l (U (hi (x))) 2 _ _ _ _ rfl rfl rfl rfl rfl ?_
  refine r_v (Value.pointer (some ⟨b3, 0, none⟩)) rfl rfl rfl rfl ?_
  refine r_l (U (hi (y))) 1 _ _ _ _ rfl rfl rfl rfl rfl ?_
  refine r_v (U ((hi (x) &&& hi (y)))) rfl rfl (U_and (hi (x)) (hi (y))) rfl ?_
  refine r_v (Value.pointer (some ⟨b2, 1, none⟩)) rfl rfl rfl rfl ?_
  refine r_l (U (lo (x))) 2 _ _ _ _ rfl rfl rfl rfl rfl ?_
  refine r_v (Value.pointer (some ⟨b3, 1, none⟩)) rfl rfl rfl rfl ?_
  refine r_l (U (lo (y))) 1 _ _ _ _ rfl rfl rfl rfl rfl ?_
  refine r_v (U ((lo (x) &&& lo (y)))) rfl rfl (U_and (lo (x)) (lo (y))) rfl ?_
  refine r_v (Value.agg #[U ((hi (x) &&& hi (y))), U ((lo (x) &&& lo (y)))]) rfl rfl rfl (ev_buildS rfl rfl rfl rfl) ?_
  refine r_s [(b4, 62, #[U ((hi (x) &&& hi (y))), U ((lo (x) &&& lo (y)))]), (b3, 62, #[U (hi (y)), U (lo (y))]), (b2, 62, #[U (hi (x)), U (lo (x))])] 0 _ _ _ (#[U (0#64), U (0#64)]) (#[U ((hi (x) &&& hi (y))), U ((lo (x) &&& lo (y)))]) (#[U ((hi (x) &&& hi (y))), U ((lo (x) &&& lo (y)))]) rfl rfl rfl rfl (.of rfl rfl) rfl rfl ?_
  refine lx_nil ?_
  refine hK5 _ _ ?_; try clear hK5 K5
  refine A_ret (fun hn => ends_eq (v0 := Value.agg #[U ((hi (x) &&& hi (y))), U ((lo (x) &&& lo (y)))]) (by simp only [hi_and, lo_and]) (res1 (res_cell hn 0 rfl rfl rfl)))
set_option maxRecDepth 100000 in
set_option maxHeartbeats 400000 in
theorem or_g (x y : BitVec 128) : Gives Try.prog 34 #[Value.agg #[U (hi (x)), U (lo (x))], Value.agg #[U (hi (y)), U (lo (y))]] (Value.agg #[U (hi (x ||| y)), U (lo (x ||| y))]) := by
  refine gives_of_A follows Try.func34 rfl 16 rfl (upd (upd (fun _ => undef) 1 (Value.agg #[U (hi (y)), U (lo (y))])) 0 (Value.agg #[U (hi (x)), U (lo (x))])) (by funext k; match k with | 0 => rfl | 1 => rfl | k + 2 => rfl) (fun base => ?_)
  refine A_seq fun K1 hK1 => ?_
  refine A_reg ?_
  refine r_a (62, #[U (hi (x)), U (lo (x))]) rfl rfl rfl (fun b2 => ?_) (.inr rfl)
  refine r_a (62, #[U (hi (y)), U (lo (y))]) rfl rfl rfl (fun b3 => ?_) (.inr rfl)
  refine r_a (62, #[U (0#64), U (0#64)]) rfl rfl rfl (fun b4 => ?_) (.inr rfl)
  refine lx_nil ?_
  refine hK1 _ _ ?_; try clear hK1 K1
  refine A_seq fun K5 hK5 => ?_
  refine A_reg ?_
  refine r_v (Value.pointer (some ⟨b2, 0, none⟩)) rfl rfl rfl rfl ?_
  refine r_l (U (hi (x))) 2 _ _ _ _ rfl rfl rfl rfl rfl ?_
  refine r_v (Value.pointer (some ⟨b3, 0, none⟩)) rfl rfl rfl rfl ?_
  refine r_l (U (hi (y))) 1 _ _ _ _ rfl rfl rfl rfl rfl ?_
  refine r_v (U ((hi (x) ||| hi (y)))) rfl rfl (U_or (hi (x)) (hi (y))) rfl ?_
  refine r_v (Value.pointer (some ⟨b2, 1, none⟩)) rfl rfl rfl rfl ?_
  refine r_l (U (lo (x))) 2 _ _ _ _ rfl rfl rfl rfl rfl ?_
  refine r_v (Value.pointer (some ⟨b3, 1, none⟩)) rfl rfl rfl rfl ?_
  refine r_l (U (lo (y))) 1 _ _ _ _ rfl rfl rfl rfl rfl ?_
  refine r_v (U ((lo (x) ||| lo (y)))) rfl rfl (U_or (lo (x)) (lo (y))) rfl ?_
  refine r_v (Value.agg #[U ((hi (x) ||| hi (y))), U ((lo (x) ||| lo (y)))]) rfl rfl rfl (ev_buildS rfl rfl rfl rfl) ?_
  refine r_s [(b4, 62, #[U ((hi (x) ||| hi (y))), U ((lo (x) ||| lo (y)))]), (b3, 62, #[U (hi (y)), U (lo (y))]), (b2, 62, #[U (hi (x)), U (lo (x))])] 0 _ _ _ (#[U (0#64), U (0#64)]) (#[U ((hi (x) ||| hi (y))), U ((lo (x) ||| lo (y)))]) (#[U ((hi (x) ||| hi (y))), U ((lo (x) ||| lo (y)))]) rfl rfl rfl rfl (.of rfl rfl) rfl rfl ?_
  refine lx_nil ?_
  refine hK5 _ _ ?_; try clear hK5 K5
  refine A_ret (fun hn => ends_eq (v0 := Value.agg #[U ((hi (x) ||| hi (y))), U ((lo (x) ||| lo (y)))]) (by simp only [hi_or, lo_or]) (res1 (res_cell hn 0 rfl rfl rfl)))
theorem eg_62 : Try.prog.eqGuardType Try.prog.depth 62 = false := by kernel_rfl
theorem si_62 : Try.prog.stoodInHeld 62 = false := by kernel_rfl
set_option maxRecDepth 100000 in
theorem eqword_62 {c : Addr → Option Value} (x y : BitVec 128) : ev Try.prog c (Op.equal 62 (.agg #[U (hi x), U (lo x)]) (.agg #[U (hi y), U (lo y)])) = some (x == y) := by
  have h := ev_eqStruct (P := Try.prog) (c := c) 9999 (t := 62) #[U (hi x), U (lo x)] #[U (hi y), U (lo y)] rfl si_62 (fun f => if f.offset = 0 then (((hi x).toNat : Int) == ((hi y).toNat : Int)) else (((lo x).toNat : Int) == ((lo y).toNat : Int)))
    (fun f hf => by
      simp only [List.mem_cons, List.not_mem_nil, or_false] at hf
      rcases hf with rfl | rfl
      · exact ⟨by decide, _, _, ev_partS (P := Try.prog) (t := 24) rfl (by intro fs h; cases h) (by intro n e h; cases h) _ _ rfl, ev_partS (P := Try.prog) (t := 24) rfl (by intro fs h; cases h) (by intro n e h; cases h) _ _ rfl, ev_eqInt _ _ _ rfl⟩
      · exact ⟨by decide, _, _, ev_partS (P := Try.prog) (t := 24) rfl (by intro fs h; cases h) (by intro n e h; cases h) _ _ rfl, ev_partS (P := Try.prog) (t := 24) rfl (by intro fs h; cases h) (by intro n e h; cases h) _ _ rfl, ev_eqInt _ _ _ rfl⟩)
  have h2 := word_beq x y
  rw [← h2]
  rw [show Op.equal 62 (.agg #[U (hi x), U (lo x)]) (.agg #[U (hi y), U (lo y)]) = Op.equalIn (9999 + 1) 62 (.agg #[U (hi x), U (lo x)]) (.agg #[U (hi y), U (lo y)]) from rfl, h]
  simp
end Go.Proofs.Ytmiabhodfcidcaa
