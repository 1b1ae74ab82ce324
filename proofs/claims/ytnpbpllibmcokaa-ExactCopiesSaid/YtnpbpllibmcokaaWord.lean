/- words -/
import Derived.Test.YtnpbpllibmcokaaRows
import Derived.Test.YtnpbpllibmcokaaTm
import Derived.Test.YtnpbpllibmcokaaShelf
namespace Go.Proofs.Ytnpbpllibmcokaa
open Go Go.RowKit Go.Eng
theorem follows : Try.prog.follows .mixedOrders = true := by kernel_rfl
theorem call_3 : callB Try.prog 3 = true := by kernel_rfl
theorem call_4 : callB Try.prog 4 = true := by kernel_rfl
theorem call_5 : callB Try.prog 5 = true := by kernel_rfl
theorem call_6 : callB Try.prog 6 = true := by kernel_rfl
theorem call_7 : callB Try.prog 7 = true := by kernel_rfl
theorem call_8 : callB Try.prog 8 = true := by kernel_rfl
theorem call_9 : callB Try.prog 9 = true := by kernel_rfl
theorem call_10 : callB Try.prog 10 = true := by kernel_rfl
theorem call_11 : callB Try.prog 11 = true := by kernel_rfl
theorem call_12 : callB Try.prog 12 = true := by kernel_rfl
theorem call_13 : callB Try.prog 13 = true := by kernel_rfl
theorem call_14 : callB Try.prog 14 = true := by kernel_rfl
theorem call_15 : callB Try.prog 15 = true := by kernel_rfl
theorem call_16 : callB Try.prog 16 = true := by kernel_rfl
theorem call_17 : callB Try.prog 17 = true := by kernel_rfl
theorem call_18 : callB Try.prog 18 = true := by kernel_rfl
theorem call_19 : callB Try.prog 19 = true := by kernel_rfl
theorem call_20 : callB Try.prog 20 = true := by kernel_rfl
theorem call_21 : callB Try.prog 21 = true := by kernel_rfl
theorem call_22 : callB Try.prog 22 = true := by kernel_rfl
theorem call_23 : callB Try.prog 23 = true := by kernel_rfl
theorem call_24 : callB Try.prog 24 = true := by kernel_rfl
theorem call_25 : callB Try.prog 25 = true := by kernel_rfl
theorem call_26 : callB Try.prog 26 = true := by kernel_rfl
theorem call_27 : callB Try.prog 27 = true := by kernel_rfl
theorem call_28 : callB Try.prog 28 = true := by kernel_rfl
theorem call_29 : callB Try.prog 29 = true := by kernel_rfl
theorem call_30 : callB Try.prog 30 = true := by kernel_rfl
theorem call_31 : callB Try.prog 31 = true := by kernel_rfl
theorem call_32 : callB Try.prog 32 = true := by kernel_rfl
theorem call_33 : callB Try.prog 33 = true := by kernel_rfl
theorem call_34 : callB Try.prog 34 = true := by kernel_rfl
theorem call_35 : callB Try.prog 35 = true := by kernel_rfl
theorem call_36 : callB Try.prog 36 = true := by kernel_rfl
theorem call_37 : callB Try.prog 37 = true := by kernel_rfl
theorem call_38 : callB Try.prog 38 = true := by kernel_rfl
theorem call_39 : callB Try.prog 39 = true := by kernel_rfl
theorem call_40 : callB Try.prog 40 = true := by kernel_rfl
theorem call_41 : callB Try.prog 41 = true := by kernel_rfl
theorem call_42 : callB Try.prog 42 = true := by kernel_rfl
theorem call_43 : callB Try.prog 43 = true := by kernel_rfl
theorem call_44 : callB Try.prog 44 = true := by kernel_rfl
theorem call_45 : callB Try.prog 45 = true := by kernel_rfl
theorem call_46 : callB Try.prog 46 = true := by kernel_rfl
theorem call_47 : callB Try.prog 47 = true := by kernel_rfl
theorem call_48 : callB Try.prog 48 = true := by kernel_rfl
theorem call_49 : callB Try.prog 49 = true := by kernel_rfl
theorem call_50 : callB Try.prog 50 = true := by kernel_rfl
theorem call_51 : callB Try.prog 51 = true := by kernel_rfl
theorem call_52 : callB Try.prog 52 = true := by kernel_rfl
theorem call_53 : callB Try.prog 53 = true := by kernel_rfl
theorem call_54 : callB Try.prog 54 = true := by kernel_rfl
theorem call_55 : callB Try.prog 55 = true := by kernel_rfl
theorem call_56 : callB Try.prog 56 = true := by kernel_rfl
theorem call_57 : callB Try.prog 57 = true := by kernel_rfl
theorem call_58 : callB Try.prog 58 = true := by kernel_rfl
theorem call_59 : callB Try.prog 59 = true := by kernel_rfl
theorem call_60 : callB Try.prog 60 = true := by kernel_rfl
theorem call_61 : callB Try.prog 61 = true := by kernel_rfl
theorem call_62 : callB Try.prog 62 = true := by kernel_rfl
theorem call_63 : callB Try.prog 63 = true := by kernel_rfl
theorem call_64 : callB Try.prog 64 = true := by kernel_rfl
theorem call_65 : callB Try.prog 65 = true := by kernel_rfl
theorem call_66 : callB Try.prog 66 = true := by kernel_rfl
theorem call_67 : callB Try.prog 67 = true := by kernel_rfl
theorem call_68 : callB Try.prog 68 = true := by kernel_rfl
theorem call_69 : callB Try.prog 69 = true := by kernel_rfl
theorem call_70 : callB Try.prog 70 = true := by kernel_rfl
theorem call_71 : callB Try.prog 71 = true := by kernel_rfl
theorem call_72 : callB Try.prog 72 = true := by kernel_rfl
theorem call_74 : callB Try.prog 74 = true := by kernel_rfl
theorem ext_73a : Extern.findNext Try.f73 = none := by kernel_rfl
theorem ext_73b : Extern.find Try.f73 = some add64Entry := by kernel_rfl
theorem ext_73c : (Try.f73.name == "runtime.NumGoroutine") = false := by kernel_rfl
set_option maxRecDepth 100000 in
set_option maxHeartbeats 400000 in
theorem halves_g (x : BitVec 128) : Gives Try.prog 72 #[Value.agg #[U (hi (x)), U (lo (x))]] (Value.agg #[U (lo (x)), U (hi (x))]) := by
  refine gives_of_A follows Try.func72 rfl 8 rfl (upd (fun _ => undef) 0 (Value.agg #[U (hi (x)), U (lo (x))])) (by funext k; match k with | 0 => rfl | k + 1 => rfl) (fun base => ?_)
  refine A_seq fun K1 hK1 => ?_
  refine A_reg ?_
  refine r_a (64, #[U (hi (x)), U (lo (x))]) rfl rfl rfl (fun b2 => ?_) (.inr rfl)
  refine r_a (105, #[U (0#64), U (0#64)]) rfl rfl rfl (fun b3 => ?_) (.inr rfl)
  refine lx_nil ?_
  refine hK1 _ _ ?_; try clear hK1 K1
  refine A_seq fun K4 hK4 => ?_
  refine A_reg ?_
  refine r_v (Value.pointer (some ⟨b2, 1, none⟩)) rfl rfl rfl rfl ?_
  refine r_l (U (lo (x))) 1 _ _ _ _ rfl rfl rfl rfl rfl ?_
  refine r_v (Value.pointer (some ⟨b2, 0, none⟩)) rfl rfl rfl rfl ?_
  refine r_l (U (hi (x))) 1 _ _ _ _ rfl rfl rfl rfl rfl ?_
  refine r_v (Value.agg #[U (lo (x)), U (hi (x))]) rfl rfl rfl (ev_buildA rfl rfl rfl rfl) ?_
  refine r_s [(b3, 105, #[U (lo (x)), U (hi (x))]), (b2, 64, #[U (hi (x)), U (lo (x))])] 0 _ _ _ (#[U (0#64), U (0#64)]) (#[U (lo (x)), U (hi (x))]) (#[U (lo (x)), U (hi (x))]) rfl rfl rfl rfl (.of rfl rfl) rfl rfl ?_
  refine lx_nil ?_
  refine hK4 _ _ ?_; try clear hK4 K4
  refine A_ret (fun hn => ends_eq (v0 := Value.agg #[U (lo (x)), U (hi (x))]) rfl (res1 (res_cell hn 0 rfl rfl rfl)))
set_option maxRecDepth 100000 in
set_option maxHeartbeats 400000 in
theorem not_g (x : BitVec 128) : Gives Try.prog 63 #[Value.agg #[U (hi (x)), U (lo (x))]] (Value.agg #[U (hi (~~~(x))), U (lo (~~~(x)))]) := by
  refine gives_of_A follows Try.func63 rfl 10 rfl (upd (fun _ => undef) 0 (Value.agg #[U (hi (x)), U (lo (x))])) (by funext k; match k with | 0 => rfl | k + 1 => rfl) (fun base => ?_)
  refine A_seq fun K1 hK1 => ?_
  refine A_reg ?_
  refine r_a (64, #[U (hi (x)), U (lo (x))]) rfl rfl rfl (fun b2 => ?_) (.inr rfl)
  refine r_a (64, #[U (0#64), U (0#64)]) rfl rfl rfl (fun b3 => ?_) (.inr rfl)
  refine lx_nil ?_
  refine hK1 _ _ ?_; try clear hK1 K1
  refine A_seq fun K4 hK4 => ?_
  refine A_reg ?_
  refine r_v (Value.pointer (some ⟨b2, 0, none⟩)) rfl rfl rfl rfl ?_
  refine r_l (U (hi (x))) 1 _ _ _ _ rfl rfl rfl rfl rfl ?_
  refine r_v (U (~~~(hi (x)))) rfl rfl (U_not (hi (x))) rfl ?_
  refine r_v (Value.pointer (some ⟨b2, 1, none⟩)) rfl rfl rfl rfl ?_
  refine r_l (U (lo (x))) 1 _ _ _ _ rfl rfl rfl rfl rfl ?_
  refine r_v (U (~~~(lo (x)))) rfl rfl (U_not (lo (x))) rfl ?_
  refine r_v (Value.agg #[U (~~~(hi (x))), U (~~~(lo (x)))]) rfl rfl rfl (ev_buildS rfl rfl rfl rfl) ?_
  refine r_s [(b3, 64, #[U (~~~(hi (x))), U (~~~(lo (x)))]), (b2, 64, #[U (hi (x)), U (lo (x))])] 0 _ _ _ (#[U (0#64), U (0#64)]) (#[U (~~~(hi (x))), U (~~~(lo (x)))]) (#[U (~~~(hi (x))), U (~~~(lo (x)))]) rfl rfl rfl rfl (.of rfl rfl) rfl rfl ?_
  refine lx_nil ?_
  refine hK4 _ _ ?_; try clear hK4 K4
  refine A_ret (fun hn => ends_eq (v0 := Value.agg #[U (~~~(hi (x))), U (~~~(lo (x)))]) (by simp only [hi_not, lo_not]) (res1 (res_cell hn 0 rfl rfl rfl)))
set_option maxRecDepth 100000 in
set_option maxHeartbeats 400000 in
theorem sum_g (x y : BitVec 128) (c : Bool) : Gives Try.prog 62 #[Value.agg #[U (hi (x)), U (lo (x))], Value.agg #[U (hi (y)), U (lo (y))], U (cb (c))] (Value.tuple #[Value.agg #[U (hi (x + y + cb128 (c))), U (lo (x + y + cb128 (c)))], U (cb (BitVec.carry 128 (x) (y) (c)))]) := by
  refine gives_of_A follows Try.func62 rfl 38 rfl (upd (upd (upd (fun _ => undef) 2 (U (cb (c)))) 1 (Value.agg #[U (hi (y)), U (lo (y))])) 0 (Value.agg #[U (hi (x)), U (lo (x))])) (by funext k; match k with | 0 => rfl | 1 => rfl | 2 => rfl | k + 3 => rfl) (fun base => ?_)
  refine A_seq fun K1 hK1 => ?_
  refine A_reg ?_
  refine r_a (64, #[U (hi (x)), U (lo (x))]) rfl rfl rfl (fun b2 => ?_) (.inr rfl)
  refine r_a (64, #[U (hi (y)), U (lo (y))]) rfl rfl rfl (fun b3 => ?_) (.inr rfl)
  refine r_a (64, #[U (0#64), U (0#64)]) rfl rfl rfl (fun b4 => ?_) (.inr rfl)
  refine r_v (U (0#64)) rfl rfl rfl rfl ?_
  refine lx_nil ?_
  refine hK1 _ _ ?_; try clear hK1 K1
  refine A_seq fun K5 hK5 => ?_
  refine A_draw [] (by decide +kernel) (fun hn => sep_nil) ?_
  refine r_l (Value.agg #[U (hi (x)), U (lo (x))]) 2 _ _ _ _ rfl rfl rfl rfl rfl ?_
  refine r_c (Value.agg #[U (lo (x)), U (hi (x))]) rfl _ _ (ev_callF rfl call_72 rfl) (halves_g (x)) ?_
  refine r_l (Value.agg #[U (hi (y)), U (lo (y))]) 1 _ _ _ _ rfl rfl rfl rfl rfl ?_
  refine r_c (Value.agg #[U (lo (y)), U (hi (y))]) rfl _ _ (ev_callF rfl call_72 rfl) (halves_g (y)) ?_
  refine r_a (105, #[U (0#64), U (0#64)]) rfl rfl rfl (fun b6 => ?_) (.inl rfl)
  refine r_a (105, #[U (0#64), U (0#64)]) rfl rfl rfl (fun b7 => ?_) (.inl rfl)
  refine r_sn [(b7, 105, #[U (0#64), U (0#64)]), (b6, 105, #[U (lo (x)), U (hi (x))]), (b4, 64, #[U (0#64), U (0#64)]), (b3, 64, #[U (hi (y)), U (lo (y))]), (b2, 64, #[U (hi (x)), U (lo (x))])] 1 _ _ _ (#[U (0#64), U (0#64)]) (#[U (lo (x)), U (hi (x))]) (#[U (lo (x)), U (hi (x))]) rfl rfl rfl rfl rfl (.of rfl rfl) rfl rfl ?_
  refine r_sn [(b7, 105, #[U (lo (y)), U (hi (y))]), (b6, 105, #[U (lo (x)), U (hi (x))]), (b4, 64, #[U (0#64), U (0#64)]), (b3, 64, #[U (hi (y)), U (lo (y))]), (b2, 64, #[U (hi (x)), U (lo (x))])] 0 _ _ _ (#[U (0#64), U (0#64)]) (#[U (lo (y)), U (hi (y))]) (#[U (lo (y)), U (hi (y))]) rfl rfl rfl rfl rfl (.of rfl rfl) rfl rfl ?_
  refine lx_nil ?_
  refine hK5 _ _ ?_; try clear hK5 K5
  refine A_seq fun K8 hK8 => ?_
  refine A_seq fun K9 hK9 => ?_
  refine A_reg ?_
  refine r_v (Value.int .i64 (0)) rfl rfl rfl rfl ?_
  refine lx_nil ?_
  refine hK9 _ _ ?_; try clear hK9 K9
  refine A_block ?_
  refine A_unroll fun K10 hK10 => ?_
  refine A_seq fun K11 hK11 => ?_
  refine A_reg ?_
  refine r_v (Value.bool (true)) rfl rfl rfl rfl ?_
  refine lx_nil ?_
  refine hK11 _ _ ?_; try clear hK11 K11
  refine A_seq fun K12 hK12 => ?_
  refine A_cond true rfl (fun _ => ?_) (fun h_ => nomatch h_)
  refine A_skip ?_
  refine hK12 _ _ ?_; try clear hK12 K12
  refine A_seq fun K14 hK14 => ?_
  refine A_block ?_
  refine A_seq fun K15 hK15 => ?_
  refine A_reg ?_
  refine r_v (Value.int .i64 (0)) rfl rfl rfl rfl ?_
  refine r_v (Value.int .i64 (0)) rfl rfl rfl rfl ?_
  refine lx_nil ?_
  refine hK15 _ _ ?_; try clear hK15 K15
  refine A_draw [] (by decide +kernel) (fun hn => sep_nil) ?_
  refine r_v (Value.int .i64 (0)) rfl rfl rfl rfl ?_
  refine r_v (Value.int .i64 (0)) rfl rfl rfl rfl ?_
  refine r_v (Value.pointer (some ⟨b6, 0, none⟩)) rfl rfl rfl rfl ?_
  refine r_l (U (lo (x))) 1 _ _ _ _ rfl rfl rfl rfl rfl ?_
  refine r_v (Value.int .i64 (0)) rfl rfl rfl rfl ?_
  refine r_v (Value.pointer (some ⟨b7, 0, none⟩)) rfl rfl rfl rfl ?_
  refine r_l (U (lo (y))) 0 _ _ _ _ rfl rfl rfl rfl rfl ?_
  refine r_v (U (cb (c))) rfl rfl rfl rfl ?_
  refine r_v (Value.tuple #[U ((lo (x)) + (lo (y)) + cb (c)), U (cb (BitVec.carry 64 (lo (x)) (lo (y)) (c)))]) rfl rfl rfl (ev_callX rfl Try.func73 rfl ext_73c ext_73a ext_73b rfl (ev_add64 (lo (x)) (lo (y)) (c))) ?_
  refine r_v (Value.tuple #[U ((lo (x)) + (lo (y)) + cb (c)), U (cb (BitVec.carry 64 (lo (x)) (lo (y)) (c)))]) rfl rfl rfl rfl ?_
  refine r_v (U ((lo (x)) + (lo (y)) + cb (c))) rfl rfl rfl rfl ?_
  refine r_v (U (cb (BitVec.carry 64 (lo (x)) (lo (y)) (c)))) rfl rfl rfl rfl ?_
  refine r_v (Value.pointer (some ⟨b6, 0, none⟩)) rfl rfl rfl rfl ?_
  refine r_s [(b7, 105, #[U (lo (y)), U (hi (y))]), (b6, 105, #[U ((lo (x)) + (lo (y)) + cb (c)), U (hi (x))]), (b4, 64, #[U (0#64), U (0#64)]), (b3, 64, #[U (hi (y)), U (lo (y))]), (b2, 64, #[U (hi (x)), U (lo (x))])] 1 _ _ _ (#[U (lo (x)), U (hi (x))]) (#[U ((lo (x)) + (lo (y)) + cb (c))]) (#[U ((lo (x)) + (lo (y)) + cb (c)), U (hi (x))]) rfl rfl rfl rfl (.of rfl rfl) rfl rfl ?_
  refine r_v (U (cb (BitVec.carry 64 (lo (x)) (lo (y)) (c)))) rfl rfl rfl rfl ?_
  refine lx_nil ?_
  refine hK14 _ _ ?_; try clear hK14 K14
  refine A_reg ?_
  refine r_v (Value.int .i64 (1)) rfl rfl (wi64 rfl (by decide) (by decide)) rfl ?_
  refine r_v (Value.int .i64 (1)) rfl rfl rfl rfl ?_
  refine lx_nil ?_
  refine hK10 _ _ ?_; try clear hK10 K10
  refine AL_unroll fun K16 hK16 => ?_
  refine A_seq fun K17 hK17 => ?_
  refine A_reg ?_
  refine r_v (Value.bool (true)) rfl rfl rfl rfl ?_
  refine lx_nil ?_
  refine hK17 _ _ ?_; try clear hK17 K17
  refine A_seq fun K18 hK18 => ?_
  refine A_cond true rfl (fun _ => ?_) (fun h_ => nomatch h_)
  refine A_skip ?_
  refine hK18 _ _ ?_; try clear hK18 K18
  refine A_seq fun K20 hK20 => ?_
  refine A_block ?_
  refine A_seq fun K21 hK21 => ?_
  refine A_reg ?_
  refine r_v (Value.int .i64 (1)) rfl rfl rfl rfl ?_
  refine r_v (Value.int .i64 (1)) rfl rfl rfl rfl ?_
  refine lx_nil ?_
  refine hK21 _ _ ?_; try clear hK21 K21
  refine A_draw [] (by decide +kernel) (fun hn => sep_nil) ?_
  refine r_v (Value.int .i64 (1)) rfl rfl rfl rfl ?_
  refine r_v (Value.int .i64 (1)) rfl rfl rfl rfl ?_
  refine r_v (Value.pointer (some ⟨b6, 1, none⟩)) rfl rfl rfl rfl ?_
  refine r_l (U (hi (x))) 1 _ _ _ _ rfl rfl rfl rfl rfl ?_
  refine r_v (Value.int .i64 (1)) rfl rfl rfl rfl ?_
  refine r_v (Value.pointer (some ⟨b7, 1, none⟩)) rfl rfl rfl rfl ?_
  refine r_l (U (hi (y))) 0 _ _ _ _ rfl rfl rfl rfl rfl ?_
  refine r_v (U (cb (BitVec.carry 64 (lo (x)) (lo (y)) (c)))) rfl rfl rfl rfl ?_
  refine r_v (Value.tuple #[U ((hi (x)) + (hi (y)) + cb (BitVec.carry 64 (lo (x)) (lo (y)) (c))), U (cb (BitVec.carry 64 (hi (x)) (hi (y)) (BitVec.carry 64 (lo (x)) (lo (y)) (c))))]) rfl rfl rfl (ev_callX rfl Try.func73 rfl ext_73c ext_73a ext_73b rfl (ev_add64 (hi (x)) (hi (y)) (BitVec.carry 64 (lo (x)) (lo (y)) (c)))) ?_
  refine r_v (Value.tuple #[U ((hi (x)) + (hi (y)) + cb (BitVec.carry 64 (lo (x)) (lo (y)) (c))), U (cb (BitVec.carry 64 (hi (x)) (hi (y)) (BitVec.carry 64 (lo (x)) (lo (y)) (c))))]) rfl rfl rfl rfl ?_
  refine r_v (U ((hi (x)) + (hi (y)) + cb (BitVec.carry 64 (lo (x)) (lo (y)) (c)))) rfl rfl rfl rfl ?_
  refine r_v (U (cb (BitVec.carry 64 (hi (x)) (hi (y)) (BitVec.carry 64 (lo (x)) (lo (y)) (c))))) rfl rfl rfl rfl ?_
  refine r_v (Value.pointer (some ⟨b6, 1, none⟩)) rfl rfl rfl rfl ?_
  refine r_s [(b7, 105, #[U (lo (y)), U (hi (y))]), (b6, 105, #[U ((lo (x)) + (lo (y)) + cb (c)), U ((hi (x)) + (hi (y)) + cb (BitVec.carry 64 (lo (x)) (lo (y)) (c)))]), (b4, 64, #[U (0#64), U (0#64)]), (b3, 64, #[U (hi (y)), U (lo (y))]), (b2, 64, #[U (hi (x)), U (lo (x))])] 1 _ _ _ (#[U ((lo (x)) + (lo (y)) + cb (c)), U (hi (x))]) (#[U ((hi (x)) + (hi (y)) + cb (BitVec.carry 64 (lo (x)) (lo (y)) (c)))]) (#[U ((lo (x)) + (lo (y)) + cb (c)), U ((hi (x)) + (hi (y)) + cb (BitVec.carry 64 (lo (x)) (lo (y)) (c)))]) rfl rfl rfl rfl (.of rfl rfl) rfl rfl ?_
  refine r_v (U (cb (BitVec.carry 64 (hi (x)) (hi (y)) (BitVec.carry 64 (lo (x)) (lo (y)) (c))))) rfl rfl rfl rfl ?_
  refine lx_nil ?_
  refine hK20 _ _ ?_; try clear hK20 K20
  refine A_reg ?_
  refine r_v (Value.int .i64 (2)) rfl rfl (wi64 rfl (by decide) (by decide)) rfl ?_
  refine r_v (Value.int .i64 (2)) rfl rfl rfl rfl ?_
  refine lx_nil ?_
  refine hK16 _ _ ?_; try clear hK16 K16
  refine AL_unroll fun K22 hK22 => ?_
  refine A_seq fun K23 hK23 => ?_
  refine A_reg ?_
  refine r_v (Value.bool (false)) rfl rfl rfl rfl ?_
  refine lx_nil ?_
  refine hK23 _ _ ?_; try clear hK23 K23
  refine A_seq fun K24 hK24 => ?_
  refine A_cond false rfl (fun h_ => nomatch h_) (fun _ => ?_)
  refine A_exit ?_
  refine hK8 _ _ ?_; try clear hK8 K8
  refine A_seq fun K26 hK26 => ?_
  refine A_reg ?_
  refine r_v (Value.pointer (some ⟨b6, 1, none⟩)) rfl rfl rfl rfl ?_
  refine r_l (U ((hi (x)) + (hi (y)) + cb (BitVec.carry 64 (lo (x)) (lo (y)) (c)))) 1 _ _ _ _ rfl rfl rfl rfl rfl ?_
  refine r_v (Value.pointer (some ⟨b6, 0, none⟩)) rfl rfl rfl rfl ?_
  refine r_l (U ((lo (x)) + (lo (y)) + cb (c))) 1 _ _ _ _ rfl rfl rfl rfl rfl ?_
  refine r_v (Value.agg #[U ((hi (x)) + (hi (y)) + cb (BitVec.carry 64 (lo (x)) (lo (y)) (c))), U ((lo (x)) + (lo (y)) + cb (c))]) rfl rfl rfl (ev_buildS rfl rfl rfl rfl) ?_
  refine r_v (U (cb (BitVec.carry 64 (hi (x)) (hi (y)) (BitVec.carry 64 (lo (x)) (lo (y)) (c))))) rfl rfl rfl rfl ?_
  refine r_s [(b7, 105, #[U (lo (y)), U (hi (y))]), (b6, 105, #[U ((lo (x)) + (lo (y)) + cb (c)), U ((hi (x)) + (hi (y)) + cb (BitVec.carry 64 (lo (x)) (lo (y)) (c)))]), (b4, 64, #[U ((hi (x)) + (hi (y)) + cb (BitVec.carry 64 (lo (x)) (lo (y)) (c))), U ((lo (x)) + (lo (y)) + cb (c))]), (b3, 64, #[U (hi (y)), U (lo (y))]), (b2, 64, #[U (hi (x)), U (lo (x))])] 2 _ _ _ (#[U (0#64), U (0#64)]) (#[U ((hi (x)) + (hi (y)) + cb (BitVec.carry 64 (lo (x)) (lo (y)) (c))), U ((lo (x)) + (lo (y)) + cb (c))]) (#[U ((hi (x)) + (hi (y)) + cb (BitVec.carry 64 (lo (x)) (lo (y)) (c))), U ((lo (x)) + (lo (y)) + cb (c))]) rfl rfl rfl rfl (.of rfl rfl) rfl rfl ?_
  refine r_v (U (cb (BitVec.carry 64 (hi (x)) (hi (y)) (BitVec.carry 64 (lo (x)) (lo (y)) (c))))) rfl rfl rfl rfl ?_
  refine lx_nil ?_
  refine hK26 _ _ ?_; try clear hK26 K26
  refine A_ret (fun hn => ends_eq (v0 := Value.tuple #[Value.agg #[U ((hi (x)) + (hi (y)) + cb (BitVec.carry 64 (lo (x)) (lo (y)) (c))), U ((lo (x)) + (lo (y)) + cb (c))], U (cb (BitVec.carry 64 (hi (x)) (hi (y)) (BitVec.carry 64 (lo (x)) (lo (y)) (c))))]) (by simp only [hi_sum, lo_sum, carry_sum]) (res2 (res_cell hn 2 rfl rfl rfl) rfl))
set_option maxRecDepth 100000 in
set_option maxHeartbeats 400000 in
theorem sub_g (x y : BitVec 128) : Gives Try.prog 42 #[Value.agg #[U (hi (x)), U (lo (x))], Value.agg #[U (hi (y)), U (lo (y))]] (Value.tuple #[Value.agg #[U (hi ((x) - (y))), U (lo ((x) - (y)))], Value.bool (decide ((x) < (y)))]) := by
  refine gives_of_A follows Try.func42 rfl 18 rfl (upd (upd (fun _ => undef) 1 (Value.agg #[U (hi (y)), U (lo (y))])) 0 (Value.agg #[U (hi (x)), U (lo (x))])) (by funext k; match k with | 0 => rfl | 1 => rfl | k + 2 => rfl) (fun base => ?_)
  refine A_seq fun K1 hK1 => ?_
  refine A_reg ?_
  refine r_a (64, #[U (hi (x)), U (lo (x))]) rfl rfl rfl (fun b2 => ?_) (.inr rfl)
  refine r_a (64, #[U (hi (y)), U (lo (y))]) rfl rfl rfl (fun b3 => ?_) (.inr rfl)
  refine r_a (64, #[U (0#64), U (0#64)]) rfl rfl rfl (fun b4 => ?_) (.inr rfl)
  refine r_v (Value.bool (false)) rfl rfl rfl rfl ?_
  refine lx_nil ?_
  refine hK1 _ _ ?_; try clear hK1 K1
  refine A_seq fun K5 hK5 => ?_
  refine A_draw [] (by decide +kernel) (fun hn => sep_nil) ?_
  refine r_l (Value.agg #[U (hi (x)), U (lo (x))]) 2 _ _ _ _ rfl rfl rfl rfl rfl ?_
  refine r_l (Value.agg #[U (hi (y)), U (lo (y))]) 1 _ _ _ _ rfl rfl rfl rfl rfl ?_
  refine r_c (Value.agg #[U (hi (~~~(y))), U (lo (~~~(y)))]) rfl _ _ (ev_callF rfl call_63 rfl) (not_g (y)) ?_
  refine r_c (Value.tuple #[Value.agg #[U (hi (x + ~~~(y) + cb128 (true))), U (lo (x + ~~~(y) + cb128 (true)))], U (cb (BitVec.carry 128 (x) (~~~(y)) (true)))]) rfl _ _ (ev_callF rfl call_62 rfl) (sum_g (x) (~~~(y)) (true)) ?_
  refine r_v (Value.tuple #[Value.agg #[U (hi (x + ~~~(y) + cb128 (true))), U (lo (x + ~~~(y) + cb128 (true)))], U (cb (BitVec.carry 128 (x) (~~~(y)) (true)))]) rfl rfl rfl rfl ?_
  refine r_v (Value.agg #[U (hi (x + ~~~(y) + cb128 (true))), U (lo (x + ~~~(y) + cb128 (true)))]) rfl rfl rfl rfl ?_
  refine r_v (U (cb (BitVec.carry 128 (x) (~~~(y)) (true)))) rfl rfl rfl rfl ?_
  refine r_a (64, #[U (0#64), U (0#64)]) rfl rfl rfl (fun b6 => ?_) (.inl rfl)
  refine r_sn [(b6, 64, #[U (hi (x + ~~~(y) + cb128 (true))), U (lo (x + ~~~(y) + cb128 (true)))]), (b4, 64, #[U (0#64), U (0#64)]), (b3, 64, #[U (hi (y)), U (lo (y))]), (b2, 64, #[U (hi (x)), U (lo (x))])] 0 _ _ _ (#[U (0#64), U (0#64)]) (#[U (hi (x + ~~~(y) + cb128 (true))), U (lo (x + ~~~(y) + cb128 (true)))]) (#[U (hi (x + ~~~(y) + cb128 (true))), U (lo (x + ~~~(y) + cb128 (true)))]) rfl rfl rfl rfl rfl (.of rfl rfl) rfl rfl ?_
  refine r_v (U (cb (BitVec.carry 128 (x) (~~~(y)) (true)))) rfl rfl rfl rfl ?_
  refine lx_nil ?_
  refine hK5 _ _ ?_; try clear hK5 K5
  refine A_seq fun K7 hK7 => ?_
  refine A_reg ?_
  refine r_l (Value.agg #[U (hi (x + ~~~(y) + cb128 (true))), U (lo (x + ~~~(y) + cb128 (true)))]) 0 _ _ _ _ rfl rfl rfl rfl rfl ?_
  refine r_v (U (cb (BitVec.carry 128 (x) (~~~(y)) (true)))) rfl rfl rfl rfl ?_
  refine r_v (Value.bool ((cb (BitVec.carry 128 (x) (~~~(y)) (true))) == (0#64))) rfl rfl (U_eq (cb (BitVec.carry 128 (x) (~~~(y)) (true))) (0#64)) rfl ?_
  refine r_s [(b6, 64, #[U (hi (x + ~~~(y) + cb128 (true))), U (lo (x + ~~~(y) + cb128 (true)))]), (b4, 64, #[U (hi (x + ~~~(y) + cb128 (true))), U (lo (x + ~~~(y) + cb128 (true)))]), (b3, 64, #[U (hi (y)), U (lo (y))]), (b2, 64, #[U (hi (x)), U (lo (x))])] 1 _ _ _ (#[U (0#64), U (0#64)]) (#[U (hi (x + ~~~(y) + cb128 (true))), U (lo (x + ~~~(y) + cb128 (true)))]) (#[U (hi (x + ~~~(y) + cb128 (true))), U (lo (x + ~~~(y) + cb128 (true)))]) rfl rfl rfl rfl (.of rfl rfl) rfl rfl ?_
  refine r_v (Value.bool ((cb (BitVec.carry 128 (x) (~~~(y)) (true))) == (0#64))) rfl rfl rfl rfl ?_
  refine lx_nil ?_
  refine hK7 _ _ ?_; try clear hK7 K7
  refine A_ret (fun hn => ends_eq (v0 := Value.tuple #[Value.agg #[U (hi (x + ~~~(y) + cb128 (true))), U (lo (x + ~~~(y) + cb128 (true)))], Value.bool ((cb (BitVec.carry 128 (x) (~~~(y)) (true))) == (0#64))]) (by simp only [cb_zero, sub_sum, sub_carry, Bool.not_not]) (res2 (res_cell hn 1 rfl rfl rfl) rfl))
theorem eg_64 : Try.prog.eqGuardType Try.prog.depth 64 = false := by kernel_rfl
theorem si_64 : Try.prog.stoodInHeld 64 = false := by kernel_rfl
set_option maxRecDepth 100000 in
theorem eqword_64 {c : Addr → Option Value} (x y : BitVec 128) : ev Try.prog c (Op.equal 64 (.agg #[U (hi x), U (lo x)]) (.agg #[U (hi y), U (lo y)])) = some (x == y) := by
  have h := ev_eqStruct (P := Try.prog) (c := c) 9999 (t := 64) #[U (hi x), U (lo x)] #[U (hi y), U (lo y)] rfl si_64 (fun f => if f.offset = 0 then (((hi x).toNat : Int) == ((hi y).toNat : Int)) else (((lo x).toNat : Int) == ((lo y).toNat : Int)))
    (fun f hf => by
      simp only [List.mem_cons, List.not_mem_nil, or_false] at hf
      rcases hf with rfl | rfl
      · exact ⟨by decide, _, _, ev_partS (P := Try.prog) (t := 29) rfl (by intro fs h; cases h) (by intro n e h; cases h) _ _ rfl, ev_partS (P := Try.prog) (t := 29) rfl (by intro fs h; cases h) (by intro n e h; cases h) _ _ rfl, ev_eqInt _ _ _ rfl⟩
      · exact ⟨by decide, _, _, ev_partS (P := Try.prog) (t := 29) rfl (by intro fs h; cases h) (by intro n e h; cases h) _ _ rfl, ev_partS (P := Try.prog) (t := 29) rfl (by intro fs h; cases h) (by intro n e h; cases h) _ _ rfl, ev_eqInt _ _ _ rfl⟩)
  have h2 := word_beq x y
  rw [← h2]
  rw [show Op.equal 64 (.agg #[U (hi x), U (lo x)]) (.agg #[U (hi y), U (lo y)]) = Op.equalIn (9999 + 1) 64 (.agg #[U (hi x), U (lo x)]) (.agg #[U (hi y), U (lo y)]) from rfl, h]
  simp
end Go.Proofs.Ytnpbpllibmcokaa
